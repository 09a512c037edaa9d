import PyProof.Rows.All
import Wide.All
import OpenK.AllK
import Wide.FinOn
import Lean
import PyProof.EqAt
import PyProof.EqKinds
import PyProof.TupleCall
import PySem.Challenge.RW_netsieve_k21_need
set_option Elab.async false
set_option linter.all false
set_option maxRecDepth 100000
namespace L2
open PySem PySem.Spec PyProof.Rows
noncomputable abbrev Key:=Sum Int Str
noncomputable def vk:Key→Value→Bool
 | .inl k,v=>Value.isInt k v
 | .inr x,v=>Value.isStrOf x v
noncomputable def keyH (w:World):Key→Int
 | .inl k=>hashInt k
 | .inr x=>hashStr w x
theorem Jb:∀ {k:Key} {v:Value},vk k v=true→(∃ i t,k=Sum.inl i∧v=Value.int i t)∨(∃ x t,k=Sum.inr x∧v=Value.str x t)
 | .inl i,v,h=>by
  obtain ⟨t,e⟩:=Value.isInt_shape (k:=i) (v:=v) h
  exact .inl ⟨i,t,rfl,e⟩
 | .inr x,v,h=>by
  obtain ⟨t,e⟩:=Value.isStrOf_shape (x:=x) (v:=v) h
  exact .inr ⟨x,t,rfl,e⟩
theorem c7 (i:Int) (t:Tok):vk (.inl i) (.int i t)=true:=by simp [vk,Value.isInt]
theorem c6 (x:Str) (t:Tok):vk (.inr x) (.str x t)=true:=by simp [vk,Value.isStrOf]
theorem ah5 (a b:Int):decide ((Sum.inl a:Key)=Sum.inl b)=(a == b):=by
 by_cases e:a=b
 ·subst e;simp
 ·have h:¬ (Sum.inl a:Key)=Sum.inl b:=fun q=>e (Sum.inl.inj q)
  rw [decide_eq_false h]
  exact (beq_eq_false_iff_ne.mpr e).symm
theorem ah2 (a b:Str):decide ((Sum.inr a:Key)=Sum.inr b)=decide (a=b):=by
 by_cases e:a=b
 ·subst e;simp
 ·have h:¬ (Sum.inr a:Key)=Sum.inr b:=fun q=>e (Sum.inr.inj q)
  rw [decide_eq_false h,decide_eq_false e]
theorem ah4 (a:Int) (b:Str):decide ((Sum.inl a:Key)=Sum.inr b)=false:=decide_eq_false (fun q=>nomatch q)
theorem ah3 (a:Str) (b:Int):decide ((Sum.inr a:Key)=Sum.inl b)=false:=decide_eq_false (fun q=>nomatch q)
noncomputable def Jr (prog:Program) (w:World):PySem.KeyKind prog w Key where
 is:=vk
 hash:=keyH w
 inj:=fun v a b ha hb=>by
  rcases Jb ha with ⟨i,t,rfl,rfl⟩ | ⟨x,t,rfl,rfl⟩
  ·rcases Jb hb with ⟨j,u,rfl,e⟩ | ⟨y,u,rfl,e⟩
   ·injection e with e1 _;rw [e1]
   ·exact nomatch e
  ·rcases Jb hb with ⟨j,u,rfl,e⟩ | ⟨y,u,rfl,e⟩
   ·exact nomatch e
   ·injection e with e1 _;rw [e1]
 byValue:=fun k v h=>by
  rcases Jb h with ⟨i,t,rfl,rfl⟩ | ⟨x,t,rfl,rfl⟩ <;> rfl
 pyHash:=fun hv h=>by
  rcases Jb hv with ⟨i,t,rfl,rfl⟩ | ⟨x,t,rfl,rfl⟩
  ·exact wpAny_pyHash_int h
  ·exact wpAny_pyHash_str h
 eqBool:=fun hu hv h=>by
  rcases Jb hu with ⟨i,t,rfl,rfl⟩ | ⟨x,t,rfl,rfl⟩
  ·rcases Jb hv with ⟨j,u,rfl,rfl⟩ | ⟨y,u,rfl,rfl⟩
   ·rw [ah5] at h;exact wpAny_eqBool_int h
   ·rw [ah4] at h;exact SeqAt.EqAt.int_str i t y u _ _ _ _ h
  ·rcases Jb hv with ⟨j,u,rfl,rfl⟩ | ⟨y,u,rfl,rfl⟩
   ·rw [ah3] at h;exact SeqAt.EqAt.str_int x t j u _ _ _ _ h
   ·rw [ah2] at h;exact wpAny_eqBool_str h
 «strs»:=fun k x t v h=>by
  rcases Jb h with ⟨i,u,rfl,e⟩ | ⟨y,u,rfl,e⟩
  ·exact nomatch e
  ·injection e with e1 _
   subst e1
   cases v <;> rfl
theorem gm (prog:Program) (w:World) (i:Int) (t:Tok):(Jr prog w).is (.inl i) (.int i t)=true:=c7 i t
theorem gn (prog:Program) (w:World) (x:Str) (t:Tok):(Jr prog w).is (.inr x) (.str x t)=true:=c6 x t
end L2
namespace L2
open PySem PySem.Spec PyProof.Rows
inductive V where
 | non | bl (b:Bool) | int (i:Int) | str (x:Str) | byt (b:Array UInt8) | flt (b:UInt64) | ref (a:Addr) | ty (n:String)
 deriving DecidableEq
noncomputable def J3:V→Value→Prop
 | .non,u=>u=Value.none
 | .bl b,u=>u=Value.bool b
 | .int i,u=>∃ t,u=Value.int i t
 | .str x,u=>∃ t,u=Value.str x t
 | .byt b,u=>∃ t,u=Value.bytes b t
 | .flt b,u=>∃ t,u=Value.float b t
 | .ref a,u=>u=Value.ref a
 | .ty n,u=>u=Value.type n
noncomputable abbrev J7:List V→List Value→Prop:=Paired J3
theorem J7.length {xs:List V} {us:List Value} (r:J7 xs us):xs.length=us.length:=Paired.length r
theorem J7.get:∀ {xs:List V} {us:List Value} {i:Nat} {x:V},J7 xs us→xs[i]? =some x→∃ u,us[i]? =some u∧J3 x u
 | _,_,_,_,.nil,e=>by simp at e
 | _,_,0,_,.cons r _,e=>by simp at e;subst e;exact ⟨_,rfl,r⟩
 | _,_,i + 1,x,.cons _ t,e=>by
  obtain ⟨u,h1,h2⟩:=J7.get (i:=i) (x:=x) t (by simpa using e)
  exact ⟨u,by simpa using h1,h2⟩
theorem J7.append:∀ {xs ys:List V} {us ws:List Value},J7 xs us→J7 ys ws→J7 (xs++ys) (us++ws)
 | _,_,_,_,.nil,s=>s
 | _,_,_,_,.cons r t,s=>.cons r (J7.append t s)
theorem J7.take:∀ {xs:List V} {us:List Value} (n:Nat),J7 xs us→J7 (xs.take n) (us.take n)
 | _,_,0,_=>.nil
 | _,_,_ + 1,.nil=>.nil
 | _,_,n + 1,.cons r t=>.cons r (J7.take n t)
theorem J7.drop:∀ {xs:List V} {us:List Value} (n:Nat),J7 xs us→J7 (xs.drop n) (us.drop n)
 | _,_,0,r=>r
 | _,_,_ + 1,.nil=>.nil
 | _,_,n + 1,.cons _ t=>J7.drop n t
noncomputable def Zt:Option V→Option Value→Prop
 | some v,some u=>J3 v u
 | none,none=>True
 | _,_=>False
noncomputable def KV {κ:Type}:List (κ×V)→List (κ×Value)→Prop:=Paired fun (p:κ×V) (q:κ×Value)=>p.1=q.1∧J3 p.2 q.2
noncomputable def kV:Key→V
 | .inl i=>.int i
 | .inr x=>.str x
inductive HO where
 | lst (xs:List V)
 | tup (xs:List V)
 | dK (kvs:List (Key×V)) | dT (kvs:List (List Key×V))
 | set (S:Int→Bool) (n:Nat)
 | ins (C dx:Addr) (fs:List (Str×V))
 | own (x:Addr)
 | xd (fs:List (Str×V))
 | met (f x:Addr)
 | rng (lo hi:Int)
 | frz (o:Obj) (u:HO)
 | tbl (ps:Array Value)
 | ext (φ:Heap→Prop)
noncomputable abbrev Hp:=Addr→Option HO
noncomputable def upd (H:Hp) (a:Addr) (o:HO):Hp:=fun b=>if b=a then some o else H b
theorem jt {H:Hp} {a:Addr} {o:HO}:upd H a o a=some o:=by unfold upd;rw [if_pos rfl]
theorem jw {H:Hp} {a b:Addr} {o:HO} (h:b≠a):upd H a o b=H b:=by unfold upd;rw [if_neg h]
theorem V8 {H:Hp} {a:Addr} {o u:HO}:upd (upd H a o) a u=upd H a u:=by
 funext b;unfold upd;split <;> rfl
theorem ap2 {H:Hp} {a b:Addr} {o u:HO} (h:H a=some o) (h':H b=some u) (d:o≠u):a≠b:=by
 intro e;subst e;rw [h] at h';exact d (Option.some.inj h')
theorem jj {H:Hp} {a b:Addr} {o:HO} (h:H a=some o) (h':H b=none):a≠b:=by
 intro e;subst e;rw [h] at h';cases h'
section
variable (P:Program) (w:World)
noncomputable def ul (H:Hp) (h:Heap) (a:Addr):HO→Prop
 | .lst xs=>xs.length≤sizeLine∧∃ (its:List Value) (n:Nat),J7 xs its∧h.get? a=some { cls:=.type "list",data:=.seq its.toArray n}
 | .tup xs=>xs.length≤sizeLine∧∃ its:List Value,J7 xs its∧IsTup h a its.toArray
 | .dK kvs=>kvs.length≤sizeLine∧(a == sysModules)=false∧∃ vs,KV kvs vs∧h.DictOf (Jr P w) a vs
 | .dT kvs=>kvs.length≤sizeLine∧(a == sysModules)=false∧∃ xs:List (List Key×Addr×Value),
   Paired (fun (p:List Key×V) (q:List Key×Addr×Value)=>p.1=q.1∧H q.2.1=some (.tup (p.1.map kV))∧J3 p.2 q.2.2) kvs xs ∧
   ∃ o es ep,h.get? a=some o∧o.ExactDict∧o.data=.dict es ep∧es.toList=xs.map (entryOfKey (tupleKind (Jr P w)))∧(xs.map (·.1)).Nodup
 | .set S n=>h.SetOf (intKind P w) a S n
 | .ins C dx fs=>H dx=some (.own a)∧fs.length≤1000∧dx≠a∧h.get? a=some (PySem.W.instObj C dx) ∧
   ∃ mA,h.Ns1 dx mA∧(∀ f,Zt (fs.lookup f) (mA f))∧PySem.Within mA (fs.map (·.1))
 | .own _=>∃ o,h.get? a=some o
 | .xd fs=>∃ mA,h.Ns1 a mA∧∀ f,Zt (fs.lookup f) (mA f)
 | .rng lo hi=>∃ t u v,h.get? a=some { cls:=.type "range",data:=.fields #[.int lo t,.int hi u,.int 1 v]}
 | .frz o u=>h.get? a=some o∧ul H h a u
 | .tbl ps=>h.get? a=some { cls:=.none,data:=.fields ps}
 | .met f x=>h.get? a=some (PySem.W.methodObj (.ref f) (.ref x))
 | .ext φ=>φ h∧(∃ o,h.get? a=some o)∧∀ h1 h2:Heap,φ h1→(∀ o,h1.get? a=some o→h2.get? a=some o)→φ h2
noncomputable def HOk (H:Hp) (h:Heap):Prop:=∀ a o,H a=some o→ul P w H h a o
end
section
variable {P:Program} {w:World} {H H':Hp} {h h':Heap} {a:Addr} {o:HO}
theorem ul.lt (x:ul P w H h a o):a < h.objs.size:=by
 cases o with
 | lst xs=>obtain ⟨_,_,_,_,e⟩:=x;exact Heap.lt_size e
 | tup xs=>obtain ⟨_,_,_,p⟩:=x;exact p.lt
 | dK kvs=>obtain ⟨_,_,_,_,o,_,_,e,_⟩:=x;exact Heap.lt_size e
 | dT kvs=>obtain ⟨_,_,_,_,o,_,_,e,_⟩:=x;exact Heap.lt_size e
 | set S n=>obtain ⟨o,_,_,_,e,_⟩:=x;exact Heap.lt_size e
 | ins C dx fs=>obtain ⟨_,_,_,e,_⟩:=x;exact Heap.lt_size e
 | own y=>obtain ⟨_,e⟩:=x;exact Heap.lt_size e
 | xd fs=>obtain ⟨_,⟨_,_,_,e,_⟩,_⟩:=x;exact Heap.lt_size e
 | rng lo hi=>obtain ⟨_,_,_,e⟩:=x;exact Heap.lt_size e
 | frz ob u=>obtain ⟨e,_⟩:=x;exact Heap.lt_size e
 | tbl ps=>exact Heap.lt_size (show h.get? a=some _ from x)
 | met f y=>exact Heap.lt_size (show h.get? a=some _ from x)
 | ext φ=>obtain ⟨_,⟨_,e⟩,_⟩:=x;exact Heap.lt_size e
theorem Paired.mapP {α β:Type} {F G:α→β→Prop}:∀ {l₁:List α} {l₂:List β},Paired F l₁ l₂→(∀ a b,F a b→G a b)→Paired G l₁ l₂
 | _,_,.nil,_=>.nil
 | _,_,.cons r t,f=>.cons (f _ _ r) (Paired.mapP t f)
theorem ul.stay (x:ul P w H h a o) (k:∀ b u,(b=a∨H b=some (.own a))→h.get? b=some u→h'.get? b=some u)
  (ho:∀ b,H b=some (.own a)→H' b=some (.own a)) (ht:∀ b xs,H b=some (.tup xs)→H' b=some (.tup xs)):ul P w H' h' a o:=by
 induction o with
 | lst xs=>obtain ⟨z,its,n,r,e⟩:=x;exact ⟨z,its,n,r,k _ _ (.inl rfl) e⟩
 | tup xs=>obtain ⟨z,its,r,ob,e,c⟩:=x;exact ⟨z,its,r,ob,k _ _ (.inl rfl) e,c⟩
 | dK kvs=>obtain ⟨z,y,vs,r,ob,es,ep,e,c⟩:=x;exact ⟨z,y,vs,r,ob,es,ep,k _ _ (.inl rfl) e,c⟩
 | dT kvs =>
  obtain ⟨z,y,xs,r,ob,es,ep,e,c⟩:=x
  exact ⟨z,y,xs,Paired.mapP r fun p q z=>⟨z.1,ht _ _ z.2.1,z.2.2⟩,ob,es,ep,k _ _ (.inl rfl) e,c⟩
 | set S n=>obtain ⟨ob,es,ep,t,e,c⟩:=x;exact ⟨ob,es,ep,t,k _ _ (.inl rfl) e,c⟩
 | ins C dx fs =>
  obtain ⟨d,z,ne,e,mA,⟨od,es,ep,e2,c⟩,r⟩:=x
  exact ⟨ho _ d,z,ne,k _ _ (.inl rfl) e,mA,⟨od,es,ep,k _ _ (.inr d) e2,c⟩,r⟩
 | own y=>obtain ⟨ob,e⟩:=x;exact ⟨ob,k _ _ (.inl rfl) e⟩
 | xd fs=>obtain ⟨mA,⟨od,es,ep,e,c⟩,r⟩:=x;exact ⟨mA,⟨od,es,ep,k _ _ (.inl rfl) e,c⟩,r⟩
 | rng lo hi=>obtain ⟨t,u,v,e⟩:=x;exact ⟨t,u,v,k _ _ (.inl rfl) e⟩
 | frz ob u ih=>obtain ⟨e,q⟩:=x;exact ⟨k _ _ (.inl rfl) e,ih q⟩
 | tbl ps =>
  have e:h.get? a=some { cls:=.none,data:=.fields ps}:=x
  show h'.get? a=some { cls:=.none,data:=.fields ps}
  exact k a _ (.inl rfl) e
 | met f y =>
  have e:h.get? a=some (PySem.W.methodObj (.ref f) (.ref y)):=x
  show h'.get? a=some (PySem.W.methodObj (.ref f) (.ref y))
  exact k a _ (.inl rfl) e
 | ext φ=>obtain ⟨p,⟨o,e⟩,st⟩:=x;exact ⟨st _ _ p fun o q=>k _ _ (.inl rfl) q,⟨o,k _ _ (.inl rfl) e⟩,st⟩
theorem HOk.lt (x:HOk P w H h) (e:H a=some o):a < h.objs.size:=(x a o e).lt
theorem HOk.fresh (x:HOk P w H h) (e:h.objs.size≤a):H a=none:=by
 cases q:H a with
 | none=>rfl
 | some u=>exact absurd (Nat.lt_of_lt_of_le (x.lt q) e) (Nat.lt_irrefl _)
theorem HOk.kept (x:HOk P w H h) (k:∀ b u,h.get? b=some u→h'.get? b=some u):HOk P w H h':=fun a o e =>
 (x a o e).stay (fun b u _ q=>k b u q) (fun _ q=>q) fun _ _ q=>q
theorem HOk.laid (x:HOk P w H h) (k:∀ b u,h.get? b=some u→h'.get? b=some u) (hp:h.objs.size≤a) (new:ul P w (upd H a o) h' a o):HOk P w (upd H a o) h':=fun b u e=>by
 have hn:=x.fresh hp
 by_cases hb:b=a
 ·subst hb;rw [jt] at e;cases e;exact new
 ·rw [jw hb] at e
  exact (x b u e).stay (fun c v _ q=>k c v q) (fun c q=>by rw [jw (jj q hn)];exact q) fun c xs q=>by rw [jw (jj q hn)];exact q
end
noncomputable def Rd (H:Hp) (a:Addr) (u:HO):Prop:=H a=some u∨∃ o,H a=some (.frz o u)
theorem Rd.ok {P:Program} {w:World} {H:Hp} {h:Heap} {a:Addr} {u:HO} (r:Rd H a u) (x:HOk P w H h):ul P w H h a u:=by
 rcases r with r | ⟨o,r⟩
 ·exact x a u r
 ·obtain ⟨_,q⟩:=x a _ r
  exact q
noncomputable def Mut:Option HO→Prop
 | some (.lst _)=>True
 | some (.dK _)=>True
 | some (.dT _)=>True
 | some (.set _ _)=>True
 | some (.ins _ _ _)=>True
 | some (.ext _)=>True
 | _=>False
section
variable {P:Program} {w:World} {H:Hp} {h h':Heap} {x e:Addr} {o':HO}
theorem HOk.write (ok:HOk P w H h) (mu:Mut (H x)) (he:e=x∨H e=some (.own x)) (k:∀ b u,b≠e→h.get? b=some u→h'.get? b=some u) (heo:∃ u,h'.get? e=some u)
  (new:ul P w (upd H x o') h' x o'):HOk P w (upd H x o') h':=fun b u q=>by
 have nown:∀ c y,H c=some (.own y)→c≠x:=fun c y r z=>by subst z;rw [r] at mu;exact mu
 have ntup:∀ c xs,H c=some (.tup xs)→c≠x:=fun c xs r z=>by subst z;rw [r] at mu;exact mu
 by_cases hb:b=x
 ·subst hb;rw [jt] at q;cases q;exact new
 ·rw [jw hb] at q
  by_cases hbe:b=e
  ·have q':H b=some (.own x):=by
    rcases he with z | z
    ·exact absurd (hbe.trans z) hb
    ·rw [hbe];exact z
   rw [q] at q';cases q'
   obtain ⟨v,hv⟩:=heo
   exact ⟨v,by rw [hbe];exact hv⟩
  ·refine (ok b u q).stay (fun c v hc r=>k c v ?_ r) (fun c r=>by rw [jw (nown c b r)];exact r) fun c xs r=>by rw [jw (ntup c xs r)];exact r
   rcases hc with rfl | hc
   ·exact hbe
   ·rintro rfl
    rcases he with z | z
    ·exact nown c b hc z
    ·rw [hc] at z;cases z;exact hb rfl
end
structure Un (fs ex:List Addr) (H H':Hp) (h h':Heap):Prop where
 keep:∀ b o,h.get? b=some o→H b=none→b∉fs→b∉ex→h'.get? b=some o
 slot:∀ b o,h.get? b=some o→H b=none→b∈fs→b∉ex→∃ sl,h'.get? b=some { o with slots:=sl}
 free:∀ b o,h.get? b=some o→H b=none→b∉ex→H' b=none
 there:∀ b o,h.get? b=some o→b∉ex→∃ o',h'.get? b=some o'
 tups:∀ b xs,H b=some (.tup xs)→H' b=some (.tup xs)
 frzs:∀ b o u,H b=some (.frz o u)→H' b=some (.frz o u)
 tbls:∀ b ps,H b=some (.tbl ps)→∃ more,H' b=some (.tbl (ps++more))
section
variable {fs fs' ex ex':List Addr} {H H1 H2:Hp} {h h1 h2 h':Heap} {a x e:Addr} {o:HO}
theorem Un.any (u:Un fs ex H H1 h h1) {b:Addr} {ob:Obj} (q:h.get? b=some ob) (n:H b=none) (hx:b∉ex):∃ sl,h1.get? b=some { ob with slots:=sl}:=by
 by_cases hb:b∈fs
 ·exact u.slot b ob q n hb hx
 ·exact ⟨ob.slots,u.keep b ob q n hb hx⟩
theorem Un.trans (a:Un fs ex H H1 h h1) (b:Un fs ex H1 H2 h1 h2):Un fs ex H H2 h h2 where
 keep:=fun c ob q n hc hx=>b.keep c ob (a.keep c ob q n hc hx) (a.free c ob q n hx) hc hx
 slot:=fun c ob q n hc hx=>by
  obtain ⟨sl,e1⟩:=a.slot c ob q n hc hx
  obtain ⟨sl',e2⟩:=b.slot c _ e1 (a.free c ob q n hx) hc hx
  exact ⟨sl',e2⟩
 free:=fun c ob q n hx=>by
  obtain ⟨o',e1⟩:=a.there c ob q hx
  exact b.free c o' e1 (a.free c ob q n hx) hx
 there:=fun c ob q hx=>by
  obtain ⟨o',e1⟩:=a.there c ob q hx
  exact b.there c o' e1 hx
 tups:=fun c xs q=>b.tups c xs (a.tups c xs q)
 frzs:=fun c ob xs q=>b.frzs c ob xs (a.frzs c ob xs q)
 tbls:=fun c ps q=>by
  obtain ⟨m1,e1⟩:=a.tbls c ps q
  obtain ⟨m2,e2⟩:=b.tbls c _ e1
  exact ⟨m1++m2,by rw [e2,Array.append_assoc]⟩
theorem Un.kept (k:∀ b u,h.get? b=some u→h'.get? b=some u):Un fs ex H H h h' :=
 ⟨fun b ob q _ _ _=>k b ob q,fun b ob q _ _ _=>⟨ob.slots,k b ob q⟩,fun _ _ _ n _=>n,fun b ob q _=>⟨ob,k b ob q⟩,fun _ _ q=>q,fun _ _ _ q=>q,fun _ ps q=>⟨#[],by rw [q];simp⟩⟩
theorem Un.refl:Un fs ex H H h h:=Un.kept fun _ _ q=>q
theorem Un.laid (k:∀ b u,h.get? b=some u→h'.get? b=some u) (hp:h.objs.size≤a) (hn:H a=none):Un fs ex H (upd H a o) h h' where
 keep:=fun b u q _ _ _=>k b u q
 slot:=fun b u q _ _ _=>⟨u.slots,k b u q⟩
 free:=fun b u q n _=>by rw [jw (Nat.ne_of_lt (Nat.lt_of_lt_of_le (Heap.lt_size q) hp))];exact n
 there:=fun b u q _=>⟨u,k b u q⟩
 tups:=fun b xs q=>by rw [jw (jj q hn)];exact q
 frzs:=fun b u xs q=>by rw [jw (jj q hn)];exact q
 tbls:=fun b ps q=>⟨#[],by rw [jw (jj q hn),q];simp⟩
theorem Un.write (mu:Mut (H x)) (he:e=x∨H e=some (.own x)) (k:∀ b u,b≠e→h.get? b=some u→h'.get? b=some u) (heo:∃ u,h'.get? e=some u):Un fs ex H (upd H x o) h h':=by
 have hx:∀ b,H b=none→b≠x:=fun b n z=>by subst z;rw [n] at mu;exact mu
 have hb:∀ b,H b=none→b≠e:=fun b n z=>by
  subst z
  rcases he with r | r
  ·exact hx b n r
  ·rw [n] at r;cases r
 have hm:∀ b u,H b=some u→¬ Mut (some u)→b≠x:=fun b u q nm z=>by subst z;rw [q] at mu;exact nm mu
 refine ⟨fun b u q n _ _=>k b u (hb b n) q,fun b u q n _ _=>⟨u.slots,k b u (hb b n) q⟩,fun b u q n _=>by rw [jw (hx b n)];exact n,fun b u q _=>?_,
  fun b xs q=>by rw [jw (hm b _ q fun z=>z)];exact q,fun b u xs q=>by rw [jw (hm b _ q fun z=>z)];exact q,fun b ps q=>⟨#[],by rw [jw (hm b _ q fun z=>z),q];simp⟩⟩
 by_cases hbe:b=e
 ·subst hbe;exact heo
 ·exact ⟨u,k b u hbe q⟩
end
noncomputable def trk (h:Heap) (H:Hp):List Addr:=(List.range h.objs.size).filter fun a=>(H a).isSome
noncomputable def Vc (h:Heap) (H:Hp):Heap:=PySem.W.hideAll h (trk h H)
theorem cw (h:Heap) (H:Hp):(Vc h H).objs.size=h.objs.size:=PySem.W.hideAll_size _ _
theorem ax {h:Heap} {H:Hp} {b:Addr} {o:Obj} (e:h.get? b=some o) (n:H b=none):(Vc h H).get? b=some o :=
 PySem.W.hideAll_get _ e fun hm=>by
  have q:(H b).isSome=true:=(List.mem_filter.mp hm).2
  rw [n] at q;simp at q
theorem a15 {h:Heap} {H:Hp} {b:Addr} {o:Obj} (e:(Vc h H).get? b=some o):h.get? b=some o∧H b=none:=by
 have e':h.get? b=some o:=PySem.W.of_hideAll (trk h H) e
 refine ⟨e',?_⟩
 cases q:H b with
 | none=>rfl
 | some x =>
  have hm:b∈trk h H:=List.mem_filter.mpr ⟨List.mem_range.mpr (Heap.lt_size e'),by simp [q]⟩
  have z:(Vc h H).get? b=none:=PySem.W.hideAll_none (trk h H) hm
  rw [z] at e;cases e
noncomputable def a56 (g h:Heap) (L:Addr):List (Addr×Obj):=(List.range h.objs.size).filterMap fun a=>if a=L∨(g.get? a).isSome=true then none else (h.get? a).map fun o=>(a,o)
noncomputable def rest (g h:Heap) (L d:Addr):List (Addr×Obj):=(a56 g h L).filter fun p=>decide (p.1≠d)
end L2
namespace L2
open PySem PySem.Spec PyProof.Rows
structure Mod (K:PySem.W.Frag) (mg:Str→Option Value) (base:Heap):Prop where
 kin:K.In base
 glob:base.Ns mainGlobals mg
 blt:∃ mb,base.Ns builtinsNs mb∧∀ x:Str,x≠"__name__"→mb x=bootBuiltins x
 nolimit:base.NoLimit
structure Cx where
 prog:Program
 w:World
 K:PySem.W.Frag
 mg:Str→Option Value
 base:Heap
 A:Around
 N:List Str
 s₀:Shared
 H₀:Hp
 env:Env
 outer:List Env
 stack:List Env
 ex:List Addr
 fn:Str→Bool
 calm:Bool
 pn:List (Addr×Obj)
 xe:Value→Shared→Prop
 kn:Option (Str→Option Value):=none
noncomputable def Cx.nd (X:Cx):Prop:=X.N.Nodup∧X.kn=none
noncomputable def frs (l:List Env):List Addr:=l.filterMap (·.frame)
noncomputable abbrev Cx.fs (X:Cx):List Addr:=frs X.outer
noncomputable def Vis (sc:Scope) (x:Str):Prop:=sc.names.lookup x=some .local∨sc.names.lookup x=some .cell∨sc.names.lookup x=some .free
noncomputable def Loc (sc:Scope) (x:Str):Prop:=sc.names.lookup x=some .local∨sc.names.lookup x=some .cell
noncomputable def as4 (env:Env) (h:Heap) (m:Str→Option Value) (x:Str) (u:Value):Prop :=
 (env.kindOf x=some .local∧m x=some u)∨((env.kindOf x=some .cell∨env.kindOf x=some .free)∧∃ c,env.cells.lookup x=some c∧h.IsCell c (some u))
structure Cx.Ok (X:Cx):Prop where
 mod:Mod X.K X.mg X.base
 kind:X.env.scope.kind=.function
 glob:X.env.globals=mainGlobals
 blt:X.env.builtins=builtinsNs
 above:X.s₀.heap.objs.size≤X.env.locals
 inj:∀ x y c,X.env.cells.lookup x=some c→X.env.cells.lookup y=some c→x=y
 has:∀ x,(X.env.kindOf x=some .cell∨X.env.kindOf x=some .free)→∃ c,X.env.cells.lookup x=some c
 cab:∀ x c,X.fn x=true→X.env.cells.lookup x=some c→X.s₀.heap.objs.size≤c
 hd:X.calm=true→X.A.handled=none
 frames:X.A.frames=some X.stack
 stk:X.stack=X.outer∨(X.stack=X.env::X.outer∧X.env.frame=some X.env.locals)
 exf:∀ b∈X.ex,b≠X.env.locals∧∀ x c,X.env.cells.lookup x=some c→c≠b
 bs:∀ b o,X.base.get? b=some o→X.s₀.heap.get? b=some o∧X.H₀ b=none
 bsz:X.base.objs.size≤X.s₀.heap.objs.size
 noex:∀ b o,X.base.get? b=some o→b∉X.ex
 exfs:∀ b∈X.ex,b∉X.fs
 funs:X.s₀.heap.FunFrames X.base X.outer
 frf:∀ b∈X.fs,X.H₀ b=none
structure Inv (X:Cx) (pins:List (Addr×Obj)) (σ:List (Option V)) (H:Hp) (s:Shared):Prop where
 ok:X.Ok
 os:s.os=X.s₀.os
 bare:AllBare s.gens
 base:Un X.fs X.ex X.H₀ H X.s₀.heap s.heap
 loc:∃ m,s.heap.Ns X.env.locals m∧∀ (i:Nat) (x:Str) (v:V),X.N[i]? =some x→σ[i]? =some (some v)→Vis X.env.scope x→∃ u,J3 v u∧as4 X.env s.heap m x u
 cell:∀ x c,X.env.cells.lookup x=some c→∃ v,s.heap.IsCell c v
 free:H X.env.locals=none
 freeC:∀ x c,X.env.cells.lookup x=some c→H c=none
 pin:∀ p∈X.pn++pins,s.heap.get? p.1=some p.2∧H p.1=none∧p.1≠X.env.locals∧p.1∉X.fs∧∀ v,p.2.data≠.cell v
 hok:HOk X.prog X.w H s.heap
 len:σ.length=X.N.length
 fx:∀ f,X.kn=some f→s.heap.Ns X.env.locals f
section
variable {X:Cx} {pins:List (Addr×Obj)} {σ:List (Option V)} {H H':Hp} {s:Shared} {h':Heap}
theorem Cx.Ok.nofr (ok:X.Ok) {b:Addr} {o:Obj} (e:X.base.get? b=some o):b∉X.fs:=fun hb=>by
 have:=(ok.funs.mem hb).1
 rw [e] at this;cases this
theorem Inv.bs (I:Inv X pins σ H s):∀ b o,X.base.get? b=some o→s.heap.get? b=some o∧H b=none:=fun b o e =>
 ⟨I.base.keep b o (I.ok.bs b o e).1 (I.ok.bs b o e).2 (I.ok.nofr e) (I.ok.noex b o e),I.base.free b o (I.ok.bs b o e).1 (I.ok.bs b o e).2 (I.ok.noex b o e)⟩
theorem Inv.bk (I:Inv X pins σ H s):∀ b o,X.base.get? b=some o→s.heap.get? b=some o:=fun b o e=>(I.bs b o e).1
theorem Inv.mod (I:Inv X pins σ H s):Mod X.K X.mg X.base:=I.ok.mod
theorem Inv.kIn (I:Inv X pins σ H s):X.K.In s.heap:=I.ok.mod.kin.keeps I.bk
theorem Inv.fr (I:Inv X pins σ H s):∃ m,Fr X.base X.env.locals s.heap m :=
 let ⟨m,hn,_⟩:=I.loc
 ⟨m,hn,I.bk,Nat.le_trans I.ok.bsz I.ok.above⟩
theorem Inv.lt (I:Inv X pins σ H s):X.env.locals < s.heap.objs.size:=let ⟨_,hn,_⟩:=I.loc;hn.lt
theorem Inv.sz (I:Inv X pins σ H s):X.s₀.heap.objs.size≤s.heap.objs.size:=Nat.le_trans I.ok.above (Nat.le_of_lt I.lt)
theorem Inv.nofs (I:Inv X pins σ H s) {a:Addr} (h:s.heap.objs.size≤a):a∉X.fs:=fun hb=>by
 obtain ⟨_,o,ho,_⟩:=I.ok.funs.mem hb
 exact absurd (Nat.lt_of_lt_of_le (Heap.lt_size ho) (Nat.le_trans I.sz h)) (Nat.lt_irrefl _)
theorem Inv.cne (I:Inv X pins σ H s):∀ x c,X.env.cells.lookup x=some c→c≠X.env.locals:=fun x c e z=>by
 obtain ⟨v,o,ho,hd⟩:=I.cell x c e
 obtain ⟨m,⟨o',es,ep,ho',hd',_⟩,_⟩:=I.loc
 rw [z,ho'] at ho;cases ho;rw [hd'] at hd;cases hd
theorem Inv.funs (I:Inv X pins σ H s):s.heap.FunFrames X.base X.outer:=by
 have all:∀ (l:List Env),(∀ b∈frs l,b∈X.fs)→X.s₀.heap.FunFrames X.base l→s.heap.FunFrames X.base l:=by
  intro l
  induction l with
  | nil=>intro _ _;trivial
  | cons env r ih =>
   intro hs hl
   obtain ⟨hk,⟨L,o,hf,hn,ho,hd⟩,hr⟩:=hl
   have hL:L∈X.fs:=hs L (by unfold frs;rw [List.filterMap_cons,hf];exact List.mem_cons_self)
   obtain ⟨sl,e⟩:=I.base.slot L o ho (I.ok.frf L hL) hL fun z=>I.ok.exfs L z hL
   exact ⟨hk,⟨L,_,hf,hn,e,hd⟩,ih (fun b hb=>hs b (by unfold frs;rw [List.filterMap_cons,hf];exact List.mem_cons_of_mem _ hb)) hr⟩
 exact all X.outer (fun _ hb=>hb) I.ok.funs
theorem Inv.stack (I:Inv X pins σ H s):s.heap.FunFrames X.base X.stack:=by
 rcases I.ok.stk with e | ⟨e,hf⟩
 ·rw [e];exact I.funs
 ·rw [e]
  obtain ⟨m,hn,_⟩:=I.loc
  refine .cons (by rw [I.ok.kind];decide) hf hn ?_ I.funs
  exact Heap.get?_none_of_le (Nat.le_trans I.ok.bsz I.ok.above)
theorem Inv.stkSub (I:Inv X pins σ H s):∀ b∈frs X.stack,b∈X.env.locals::X.fs:=fun b hb=>by
 rcases I.ok.stk with e | ⟨e,hf⟩
 ·rw [e] at hb;exact List.mem_cons_of_mem _ hb
 ·rw [e] at hb
  unfold frs at hb
  rw [List.filterMap_cons,hf] at hb
  exact hb
theorem Inv.stkFree (I:Inv X pins σ H s):∀ b∈frs X.stack,H b=none:=fun b hb=>by
 rcases List.mem_cons.mp (I.stkSub b hb) with e | hb
 ·rw [e];exact I.free
 ·obtain ⟨_,o,ho,_⟩:=I.ok.funs.mem hb
  exact I.base.free b o ho (I.ok.frf b hb) fun z=>I.ok.exfs b z hb
theorem Inv.step {g':Array GenState} {t':Nat} {d':Drawn} {ch:List Addr} (I:Inv X pins σ H s)
  (hch:∀ b∈ch,(b∈X.ex∨X.s₀.heap.objs.size≤b)∧b≠X.env.locals∧(∀ x c,X.env.cells.lookup x=some c→c≠b)∧∀ p∈X.pn++pins,p.1≠b)
  (keep:∀ b o,b≠X.env.locals→b∉X.fs→b∉ch→s.heap.get? b=some o→H b=none→h'.get? b=some o)
  (slot:∀ b o,b≠X.env.locals→b∈X.fs→b∉ch→s.heap.get? b=some o→H b=none→∃ sl,h'.get? b=some { o with slots:=sl}) (free:∀ b o,b∉ch→s.heap.get? b=some o→H b=none→H' b=none)
  (there:∀ b o,b∉ch→s.heap.get? b=some o→∃ o',h'.get? b=some o')
  (tups:∀ b xs,H b=some (.tup xs)→H' b=some (.tup xs)) (frzs:∀ b o u,H b=some (.frz o u)→H' b=some (.frz o u)) (tbls:∀ b ps,H b=some (.tbl ps)→∃ more,H' b=some (.tbl (ps++more)))
  (ns:∀ m,s.heap.Ns X.env.locals m→h'.Ns X.env.locals m) (hok:HOk X.prog X.w H' h') (hg:AllBare g') :
  Inv X pins σ H' { s with heap:=h',gens:=g',drawn:=d',toks:=t'}:=by
 have neL:∀ b o,X.s₀.heap.get? b=some o→b≠X.env.locals:=fun b o e=>Nat.ne_of_lt (Nat.lt_of_lt_of_le (Heap.lt_size e) I.ok.above)
 have neC:∀ b o,X.s₀.heap.get? b=some o→b∉X.ex→b∉ch:=fun b o e hx hb=>by
  rcases (hch b hb).1 with z | z
  ·exact hx z
  ·exact absurd (Nat.lt_of_lt_of_le (Heap.lt_size e) z) (Nat.lt_irrefl _)
 have cellK:∀ x c,X.env.cells.lookup x=some c→∀ v,s.heap.IsCell c v→h'.IsCell c v:=fun x c e v ⟨o,ho,hd⟩=>by
  have nch:c∉ch:=fun z=>(hch c z).2.2.1 x c e rfl
  by_cases hc:c∈X.fs
  ·obtain ⟨sl,q⟩:=slot c o (I.cne x c e) hc nch ho (I.freeC x c e)
   exact ⟨_,q,hd⟩
  ·exact ⟨o,keep c o (I.cne x c e) hc nch ho (I.freeC x c e),hd⟩
 refine ⟨I.ok,I.os,hg,⟨fun b o e n hb hx=>?_,fun b o e n hb hx=>?_,fun b o e n hx=>?_,fun b o e hx=>?_,fun b xs e=>tups b xs (I.base.tups b xs e),fun b o xs e=>frzs b o xs (I.base.frzs b o xs e),fun b ps e=>?_⟩,?_,fun x c e=>?_,?_,fun x c e=>?_,fun p hp=>?_,hok,I.len,fun f e=>ns f (I.fx f e)⟩
 ·exact keep b o (neL b o e) hb (neC b o e hx) (I.base.keep b o e n hb hx) (I.base.free b o e n hx)
 ·obtain ⟨sl,e1⟩:=I.base.slot b o e n hb hx
  obtain ⟨sl',e2⟩:=slot b _ (neL b o e) hb (neC b o e hx) e1 (I.base.free b o e n hx)
  exact ⟨sl',e2⟩
 ·obtain ⟨o',e1⟩:=I.base.there b o e hx
  exact free b o' (neC b o e hx) e1 (I.base.free b o e n hx)
 ·obtain ⟨o',e1⟩:=I.base.there b o e hx
  exact there b o' (neC b o e hx) e1
 ·obtain ⟨m1,e1⟩:=I.base.tbls b ps e
  obtain ⟨m2,e2⟩:=tbls b _ e1
  exact ⟨m1++m2,by rw [e2,Array.append_assoc]⟩
 ·obtain ⟨m,hn,hl⟩:=I.loc
  refine ⟨m,ns m hn,fun i x v e1 e2 e3=>?_⟩
  obtain ⟨u,r,l⟩:=hl i x v e1 e2 e3
  refine ⟨u,r,?_⟩
  rcases l with l | ⟨k,c,e,z⟩
  ·exact .inl l
  ·exact .inr ⟨k,c,e,cellK x c e _ z⟩
 ·obtain ⟨v,z⟩:=I.cell x c e
  exact ⟨v,cellK x c e v z⟩
 ·obtain ⟨m,⟨o,_,_,ho,_⟩,_⟩:=I.loc
  exact free _ o (fun z=>(hch _ z).2.1 rfl) ho I.free
 ·obtain ⟨v,o,ho,hd⟩:=I.cell x c e
  exact free c o (fun z=>(hch c z).2.2.1 x c e rfl) ho (I.freeC x c e)
 ·obtain ⟨e,n,ne,nf,d⟩:=I.pin p hp
  have nch:p.1∉ch:=fun z=>(hch p.1 z).2.2.2 p hp rfl
  exact ⟨keep p.1 p.2 ne nf nch e n,free p.1 p.2 nch e n,ne,nf,d⟩
theorem Inv.un {t':Nat} (I:Inv X pins σ H s) (u:Un X.fs [] H H' s.heap h') (hok:HOk X.prog X.w H' h'):Inv X pins σ H' { s with heap:=h',toks:=t'}:=by
 obtain ⟨m,⟨o,es,ep,ho,r⟩,_⟩:=id I.loc
 obtain ⟨sl,hL⟩:=u.any ho I.free (by simp)
 exact I.step (g':=s.gens) (d':=s.drawn) (ch:=[]) (fun _ z=>nomatch z) (fun b o _ hb _ e n=>u.keep b o e n hb (by simp)) (fun b o _ hb _ e n=>u.slot b o e n hb (by simp)) (fun b o _ e n=>u.free b o e n (by simp)) (fun b o _ e=>u.there b o e (by simp)) u.tups u.frzs u.tbls (fun m' hm=>by
  obtain ⟨o',es',ep',ho',r'⟩:=hm
  rw [ho] at ho';cases ho'
  exact ⟨_,es',ep',hL,r'⟩) hok I.bare
theorem Inv.call {g':Array GenState} {t':Nat} {d':Drawn} {ch:List Addr} (I:Inv X pins σ H s) (u:Un (frs X.stack) ch H H' s.heap h') (hok:HOk X.prog X.w H' h') (hg:AllBare g')
  (hch:∀ b∈ch,(b∈X.ex∨X.s₀.heap.objs.size≤b)∧b≠X.env.locals∧(∀ x c,X.env.cells.lookup x=some c→c≠b)∧∀ p∈X.pn++pins,p.1≠b) :
  Inv X pins σ H' { s with heap:=h',gens:=g',drawn:=d',toks:=t'}:=by
 obtain ⟨m,⟨o,es,ep,ho,r⟩,_⟩:=id I.loc
 obtain ⟨sl,hL⟩:=u.any ho I.free fun z=>(hch _ z).2.1 rfl
 exact I.step (ch:=ch) hch (fun b o hL hb hc e n=>u.keep b o e n (fun z=>(List.mem_cons.mp (I.stkSub b z)).elim hL hb) hc) (fun b o _ _ hc e n=>u.any e n hc) (fun b o hc e n=>u.free b o e n hc) (fun b o hc e=>u.there b o e hc) u.tups u.frzs u.tbls (fun m' hm=>by
  obtain ⟨o',es',ep',ho',r'⟩:=hm
  rw [ho] at ho';cases ho'
  exact ⟨_,es',ep',hL,r'⟩) hok hg
theorem Inv.turned {t':Nat} {it:Addr} (I:Inv X pins σ H s) (k:∀ b o,b≠it→s.heap.get? b=some o→h'.get? b=some o) (hn:H it=none) (hL:it≠X.env.locals)
  (h1:it∈X.ex∨X.s₀.heap.objs.size≤it) (h2:∀ x c,X.env.cells.lookup x=some c→c≠it) (h3:∀ p∈X.pn++pins,p.1≠it):Inv X pins σ H { s with heap:=h',toks:=t'}:=by
 have nit:∀ b u,H b=some u→b≠it:=fun b u e z=>by rw [z,hn] at e;cases e
 refine I.step (g':=s.gens) (d':=s.drawn) (ch:=[it]) (fun b hb=>?_) (fun b o _ _ hc e _=>k b o (fun z=>hc (by simp [z])) e) (fun b o _ _ hc e _=>⟨o.slots,k b o (fun z=>hc (by simp [z])) e⟩) (fun _ _ _ _ n=>n)
  (fun b o hc e=>⟨o,k b o (fun z=>hc (by simp [z])) e⟩) (fun _ _ e=>e) (fun _ _ _ e=>e) (fun b ps e=>⟨#[],by rw [e];simp⟩) (fun m hm=>?_) (fun b u e=>?_) I.bare
 ·have e:b=it:=by simpa using hb
  subst e
  exact ⟨h1,hL,h2,h3⟩
 ·obtain ⟨o,es,ep,ho,r⟩:=hm
  exact ⟨o,es,ep,k _ o (Ne.symm hL) ho,r⟩
 ·refine (I.hok b u e).stay (fun c v hc q=>k c v ?_ q) (fun _ q=>q) fun _ _ q=>q
  rcases hc with z | z
  ·rw [z];exact nit b u e
  ·exact nit c _ z
theorem Inv.tok (I:Inv X pins σ H s) (t:Nat):Inv X pins σ H { s with toks:=t}:=I.un (h':=s.heap) (t':=t) Un.refl I.hok
theorem Inv.kept {t':Nat} (I:Inv X pins σ H s) (k:∀ b u,s.heap.get? b=some u→h'.get? b=some u):Inv X pins σ H { s with heap:=h',toks:=t'}:=I.un (Un.kept k) (I.hok.kept k)
theorem Inv.laid {a:Addr} {o:HO} {t':Nat} (I:Inv X pins σ H s) (k:∀ b u,s.heap.get? b=some u→h'.get? b=some u) (hp:s.heap.objs.size≤a) (new:ul X.prog X.w (upd H a o) h' a o) :
  Inv X pins σ (upd H a o) { s with heap:=h',toks:=t'}:=I.un (Un.laid k hp (I.hok.fresh hp)) (I.hok.laid k hp new)
theorem Inv.write {x e:Addr} {o:HO} {t':Nat} (I:Inv X pins σ H s) (mu:Mut (H x)) (he:e=x∨H e=some (.own x)) (k:∀ b u,b≠e→s.heap.get? b=some u→h'.get? b=some u) (heo:∃ u,h'.get? e=some u)
  (new:ul X.prog X.w (upd H x o) h' x o):Inv X pins σ (upd H x o) { s with heap:=h',toks:=t'}:=I.un (Un.write mu he k heo) (I.hok.write mu he k heo new)
theorem Inv.pins_of {pins':List (Addr×Obj)} (I:Inv X pins σ H s) (h:∀ p∈pins',s.heap.get? p.1=some p.2∧H p.1=none∧p.1≠X.env.locals∧p.1∉X.fs∧∀ v,p.2.data≠.cell v):Inv X pins' σ H s :=
 ⟨I.ok,I.os,I.bare,I.base,I.loc,I.cell,I.free,I.freeC,fun p hp=>(List.mem_append.mp hp).elim (fun z=>I.pin p (List.mem_append_left _ z)) (h p),I.hok,I.len,I.fx⟩
theorem Xd {N:List Str} (hN:N.Nodup) {i j:Nat} {x:Str} (a:N[i]? =some x) (b:N[j]? =some x):i=j:=by
 obtain ⟨h1,e1⟩:=List.getElem?_eq_some_iff.mp a
 obtain ⟨h2,e2⟩:=List.getElem?_eq_some_iff.mp b
 exact (List.getElem_inj hN).mp (e1.trans e2.symm)
theorem Du {M:Model} {A:Around} {E:Value→Shared→Prop} {i:Nat} {x:Str} {v:V} {u:Value} {Q:Unit→Shared→Prop} (I:Inv X pins σ H s) (hN:X.nd) (hi:X.N[i]? =some x) (hx:Loc X.env.scope x) (r:J3 v u)
  (h:∀ s',Inv X pins (σ.set i (some v)) H s'→(∃ a,Heap.SameBut a s.heap s'.heap∧(a=X.env.locals∨X.env.cells.lookup x=some a))→Q () s') (hf:X.fn x=true∨X.env.scope.names.lookup x=some .local:=by first | exact .inl rfl | exact .inr rfl | assumption):wpAny M A (storeName X.env x u) Q E s:=by
 obtain ⟨m,hn,hl⟩:=id I.loc
 have hcls:(X.env.scope.kind == .class || (X.env.scope.kind == .module && X.env.locals != X.env.globals))=false:=by rw [I.ok.kind];rfl
 have hiσ:i < σ.length:=by rw [I.len];exact (List.getElem?_eq_some_iff.mp hi).1
 have cne:=I.cne
 have tracked:∀ {a:Addr} {h':Heap},(∃ o,s.heap.get? a=some o∧H a=none)→Heap.SameBut a s.heap h'→HOk X.prog X.w H h':=fun {a h'} ha hs b ob e=>by
  obtain ⟨_,_,hfree⟩:=ha
  refine (I.hok b ob e).stay (fun c w' hc q=>(hs.2 c ?_).trans q) (fun _ q=>q) fun _ _ q=>q
  rintro rfl
  rcases hc with rfl | hc
  ·rw [hfree] at e;cases e
  ·rw [hfree] at hc;cases hc
 rcases hx with hk | hk
 ·refine wpAny_storeName_local hk hn (fun h' hn' hs=>?_) hcls
  obtain ⟨oL,_,_,hoL,_⟩:=id hn
  refine h _ ⟨I.ok,I.os,I.bare,⟨fun b o e n hb hx=>?_,fun b o e n hb hx=>?_,I.base.free,fun b o e hx=>?_,I.base.tups,I.base.frzs,I.base.tbls⟩,⟨_,hn',fun j y v' e1 e2 e3=>?_⟩,fun y c e=>?_,I.free,I.freeC,fun p hp=>?_,tracked ⟨oL,hoL,I.free⟩ hs,by simpa using I.len,fun f e=>by rw [hN.2] at e;cases e⟩ ⟨_,hs,.inl rfl⟩
  ·exact (hs.2 b (Nat.ne_of_lt (Nat.lt_of_lt_of_le (Heap.lt_size e) I.ok.above))).trans (I.base.keep b o e n hb hx)
  ·obtain ⟨sl,e1⟩:=I.base.slot b o e n hb hx
   exact ⟨sl,(hs.2 b (Nat.ne_of_lt (Nat.lt_of_lt_of_le (Heap.lt_size e) I.ok.above))).trans e1⟩
  ·obtain ⟨o',e1⟩:=I.base.there b o e hx
   exact ⟨o',(hs.2 b (Nat.ne_of_lt (Nat.lt_of_lt_of_le (Heap.lt_size e) I.ok.above))).trans e1⟩
  ·by_cases hj:j=i
   ·subst hj
    rw [hi] at e1;cases e1
    rw [List.getElem?_set_self hiσ] at e2
    cases e2
    exact ⟨u,r,.inl ⟨hk,by simp⟩⟩
   ·rw [List.getElem?_set_ne (Ne.symm hj)] at e2
    obtain ⟨u',r',q⟩:=hl j y v' e1 e2 e3
    refine ⟨u',r',?_⟩
    rcases q with ⟨k,e⟩ | ⟨k,c,e,z⟩
    ·refine .inl ⟨k,?_⟩
     have:y≠x:=fun e=>hj (Xd hN.1 e1 (e ▸ hi))
     simp [this,e]
    ·exact .inr ⟨k,c,e,z.sameBut hs (cne y c e)⟩
  ·obtain ⟨w',z⟩:=I.cell y c e
   exact ⟨w',z.sameBut hs (cne y c e)⟩
  ·obtain ⟨e,n,ne,nf,d⟩:=I.pin p hp
   exact ⟨(hs.2 p.1 ne).trans e,n,ne,nf,d⟩
 ·have hfn:X.fn x=true:=by
   rcases hf with z | z
   ·exact z
   ·rw [z] at hk;cases hk
  obtain ⟨c,hc⟩:=I.ok.has x (.inl hk)
  obtain ⟨w',z⟩:=I.cell x c hc
  refine wpAny_storeName_cell I.ok.kind hk hc z (fun h' hc' hs=>?_)
  obtain ⟨oc,hoc,hocd⟩:=id z
  refine h { s with heap:=h'} ⟨I.ok,I.os,I.bare,⟨fun b o e n hb hx=>?_,fun b o e n hb hx=>?_,I.base.free,fun b o e hx=>?_,I.base.tups,I.base.frzs,I.base.tbls⟩,⟨m,hn.sameBut hs (Ne.symm (cne x c hc)),fun j y v' e1 e2 e3=>?_⟩,fun y c' e=>?_,I.free,I.freeC,fun p hp=>?_,tracked ⟨oc,hoc,I.freeC x c hc⟩ hs,by simpa using I.len,fun f e=>by rw [hN.2] at e;cases e⟩ ⟨c,hs,.inr hc⟩
  ·exact (hs.2 b (Nat.ne_of_lt (Nat.lt_of_lt_of_le (Heap.lt_size e) (I.ok.cab x c hfn hc)))).trans (I.base.keep b o e n hb hx)
  ·obtain ⟨sl,e1⟩:=I.base.slot b o e n hb hx
   exact ⟨sl,(hs.2 b (Nat.ne_of_lt (Nat.lt_of_lt_of_le (Heap.lt_size e) (I.ok.cab x c hfn hc)))).trans e1⟩
  ·obtain ⟨o',e1⟩:=I.base.there b o e hx
   exact ⟨o',(hs.2 b (Nat.ne_of_lt (Nat.lt_of_lt_of_le (Heap.lt_size e) (I.ok.cab x c hfn hc)))).trans e1⟩
  ·by_cases hj:j=i
   ·subst hj
    rw [hi] at e1;cases e1
    rw [List.getElem?_set_self hiσ] at e2
    cases e2
    exact ⟨u,r,.inr ⟨.inl hk,c,hc,hc'⟩⟩
   ·rw [List.getElem?_set_ne (Ne.symm hj)] at e2
    obtain ⟨u',r',q⟩:=hl j y v' e1 e2 e3
    refine ⟨u',r',?_⟩
    rcases q with q | ⟨k,c',e,z'⟩
    ·exact .inl q
    ·refine .inr ⟨k,c',e,z'.sameBut hs ?_⟩
     rintro rfl
     exact hj (Xd hN.1 e1 (I.ok.inj _ _ _ e hc ▸ hi))
  ·by_cases hcc:c'=c
   ·subst hcc;exact ⟨_,hc'⟩
   ·obtain ⟨w2,z2⟩:=I.cell y c' e
    exact ⟨w2,z2.sameBut hs hcc⟩
  ·obtain ⟨e,n,ne,nf,d⟩:=I.pin p hp
   refine ⟨(hs.2 p.1 ?_).trans e,n,ne,nf,d⟩
   intro q
   rw [q,hoc] at e
   have q':oc=p.2:=Option.some.inj e
   exact d w' (by rw [← q'];exact hocd)
theorem Zj {M:Model} {A:Around} {E:Value→Shared→Prop} {i:Nat} {x:Str} {v:V} {u:Value} {Q:Unit→Shared→Prop} (I:Inv X pins σ H s) (hN:X.nd) (hi:X.N[i]? =some x) (hx:Loc X.env.scope x) (r:J3 v u)
  (h:∀ s',Inv X pins (σ.set i (some v)) H s'→Q () s') (hf:X.fn x=true∨X.env.scope.names.lookup x=some .local:=by first | exact .inl rfl | exact .inr rfl | assumption):wpAny M A (storeName X.env x u) Q E s :=
 Du I hN hi hx r (fun s' I' _=>h s' I') hf
theorem Inv.call' {s':Shared} {ch:List Addr} (I:Inv X pins σ H s) (ho:s'.os=s.os) (u:Un (frs X.stack) ch H H' s.heap s'.heap) (hok:HOk X.prog X.w H' s'.heap) (hg:AllBare s'.gens)
  (hch:∀ b∈ch,(b∈X.ex∨X.s₀.heap.objs.size≤b)∧b≠X.env.locals∧(∀ x c,X.env.cells.lookup x=some c→c≠b)∧∀ p∈X.pn++pins,p.1≠b):Inv X pins σ H' s':=by
 obtain ⟨h',g',d',t',o'⟩:=s'
 have e:o'=s.os:=ho
 subst e
 exact I.call (g':=g') (t':=t') (d':=d') u hok hg hch
end
noncomputable abbrev XK:=Value→Option Addr→Hp→Prop
noncomputable abbrev St:=List (Option V)
noncomputable abbrev VK:=V→Hp→Prop
noncomputable abbrev TE:=St→Hp→VK→Prop
noncomputable abbrev TT:=St→Hp→(Bool→Hp→Prop)→Prop
noncomputable abbrev TA:=St→Hp→(List V→Hp→Prop)→Prop
structure Ends where
 nx:St→Hp→Prop
 rt:VK
 bk:St→Hp→Prop:=fun _ _=>False
 ct:St→Hp→Prop:=fun _ _=>False
noncomputable abbrev TS:=Ends→St→Hp→Prop
noncomputable def EP (X:Cx) (pins:List (Addr×Obj)) (σ:St) (Q:VK) (u:Value) (s':Shared):Prop:=∃ v H',Inv X pins σ H' s'∧J3 v u∧Q v H'
noncomputable def TP (X:Cx) (pins:List (Addr×Obj)) (σ:St) (Q:Bool→Hp→Prop) (b:Bool) (s':Shared):Prop:=∃ H',Inv X pins σ H' s'∧Q b H'
noncomputable def AP (X:Cx) (pins:List (Addr×Obj)) (σ:St) (Q:List V→Hp→Prop) (us:List Value) (s':Shared):Prop:=∃ vs H',Inv X pins σ H' s'∧J7 vs us∧Q vs H'
noncomputable def SP (X:Cx) (pins:List (Addr×Obj)) (D:Ends) (f:Flow) (s':Shared):Prop :=
 match f with
 | .next=>∃ σ' H',Inv X pins σ' H' s'∧D.nx σ' H'
 | .brk=>∃ σ' H',Inv X pins σ' H' s'∧D.bk σ' H'
 | .cont=>∃ σ' H',Inv X pins σ' H' s'∧D.ct σ' H'
 | .ret u=>∃ v σ' H',Inv X pins σ' H' s'∧J3 v u∧D.rt v H'
noncomputable def PE (X:Cx) (e:Expr) (t:TE):Prop :=
 ∀ (pins:List (Addr×Obj)) (s:Shared) (σ:St) (H:Hp) (Q:VK),Inv X pins σ H s→t σ H Q→wpAny (model X.prog X.w) X.A (eval e X.env) (EP X pins σ Q) X.xe s
noncomputable def PT (X:Cx) (e:Expr) (t:TT):Prop :=
 ∀ (pins:List (Addr×Obj)) (s:Shared) (σ:St) (H:Hp) (Q:Bool→Hp→Prop),Inv X pins σ H s→t σ H Q→wpAny (model X.prog X.w) X.A (isTrue e X.env (eval e X.env)) (TP X pins σ Q) X.xe s
noncomputable def PW (X:Cx) (e:Expr) (t:TT):Prop :=
 ∀ (whole:Sem Value) (pins:List (Addr×Obj)) (s:Shared) (σ:St) (H:Hp) (Q:Bool→Hp→Prop),Inv X pins σ H s→t σ H Q→wpAny (model X.prog X.w) X.A (isTrue e X.env whole) (TP X pins σ Q) X.xe s
theorem PW.pt {X:Cx} {e:Expr} {t:TT} (h:PW X e t):PT X e t:=h _
noncomputable def PA (X:Cx) (es:List Expr) (t:TA):Prop :=
 ∀ (pos:Pos) (pins:List (Addr×Obj)) (s:Shared) (σ:St) (H:Hp) (Q:List V→Hp→Prop),Inv X pins σ H s→t σ H Q→wpAny (model X.prog X.w) X.A (spliced (backTo pos (starEach es X.env))) (AP X pins σ Q) X.xe s
noncomputable def PS (X:Cx) (st:Stmt) (t:TS):Prop :=
 ∀ (pins:List (Addr×Obj)) (s:Shared) (σ:St) (H:Hp) (D:Ends),Inv X pins σ H s→t D σ H→wpAny (model X.prog X.w) X.A (exec st X.env) (SP X pins D) X.xe s
noncomputable def PSs (X:Cx) (st:List Stmt) (t:TS):Prop :=
 ∀ (pins:List (Addr×Obj)) (s:Shared) (σ:St) (H:Hp) (D:Ends),Inv X pins σ H s→t D σ H→wpAny (model X.prog X.w) X.A (execs st X.env) (SP X pins D) X.xe s
theorem thn {α:Type} {t:Sem α} {Q Q':α→Shared→Prop} {M:Model} {A:Around} {E:Value→Shared→Prop} {s:Shared} (h:wpAny M A t Q E s) (hQ:∀ a s,Q a s→Q' a s):wpAny M A t Q' E s:=wpAny_mono h hQ fun _ _ x=>x
end L2
namespace L2
open PySem PySem.Spec PyProof.Rows
section
variable {X:Cx}
theorem bin {a b:Expr} {ta tb:TE} (ha:PE X a ta) (hb:PE X b tb) {pins:List (Addr×Obj)} {s:Shared} {σ:St} {H:Hp} {R:V→V→Hp→Prop} (I:Inv X pins σ H s) (h:ta σ H fun x H1=>tb σ H1 fun y H2=>R x y H2)
  {α:Type} {Q:α→Shared→Prop} {f:Value→Value→Sem α}
  (hf:∀ v u s2 x y H2,Inv X pins σ H2 s2→J3 x v→J3 y u→R x y H2→wpAny (model X.prog X.w) X.A (f v u) Q X.xe s2) :
  wpAny (model X.prog X.w) X.A (eval a X.env) (fun v s₁=>wpAny (model X.prog X.w) X.A (eval b X.env) (fun u s₂=>wpAny (model X.prog X.w) X.A (f v u) Q X.xe s₂) X.xe s₁) X.xe s:=by
 refine thn (ha pins s σ H _ I h) fun v s1 ⟨x,H1,I1,r1,q1⟩=>?_
 refine thn (hb pins s1 σ H1 _ I1 q1) fun u s2 ⟨y,H2,I2,r2,q2⟩=>?_
 exact hf v u s2 x y H2 I2 r1 r2 q2
noncomputable def aa5 (i:Nat):TE:=fun σ H Q=>∃ v,σ[i]? =some (some v)∧Q v H
noncomputable def tC (v:V):TE:=fun _ H Q=>Q v H
theorem bn {i:Nat} {x:Str} {pos:Pos} (hN:X.N[i]? =some x) (hv:Vis X.env.scope x) (hd:(x == ("__debug__":Str))=false:=by decide) (hcd:(x == ("__classdict__":Str))=false:=by decide):PE X (.Name x pos) (aa5 i):=by
 intro pins s σ H Q I h
 obtain ⟨v,e,h⟩:=h
 obtain ⟨m,hn,hl⟩:=I.loc
 obtain ⟨u,r,l⟩:=hl i x v hN e hv
 have fin:EP X pins σ Q u s:=⟨v,H,I,r,h⟩
 rcases l with ⟨hk,hm⟩ | ⟨hk,c,hc,hcell⟩
 ·exact wpAny_Name (wpAny_loadName_local I.ok.kind hk hn hm fin) hd
 ·rcases hk with hk | hk
  ·exact wpAny_Name (wpAny_loadName_cell I.ok.kind hk hc hcell fin) hd
  ·exact wpAny_Name (wpAny_loadName_free I.ok.kind hk hc hcell fin hcd) hd
theorem ad3 {i j pos}:PE X (.Constant (.int i) j pos) (tC (.int i)):=fun _ _ _ H _ I h=>wpAny_Constant_int ⟨.int i,H,I.tok _,⟨_,rfl⟩,h⟩
theorem ad2 {j pos}:PE X (.Constant .none j pos) (tC .non):=fun _ _ _ H _ I h=>Constant_none ⟨.non,H,I,rfl,h⟩
theorem bj {x j pos}:PE X (.Constant (.str x) j pos) (tC (.str x)):=fun _ _ _ H _ I h=>Calls.Constant_str ⟨.str x,H,I.tok _,⟨_,rfl⟩,h⟩
noncomputable def Gl (X:Cx) (x:Str):Prop:=X.env.kindOf x=some .globalImplicit
theorem zq {E:Value→Shared→Prop} {pins:List (Addr×Obj)} {s:Shared} {σ:St} {H:Hp} {x:Str} {u:Value} {pos:Pos} {Q:Value→Shared→Prop} (I:Inv X pins σ H s) (hg:Gl X x) (hm:X.mg x=some u) (h:Q u s)
  (hd:(x == ("__debug__":Str))=false:=by decide):wpAny (model X.prog X.w) X.A (eval (.Name x pos) X.env) Q E s :=
 Calls.Name_function_global I.ok.kind hg (Calls.loadGlobal_global (by rw [I.ok.glob];exact I.mod.glob.keeps I.bk) hm h) hd
theorem Qx {E:Value→Shared→Prop} {pins:List (Addr×Obj)} {s:Shared} {σ:St} {H:Hp} {x:Str} {u:Value} {pos:Pos} {Q:Value→Shared→Prop} (I:Inv X pins σ H s) (hg:Gl X x) (hm:X.mg x=none) (hv:bootBuiltins x=some u) (h:Q u s)
  (hn:x≠"__name__":=by decide) (hd:(x == ("__debug__":Str))=false:=by decide):wpAny (model X.prog X.w) X.A (eval (.Name x pos) X.env) Q E s:=by
 obtain ⟨mb,h1,h2⟩:=I.mod.blt
 exact Calls.Name_function_global I.ok.kind hg (Calls.loadGlobal_builtin (by rw [I.ok.glob];exact I.mod.glob.keeps I.bk) hm (by rw [I.ok.blt];exact h1.keeps I.bk) ((h2 x hn).trans hv) h) hd
theorem E3 {x:Str} {v:V} {u:Value} {pos:Pos} (hg:Gl X x) (hm:X.mg x=some u) (r:J3 v u) (hd:(x == ("__debug__":Str))=false:=by decide):PE X (.Name x pos) (tC v) :=
 fun _ _ _ H _ I h=>zq I hg hm ⟨v,H,I,r,h⟩ hd
theorem Aa {x:Str} {v:V} {u:Value} {pos:Pos} (hg:Gl X x) (hm:X.mg x=none) (hv:bootBuiltins x=some u) (r:J3 v u) (hn:x≠"__name__":=by decide) (hd:(x == ("__debug__":Str))=false:=by decide):PE X (.Name x pos) (tC v) :=
 fun _ _ _ H _ I h=>Qx I hg hm hv ⟨v,H,I,r,h⟩ hn hd
variable {a b:Expr} {ta tb:TE} {pos:Pos}
noncomputable def PC (X:Cx) (op:CmpOp) (a b:Expr) (t:TE):Prop :=
 ∀ (pins:List (Addr×Obj)) (s:Shared) (σ:St) (H:Hp) (Q:VK),Inv X pins σ H s→t σ H Q →
  wpAny (model X.prog X.w) X.A (eval a X.env) (fun v s₁=>wpAny (model X.prog X.w) X.A (eval b X.env) (fun u s₂=>wpAny (model X.prog X.w) X.A (compareOp op v u) (EP X pins σ Q) X.xe s₂) X.xe s₁) X.xe s
theorem gr (b:Expr) {op:CmpOp} (h:op≠.In) (h2:op≠.NotIn):behindInMarks op b=false:=by
 have e1:(op == CmpOp.In)=false:=by cases op <;> first | rfl | exact absurd rfl h
 have e2:(op == CmpOp.NotIn)=false:=by cases op <;> first | rfl | exact absurd rfl h2
 cases b <;> simp [behindInMarks,e1,e2]
noncomputable def al6 (ta:TE):TE:=fun σ H Q=>ta σ H fun x H1=>Q (.bl (decide (x=.non))) H1
theorem J3.none_iff {x:V} {v:Value} (r:J3 x v):(v == Value.none)=decide (x=.non):=by
 cases x with
 | non=>cases r;rfl
 | bl _=>cases r;rfl
 | int _=>obtain ⟨t,rfl⟩:=r;rfl
 | str _=>obtain ⟨t,rfl⟩:=r;rfl
 | byt _=>obtain ⟨t,rfl⟩:=r;rfl
 | flt _=>obtain ⟨t,rfl⟩:=r;rfl
 | ref _=>cases r;rfl
 | ty _=>cases r;rfl
theorem bc {j pos'} (ha:PE X a ta):PC X .Is a (.Constant .none j pos') (al6 ta):=by
 intro pins s σ H Q I h
 refine thn (ha pins s σ H _ I h) fun v s1 ⟨x,H1,I1,r1,q1⟩=>?_
 exact Constant_none (is_none_gen ⟨.bl _,H1,I1,by rw [r1.none_iff];rfl,q1⟩)
noncomputable def tB (t:TE):TT:=fun σ H Q=>t σ H fun x H1=>∃ c,x=.bl c∧Q c H1
theorem ad5 {op:CmpOp} {t:TE} (h:PC X op a b t) (h1:behindInMarks op b=false:=by first | exact gr _ (by decide) (by decide) | rfl):PE X (.Compare a [op] [b] pos) t:=fun pins s σ H Q I hw=>wpAny_Compare1 (h pins s σ H Q I hw) h1
theorem bu {op:CmpOp} {t:TE} (h:PC X op a b t) (h1:behindInMarks op b=false:=by first | exact gr _ (by decide) (by decide) | rfl):PT X (.Compare a [op] [b] pos) (tB t):=by
 intro pins s σ H Q I hw
 refine wpAny_isTrue_Compare1 (thn (h pins s σ H _ I hw) fun v s1 h1=>thn h1 fun u s2 h2=>thn h2 fun c s3 ⟨x,H1,I1,r1,q1⟩=>?_) h1
 obtain ⟨d,rfl,q⟩:=q1
 cases r1
 exact wpAny_truthy_bool ⟨H1,I1,q⟩
variable {tA tB':TT} {rest:List Expr}
noncomputable def tAnd (t u:TT):TT:=fun σ H Q=>t σ H fun c H1=>if c=true then u σ H1 Q else Q false H1
noncomputable def tOr (t u:TT):TT:=fun σ H Q=>t σ H fun c H1=>if c=true then Q true H1 else u σ H1 Q
theorem An (ha:PT X a tA):PW X (.BoolOp .And [a] pos) tA:=by
 intro wh pins s σ H Q I h
 refine isTrue_and (thn (ha pins s σ H Q I h) fun c s1 e=>?_)
 cases c with
 | true=>exact isTrue_and_nil e
 | false=>exact e
theorem ac2 (ha:PT X a tA):PW X (.BoolOp .Or [a] pos) tA:=by
 intro wh pins s σ H Q I h
 refine isTrue_or (thn (ha pins s σ H Q I h) fun c s1 e=>?_)
 cases c with
 | false=>exact isTrue_or_nil e
 | true=>exact e
theorem ac3 (ha:PT X a tA) (hb:PW X (.BoolOp .And (b::rest) pos) tB'):PW X (.BoolOp .And (a::b::rest) pos) (tAnd tA tB'):=by
 intro wh pins s σ H Q I h
 refine isTrue_and (thn (ha pins s σ H _ I h) fun c s1 ⟨H1,I1,q1⟩=>?_)
 cases c with
 | true=>exact hb wh pins s1 σ H1 Q I1 q1
 | false=>exact ⟨H1,I1,q1⟩
theorem an4 (ha:PT X a tA) (hb:PW X (.BoolOp .Or (b::rest) pos) tB'):PW X (.BoolOp .Or (a::b::rest) pos) (tOr tA tB'):=by
 intro wh pins s σ H Q I h
 refine isTrue_or (thn (ha pins s σ H _ I h) fun c s1 ⟨H1,I1,q1⟩=>?_)
 cases c with
 | true=>exact ⟨H1,I1,q1⟩
 | false=>exact hb wh pins s1 σ H1 Q I1 q1
noncomputable def am2 (ta tb:TE):TE:=fun σ H Q=>ta σ H fun x H1=>∃ c,x=.bl c∧if c=true then tb σ H1 Q else Q (.bl false) H1
noncomputable def al2 (ta:TE):TE:=fun σ H Q=>ta σ H fun x H1=>∃ c,x=.bl c∧Q (.bl (!c)) H1
theorem ad0 {op} {t:TE} (h:PE X a t):PE X (.BoolOp op [a] pos) t:=fun pins s σ H Q I hw=>BoolOp_one (h pins s σ H Q I hw)
theorem ad7 (ha:PE X a ta) (hb:PE X (.BoolOp .And (b::rest) pos) tb):PE X (.BoolOp .And (a::b::rest) pos) (am2 ta tb):=by
 intro pins s σ H Q I h
 refine BoolOp_and (thn (ha pins s σ H _ I h) fun v s1 ⟨x,H1,I1,r1,q1⟩=>?_)
 obtain ⟨c,rfl,q1⟩:=q1
 cases r1
 refine wpAny_truthy_bool ?_
 cases c with
 | true=>exact hb pins s1 σ H1 Q I1 q1
 | false=>exact ⟨.bl false,H1,I1,rfl,q1⟩
theorem ad1 (ha:PE X a ta):PE X (.UnaryOp .Not a pos) (al2 ta):=by
 intro pins s σ H Q I h
 refine UnaryOp_ (thn (ha pins s σ H _ I h) fun v s1 ⟨x,H1,I1,r1,q1⟩=>?_)
 obtain ⟨c,rfl,q1⟩:=q1
 cases r1
 exact not_of (wpAny_truthy_bool ⟨.bl (!c),H1,I1,rfl,q1⟩)
noncomputable def tIf (t:TT) (ta tb:TE):TE:=fun σ H Q=>t σ H fun c H1=>if c=true then ta σ H1 Q else tb σ H1 Q
theorem be {c:Expr} (hc:PT X c tA) (ha:PE X a ta) (hb:PE X b tb):PE X (.IfExp c a b pos) (tIf tA ta tb):=by
 intro pins s σ H Q I h
 refine wpAny_IfExp (thn (hc pins s σ H _ I h) fun d s1 ⟨H1,I1,q1⟩=>?_)
 cases d with
 | true=>exact ha pins s1 σ H1 Q I1 q1
 | false=>exact hb pins s1 σ H1 Q I1 q1
end
end L2
namespace L2
open PySem PySem.Spec PyProof.Rows
noncomputable def SqL (K:PySem.W.Frag) (H:Hp) (a:Addr) (xs:List V):Prop :=
 Rd H a (.lst xs) ∨
  ∃ (o:Obj) (its:Array Value) (n:Nat),K.lookup a=some o∧o.cls=.type "list"∧o.dict=none∧o.data=.seq its n∧its.size≤sizeLine∧J7 xs its.toList
noncomputable def SqT (K:PySem.W.Frag) (H:Hp) (a:Addr) (xs:List V):Prop :=
 Rd H a (.tup xs) ∨
  ∃ (o:Obj) (its:Array Value) (n:Nat),K.lookup a=some o∧o.cls=.type "tuple"∧o.data=.seq its n∧its.size≤sizeLine∧J7 xs its.toList
noncomputable def absV:Value→Option V
 | .none=>some .non
 | .bool b=>some (.bl b)
 | .int i _=>some (.int i)
 | .str x _=>some (.str x)
 | .bytes b _=>some (.byt b)
 | .float b _=>some (.flt b)
 | .ref a=>some (.ref a)
 | .type n=>some (.ty n)
 | _=>none
theorem J3.abs {x:V} {u:Value} (r:J3 x u):absV u=some x:=by
 cases x with
 | non=>cases r;rfl
 | bl _=>cases r;rfl
 | int _=>obtain ⟨t,rfl⟩:=r;rfl
 | str _=>obtain ⟨t,rfl⟩:=r;rfl
 | byt _=>obtain ⟨t,rfl⟩:=r;rfl
 | flt _=>obtain ⟨t,rfl⟩:=r;rfl
 | ref _=>cases r;rfl
 | ty _=>cases r;rfl
theorem J3.inj {x y:V} {u:Value} (r:J3 x u) (q:J3 y u):x=y:=Option.some.inj (r.abs.symm.trans q.abs)
theorem J7.inj:∀ {xs ys:List V} {us:List Value},J7 xs us→J7 ys us→xs=ys
 | _,_,_,.nil,.nil=>rfl
 | _,_,_,.cons r t,.cons r' t'=>by rw [r.inj r',J7.inj t t']
section
variable {X:Cx} {pins:List (Addr×Obj)} {σ:St} {H:Hp} {s:Shared} {a:Addr} {xs ys:List V}
theorem SqL.of {K:PySem.W.Frag} (h:H a=some (.lst xs)):SqL K H a xs:=.inl (.inl h)
theorem SqT.of {K:PySem.W.Frag} (h:H a=some (.tup xs)):SqT K H a xs:=.inl (.inl h)
theorem Inv.list (I:Inv X pins σ H s) (h:SqL X.K H a xs):∃ its:List Value,J7 xs its∧PlainL s.heap a its.toArray∧xs.length≤sizeLine:=by
 rcases h with h | ⟨o,its,n,hk,hc,hd,hs,hz,r⟩
 ·obtain ⟨z,its,n,r,e⟩:=h.ok I.hok
  exact ⟨its,r,⟨_,n,e,rfl,rfl,rfl⟩,z⟩
 ·refine ⟨its.toList,r,⟨o,n,I.kIn a o hk,hc,hd,by simpa using hs⟩,?_⟩
  have e:=r.length
  simp only [Array.length_toList] at e
  omega
theorem Inv.tuple (I:Inv X pins σ H s) (h:SqT X.K H a xs):∃ its:List Value,J7 xs its∧IsTup s.heap a its.toArray∧xs.length≤sizeLine:=by
 rcases h with h | ⟨o,its,n,hk,hc,hs,hz,r⟩
 ·obtain ⟨z,its,r,p⟩:=h.ok I.hok
  exact ⟨its,r,p,z⟩
 ·refine ⟨its.toList,r,⟨o,I.kIn a o hk,hc,n,by simpa using hs⟩,?_⟩
  have e:=r.length
  simp only [Array.length_toList] at e
  omega
theorem Inv.list_inj (I:Inv X pins σ H s) (h:SqL X.K H a xs) (h':SqL X.K H a ys):xs=ys:=by
 obtain ⟨its,r,⟨o,n,e,_,_,d⟩,_⟩:=I.list h
 obtain ⟨its',r',⟨o',n',e',_,_,d'⟩,_⟩:=I.list h'
 rw [e] at e';cases e'
 rw [d] at d'
 injection d' with d1 _
 have:its=its':=by simpa using congrArg Array.toList d1
 subst this
 exact r.inj r'
end
noncomputable abbrev Cx.wish (X:Cx) (E:Value→Shared→Prop):Cx:={ X with xe:=E}
noncomputable abbrev Cx.nox (X:Cx):Cx:=X.wish fun _ _=>False
theorem Cx.Ok.wish {X:Cx} (ok:X.Ok) (E:Value→Shared→Prop):(X.wish E).Ok :=
 ⟨ok.mod,ok.kind,ok.glob,ok.blt,ok.above,ok.inj,ok.has,ok.cab,ok.hd,ok.frames,ok.stk,ok.exf,ok.bs,ok.bsz,ok.noex,ok.exfs,ok.funs,ok.frf⟩
theorem Cx.Ok.unwish {X:Cx} {E:Value→Shared→Prop} (ok:(X.wish E).Ok):X.Ok :=
 ⟨ok.mod,ok.kind,ok.glob,ok.blt,ok.above,ok.inj,ok.has,ok.cab,ok.hd,ok.frames,ok.stk,ok.exf,ok.bs,ok.bsz,ok.noex,ok.exfs,ok.funs,ok.frf⟩
section
variable {X:Cx} {pins:List (Addr×Obj)} {σ:St} {H:Hp} {s:Shared} {E:Value→Shared→Prop}
theorem Inv.wish (I:Inv X pins σ H s) (E:Value→Shared→Prop):Inv (X.wish E) pins σ H s:=⟨I.ok.wish E,I.os,I.bare,I.base,I.loc,I.cell,I.free,I.freeC,I.pin,I.hok,I.len,I.fx⟩
theorem Inv.unwish (I:Inv (X.wish E) pins σ H s):Inv X pins σ H s:=⟨I.ok.unwish,I.os,I.bare,I.base,I.loc,I.cell,I.free,I.freeC,I.pin,I.hok,I.len,I.fx⟩
theorem SP.unwish {D:Ends} {f:Flow} {s':Shared} (h:SP (X.wish E) pins D f s'):SP X pins D f s':=by
 cases f with
 | next=>obtain ⟨σ',H',I,q⟩:=h;exact ⟨σ',H',I.unwish,q⟩
 | brk=>obtain ⟨σ',H',I,q⟩:=h;exact ⟨σ',H',I.unwish,q⟩
 | cont=>obtain ⟨σ',H',I,q⟩:=h;exact ⟨σ',H',I.unwish,q⟩
 | ret u=>obtain ⟨v,σ',H',I,r,q⟩:=h;exact ⟨v,σ',H',I.unwish,r,q⟩
theorem PSs.nox {st:List Stmt} {t:TS} (h:PSs X.nox st t):PSs X st t:=fun pins s σ H D I hw =>
 wpAny_mono (h pins s σ H D (I.wish _) hw) (fun _ _ q=>q.unwish) fun _ _ z=>False.elim z
end
section
variable {X:Cx} {st:Stmt} {rest:List Stmt} {t u:TS} {e:Expr} {te:TE} {pos:Pos}
noncomputable def al4:TS:=fun D σ H=>D.nx σ H
noncomputable def tSeq (t u:TS):TS:=fun D σ H=>t { D with nx:=u D} σ H
theorem Ak:PSs X [] al4:=fun _ _ σ H _ I h=>wpAny_execs_nil ⟨σ,H,I,h⟩
theorem bt (h1:PS X st t) (h2:PSs X rest u):PSs X (st::rest) (tSeq t u):=by
 intro pins s σ H D I h
 refine wpAny_execs_cons (thn (h1 pins s σ H { D with nx:=u D} I h) fun f s1 q=>?_)
 cases f with
 | next =>
  obtain ⟨σ',H',I',q⟩:=q
  exact h2 pins s1 σ' H' D I' q
 | ret v=>exact q
 | brk=>exact q
 | cont=>exact q
theorem Al (h1:PS X st t):PSs X [st] t:=by
 intro pins s σ H D I h
 refine wpAny_execs_cons (thn (h1 pins s σ H D I h) fun f s1 q=>?_)
 cases f with
 | next=>exact wpAny_execs_nil q
 | ret v=>exact q
 | brk=>exact q
 | cont=>exact q
theorem Inv.quiet {pins:List (Addr×Obj)} {σ:St} {H:Hp} {s:Shared} (I:Inv X pins σ H s):interactive X.env=false:=by simp [interactive,I.ok.kind]
noncomputable def al7 (te:TE):TS:=fun D σ H=>te σ H fun _ H1=>D.nx σ H1
theorem Aj (he:PE X e te) (hs:swapsWith e none pos.line X.env=pure false:=by rfl):PS X (.Expr e pos) (al7 te):=by
 intro pins s σ H D I h
 exact wpAny_Expr_any (thn (he pins s σ H _ I h) fun v s1 ⟨x,H1,I1,r1,q1⟩=>⟨σ,H1,I1,q1⟩) I.quiet hs
noncomputable def tRet (te:TE):TS:=fun D σ H=>te σ H D.rt
theorem ac5 (he:PE X e te):PS X (.Return (some e) pos) (tRet te):=by
 intro pins s σ H D I h
 exact wpAny_Return_some (thn (he pins s σ H _ I h) fun v s1 ⟨x,H1,I1,r1,q1⟩=>⟨x,σ,H1,I1,r1,q1⟩)
noncomputable def tIfS (c:TT) (t u:TS):TS:=fun D σ H=>c σ H fun b H1=>if b=true then t D σ H1 else u D σ H1
theorem an6 {c:Expr} {a b:List Stmt} {tc:TT} (hc:PT X c tc) (ha:PSs X a t) (hb:PSs X b u):PS X (.If c a b pos) (tIfS tc t u):=by
 intro pins s σ H D I h
 refine wpAny_If (thn (hc pins s σ H _ I h) fun d s1 ⟨H1,I1,q1⟩=>?_)
 cases d with
 | true=>exact ha pins s1 σ H1 D I1 q1
 | false=>exact hb pins s1 σ H1 D I1 q1
end
noncomputable abbrev TG:=V→St→Hp→(St→Hp→Prop)→Prop
noncomputable def PG (X:Cx) (target:Expr) (t:TG):Prop :=
 ∀ (pins:List (Addr×Obj)) (s:Shared) (σ:St) (H:Hp) (v:V) (u:Value) (Q:St→Hp→Prop),Inv X pins σ H s→J3 v u→t v σ H Q →
  wpAny (model X.prog X.w) X.A (assign target X.env u) (fun _ s'=>∃ σ' H',Inv X pins σ' H' s'∧Q σ' H') X.xe s
noncomputable abbrev TSet:=V→V→V→Hp→(Hp→Prop)→Prop
section
variable {X:Cx} {pos:Pos}
noncomputable def a80 (i:Nat):TG:=fun v σ H Q=>Q (σ.set i (some v)) H
theorem Ad {i:Nat} {x:Str} (hN:X.nd) (hi:X.N[i]? =some x) (hx:Loc X.env.scope x) (hf:X.fn x=true∨X.env.scope.names.lookup x=some .local:=by first | exact .inl rfl | exact .inr rfl | assumption):PG X (.Name x pos) (a80 i):=by
 intro pins s σ H v u Q I r h
 exact wpAny_assign_Name (Zj I hN hi hx r (fun s' I'=>⟨_,H,I',h⟩) hf)
noncomputable def zx (to ti:TE) (t:TSet):TG:=fun v σ H Q=>to σ H fun o H1=>ti σ H1 fun i H2=>t o i v H2 fun H3=>Q σ H3
noncomputable def tAsg (te:TE) (g:TG):TS:=fun D σ H=>te σ H fun x H1=>g x σ H1 D.nx
theorem ac4 {i:Nat} {x:Str} {e:Expr} {te:TE} {pos':Pos} (hN:X.nd) (hi:X.N[i]? =some x) (hx:Loc X.env.scope x) (he:PE X e te) (hs:swapsWith e (some (.Name x pos')) pos.line X.env=pure false:=by rfl) (hf:X.fn x=true∨X.env.scope.names.lookup x=some .local:=by first | exact .inl rfl | exact .inr rfl | assumption) :
  PS X (.Assign [.Name x pos'] e pos) (tAsg te (a80 i)):=by
 intro pins s σ H D I h
 refine wpAny_Assign_Name (thn (he pins s σ H _ I h) fun v s1 ⟨y,H1,I1,r1,q1⟩=>?_) hs
 exact Zj I1 hN hi hx r1 (fun s2 I2=>⟨_,H1,I2,q1⟩) hf
end
section
variable {X:Cx} {pos:Pos}
noncomputable def aa4 (c:TT) (tb:TS):TS:=fun D σ H=>∃ W:Nat→St→Hp→Prop,(∃ m,W m σ H)∧∀ m σ H,W m σ H →
 c σ H fun b H1=>if b=true then ∃ N:St→Hp→Prop,(∀ σ' H',N σ' H'→∃ m',m' < m∧W m' σ' H')∧tb { D with nx:=N,ct:=N,bk:=D.nx} σ H1 else D.nx σ H1
theorem bq {c:Expr} {body:List Stmt} {tc:TT} {tb:TS} (hp:PassesOwn (model X.prog X.w) X.A X.env X.xe) (hc:PT X c tc) (hb:PSs X body tb):PS X (.While c body [] pos) (aa4 tc tb):=by
 intro pins s σ H D I h
 obtain ⟨W,⟨m0,w0⟩,turn⟩:=h
 refine wpAny_While (codeAny_whileLoop (fun n s'=>∃ σ' H',Inv X pins σ' H' s'∧W n σ' H') ?_ m0 ⟨σ,H,I,w0⟩)
 rintro n s1 ⟨σ1,H1,I1,w1⟩
 refine wpAny_passesOwn hp (thn (hc pins s1 σ1 H1 _ I1 (turn n σ1 H1 w1)) fun b s2 ⟨H2,I2,q2⟩=>?_)
 cases b with
 | true =>
  obtain ⟨N,hN,q2⟩:=q2
  rw [if_pos rfl]
  refine wpAny_passesOwn hp (thn (hb pins s2 σ1 H2 _ I2 q2) fun f s3 q3=>?_)
  cases f with
  | next =>
   obtain ⟨σ3,H3,I3,n3⟩:=q3
   obtain ⟨m',hm,w3⟩:=hN σ3 H3 n3
   exact ⟨m',hm,σ3,H3,I3,w3⟩
  | cont =>
   obtain ⟨σ3,H3,I3,n3⟩:=q3
   obtain ⟨m',hm,w3⟩:=hN σ3 H3 n3
   exact ⟨m',hm,σ3,H3,I3,w3⟩
  | brk=>exact q3
  | ret v=>exact q3
 | false =>
  rw [if_neg Bool.false_ne_true]
  exact wpAny_execs_nil ⟨σ1,H2,I2,q2⟩
end
structure It where
 go:Nat→Hp→Prop
 yld:Nat→Hp→V→Hp→Prop
 stop:Nat→Hp→Prop
noncomputable def zt (X:Cx) (pins:List (Addr×Obj)) (H:Hp) (b:Addr):Prop :=
 H b=none∧b≠X.env.locals∧b∉X.fs∧(b∈X.ex∨X.s₀.heap.objs.size≤b)∧(∀ x c,X.env.cells.lookup x=some c→c≠b)∧∀ p∈X.pn++pins,p.1≠b
theorem Inv.fpOk {X:Cx} {pins:List (Addr×Obj)} {σ:St} {H H':Hp} {s:Shared} {b:Addr} (I:Inv X pins σ H s) (hb:s.heap.objs.size≤b) (hn:H' b=none):zt X pins H' b:=by
 refine ⟨hn,Nat.ne_of_gt (Nat.lt_of_lt_of_le I.lt hb),I.nofs hb,.inr (Nat.le_trans I.sz hb),fun x c e z=>?_,fun p hp z=>?_⟩
 ·obtain ⟨v,q⟩:=I.cell x c e
  exact absurd (Nat.lt_of_lt_of_le q.lt (by rw [z];exact hb)) (Nat.lt_irrefl _)
 ·exact absurd (Nat.lt_of_lt_of_le (Heap.lt_size (I.pin p hp).1) (by rw [z];exact hb)) (Nat.lt_irrefl _)
structure Turn (P:Program) (w:World) (K:PySem.W.Frag) (tg:Expr) (J:It) (fp:List Addr) (it:Addr) (tn:Nat→Heap→Prop):Prop where
 mem:it∈fp
 obj:∀ i h,tn i h→∀ b∈fp,∃ o,h.get? b=some o∧∀ v,o.data≠.cell v
 keep:∀ i h h',tn i h→(∀ b∈fp,∀ o,h.get? b=some o→h'.get? b=some o)→tn i h'
 item:∀ (X:Cx),X.prog=P→X.w=w→X.K=K→X.calm=true→∀ (i:Nat) (pins:List (Addr×Obj)) (s:Shared) (σ:St) (H:Hp) (E:Value→Shared→Prop),Inv X pins σ H s→(∀ b∈fp,zt X pins H b)→tn i s.heap→J.go i H →
  wpAny (model P w) X.A (pyNext (.ref it)) (fun r s1=>∃ u,r=some u ∧
   wpAny (model P w) X.A (letOwnedTupleGo tg (.ref it) u) (fun _ s2=>∃ x H',Inv X pins σ H' s2∧J3 x u∧J.yld i H x H'∧tn (i + 1) s2.heap∧∀ b∈fp,H' b=none) E s1) E s
 done:∀ (X:Cx),X.prog=P→X.w=w→X.K=K→X.calm=true→∀ (i:Nat) (pins:List (Addr×Obj)) (s:Shared) (σ:St) (H:Hp) (E:Value→Shared→Prop),Inv X pins σ H s→(∀ b∈fp,zt X pins H b)→tn i s.heap→J.stop i H →
  wpAny (model P w) X.A (pyNext (.ref it)) (fun r s1=>r=none∧Inv X pins σ H s1) E s
 self:∀ (A:Around) (i:Nat) (s:Shared) (Q:Value→Shared→Prop) (E:Value→Shared→Prop),tn i s.heap→Q (.ref it) s→wpAny (model P w) A (pyIter (.ref it)) Q E s
noncomputable abbrev TI:=St→Hp→(It→Hp→Prop)→Prop
noncomputable def PIE (X:Cx) (pins:List (Addr×Obj)) (σ:St) (tg:Expr) (R:It→Hp→Prop) (itv:Value) (s2:Shared):Prop :=
 ∃ (it:Addr) (fp:List Addr) (tn:Nat→Heap→Prop) (J:It) (H':Hp),itv=.ref it∧Inv X pins σ H' s2∧Turn X.prog X.w X.K tg J fp it tn∧tn 0 s2.heap∧(∀ b∈fp,zt X pins H' b)∧R J H'
noncomputable def PI (X:Cx) (tg iter:Expr) (wi:TI):Prop :=
 ∀ (pins:List (Addr×Obj)) (s:Shared) (σ:St) (H:Hp) (R:It→Hp→Prop),Inv X pins σ H s→wi σ H R →
  wpAny (model X.prog X.w) X.A (eval iter X.env) (fun v s1=>wpAny (model X.prog X.w) X.A (pyIter v) (PIE X pins σ tg R) X.xe s1) X.xe s
theorem a77 {M:Model} {A:Around} {E:Value→Shared→Prop} {s:Shared} {tg:Expr} {it:Addr} {u:Value} {o:Obj} {n:String} {vs:Array Value} {Q:Unit→Shared→Prop} (ho:s.heap.get? it=some o) (hc:o.cls=.type n) (hd:o.data=.fields vs)
    (hn:["enumerate","zip","dict_itemiterator","dict_reverseitemiterator","odict_iterator","itertools.zip_longest","itertools.pairwise"].contains n=false) (hQ:Q () s):wpAny M A (letOwnedTupleGo tg (.ref it) u) Q E s:=by
  unfold letOwnedTupleGo
  cases tg <;> first
    | exact wpAny_pure hQ
    | (cases u <;> first
        | exact wpAny_pure hQ
        | (refine wpAny_bind (wpAny_load ho ?_)
           rw [hc,hd]
           show wpAny M A (if (["enumerate","zip","dict_itemiterator","dict_reverseitemiterator","odict_iterator","itertools.zip_longest","itertools.pairwise"].contains n && vs[0]? == some (rawInt _))=true then _ else _) Q E s
           rw [if_neg (by intro h;rw [hn,Bool.false_and] at h;cases h)]
           exact wpAny_pure hQ))
noncomputable def Itl (K:PySem.W.Frag) (a:Addr):It :=
 ⟨fun i H=>∃ xs x,SqL K H a xs∧xs[i]? =some x,fun i H x H'=>H'=H∧∀ xs,SqL K H a xs→xs[i]? =some x,fun i H=>∃ xs,SqL K H a xs∧xs.length≤i⟩
noncomputable def Itr (lo:Int) (n:Nat):It:=⟨fun i _=>i < n,fun i H x H'=>H'=H∧x=.int (lo + i),fun i _=>n≤i⟩
theorem Dv {P:Program} {w:World} {K:PySem.W.Frag} {tg:Expr} (a it:Addr):Turn P w K tg (Itl K a) [it] it (fun i h=>h.IsListIter it a i) where
 mem:=by simp
 obj:=fun i h st b hb=>by
  have e:b=it:=by simpa using hb
  subst e
  obtain ⟨o,e,c,d⟩:=st
  exact ⟨o,e,fun v z=>by rw [d] at z;cases z⟩
 keep:=fun i h h' st k=>st.at fun o e=>k it (by simp) o e
 item:=by
  intro X hP hw hK hc i pins s σ H E I hf st hg
  subst hP hw hK
  obtain ⟨xs,x,hq,hx⟩:=hg
  obtain ⟨its,rv,p,hz⟩:=I.list hq
  obtain ⟨u,hu,ru⟩:=rv.get hx
  obtain ⟨f0,f1,f2,f3,f4,f5⟩:=hf it (by simp)
  refine wpAny_pyNext_list_item st p.isList (x:=u) (by simpa using hu) fun h' st' sb=>?_
  have I1:Inv X pins σ H { s with heap:=h'}:=I.turned (t':=s.toks) (fun b o hb e=>(sb.2 b hb).trans e) f0 f1 f3 f4 f5
  obtain ⟨o,e,c,d⟩:=id st'
  exact ⟨u,rfl,a77 (s:={ s with heap:=h'}) e c d (by decide) ⟨x,H,I1,ru,⟨rfl,fun ys hy=>by rw [I.list_inj hy hq];exact hx⟩,st',fun b hb=>(hf b hb).1⟩⟩
 done:=by
  intro X hP hw hK hc i pins s σ H E I hf st hg
  subst hP hw hK
  obtain ⟨xs,hq,hx⟩:=hg
  obtain ⟨its,rv,p,hz⟩:=I.list hq
  obtain ⟨f0,f1,f2,f3,f4,f5⟩:=hf it (by simp)
  have hl:=rv.length
  exact wpAny_pyNext_list_end (I.ok.hd hc) st p.isList (by simp;omega) fun h' eb=>⟨rfl,I.turned (t':=s.toks) (fun b o hb e=>eb b o hb e) f0 f1 f3 f4 f5⟩
 self:=fun _ _ _ _ _ st h=>wpAny_pyIter_listiter st h
theorem f9 {P:Program} {w:World} {K:PySem.W.Frag} {tg:Expr} (it:Addr) (lo:Int) (n:Nat):Turn P w K tg (Itr lo n) [it] it (fun i h=>IsRangeIter h it (lo + (i:Nat) * 1) ((n:Int) - (i:Nat)) 1) where
 mem:=by simp
 obj:=fun i h st b hb=>by
  have e:b=it:=by simpa using hb
  subst e
  exact ⟨_,st,fun v z=>by
   have z':Data.fields _=Data.cell v:=z
   cases z'⟩
 keep:=fun i h h' st k=>k it (by simp) _ st
 item:=by
  intro X hP hw hK hc i pins s σ H E I hf st hg
  subst hP hw hK
  obtain ⟨f0,f1,f2,f3,f4,f5⟩:=hf it (by simp)
  have W:=Walks.range (prog:=X.prog) (w:=X.w) (I.ok.hd hc) it lo 1 n
  refine W.item i s _ _ hg st fun v h' tk hv st' kk=>?_
  obtain ⟨t,rfl⟩:=hv
  have I1:Inv X pins σ H { s with heap:=h',toks:=tk}:=I.turned (fun b o hb e=>kk b o (by simpa using hb) e) f0 f1 f3 f4 f5
  refine ⟨_,rfl,a77 (s:={ s with heap:=h',toks:=tk}) (n:="range_iterator") st' rfl rfl (by decide) ⟨.int (lo + i),H,I1,⟨t,?_⟩,⟨rfl,rfl⟩,st',fun b hb=>(hf b hb).1⟩⟩
  rw [Int.mul_one]
 done:=by
  intro X hP hw hK hc i pins s σ H E I hf st hg
  subst hP hw hK
  obtain ⟨f0,f1,f2,f3,f4,f5⟩:=hf it (by simp)
  exact wpAny_pyNext_range_end (I.ok.hd hc) st (by have:n≤i:=hg;omega) fun h' eb=>⟨rfl,I.turned (t':=s.toks) (fun b o hb e=>eb b o hb e) f0 f1 f3 f4 f5⟩
 self:=fun _ _ _ _ _ st h=>wpAny_pyIter_rangeiter st h
end L2
namespace L2
open PySem PySem.Spec PyProof.Rows
section
variable {X:Cx} {tg:Expr}
noncomputable def ar3 (K:PySem.W.Frag) (tl:TE):TI:=fun σ H R=>tl σ H fun x H1=>∃ a,x=.ref a∧(∃ xs,SqL K H1 a xs)∧R (Itl K a) H1
theorem Ae {l:Expr} {tl:TE} (hl:PE X l tl):PI X tg l (ar3 X.K tl):=by
 intro pins s σ H R I h
 refine thn (hl pins s σ H _ I h) fun v s1 ⟨x,H1,I1,r1,q1⟩=>?_
 obtain ⟨a,e,⟨xs,hq⟩,q⟩:=q1
 subst e
 cases r1
 obtain ⟨its,rv,p,hz⟩:=I1.list hq
 refine wpAny_pyIter_list p.isList ?_
 refine ⟨s1.heap.objs.size,[s1.heap.objs.size],_,_,H1,rfl,I1.kept (t':=s1.toks) fun b o e=>Heap.get?_push_of_some _ e,Dv a _,⟨_,Heap.get?_push_size _ rfl,rfl,rfl⟩,fun b hb=>?_,q⟩
 have e:b=s1.heap.objs.size:=by simpa using hb
 subst e
 exact I1.fpOk (Nat.le_refl _) (I1.hok.fresh (Nat.le_refl _))
theorem bx {pins:List (Addr×Obj)} {σ:St} {H:Hp} {s:Shared} {R:It→Hp→Prop} {E:Value→Shared→Prop} {lo hi:Int} {t u v:Tok} {tk:Nat} (I:Inv X pins σ H s) (h1:-(2 ^ 62)≤lo) (h2:lo < 2 ^ 62) (h3:-(2 ^ 62)≤hi) (h4:hi < 2 ^ 62)
  (q:R (Itr lo (hi - lo).toNat) H):wpAny (model X.prog X.w) X.A (pyIter (.ref s.heap.objs.size)) (PIE X pins σ tg R) E { s with heap:=s.heap.push { cls:=.type "range",data:=.fields #[.int lo t,.int hi u,.int 1 v]},toks:=tk}:=by
 refine wpAny_pyIter_range (IsRange.new ..) (small_one h1 h2 h3 h4) ?_
 have I1:Inv X pins σ H { s with heap:=s.heap.push { cls:=.type "range",data:=.fields #[.int lo t,.int hi u,.int 1 v]},toks:=tk}:=I.kept fun b o e=>Heap.get?_push_of_some _ e
 refine ⟨(s.heap.push { cls:=.type "range",data:=.fields #[.int lo t,.int hi u,.int 1 v]}).objs.size,[(s.heap.push { cls:=.type "range",data:=.fields #[.int lo t,.int hi u,.int 1 v]}).objs.size],_,_,H,rfl,
  I1.kept (t':=tk) fun b o e=>Heap.get?_push_of_some _ e,f9 _ lo (hi - lo).toNat,?_,fun b hb=>?_,q⟩
 ·have e1:lo + ((0:Nat):Int) * 1=lo:=by simp
  have e2:(((hi - lo).toNat:Nat):Int) - ((0:Nat):Int)=Builtin.Range.rangeSize lo hi 1:=by rw [rangeSize_one];split <;> omega
  show IsRangeIter _ _ (lo + ((0:Nat):Int) * 1) ((((hi - lo).toNat:Nat):Int) - ((0:Nat):Int)) 1
  rw [e1,e2]
  exact Heap.get?_push_size _ rfl
 ·have e:b=(s.heap.push { cls:=.type "range",data:=.fields #[.int lo t,.int hi u,.int 1 v]}).objs.size:=by simpa using hb
  subst e
  exact I1.fpOk (Nat.le_refl _) (I1.hok.fresh (Nat.le_refl _))
noncomputable def ar2 (ta:TA):TI:=fun σ H R=>ta σ H fun vs H1=>∃ j:Int,vs=[.int j]∧ -(2 ^ 62)≤j∧j < 2 ^ 62∧R (Itr 0 j.toNat) H1
theorem Dm {a:Expr} {ta:TA} {p pos:Pos} (hg:Gl X "range") (hm:X.mg "range"=none) (ha:PA X [a] ta) (hs:starEach [a] X.env=[(false,eval a X.env)]:=by rfl):PI X tg (.Call (.Name "range" p) [a] [] pos) (ar2 ta):=by
 intro pins s σ H R I h
 refine Call_ (Qx I hg hm boot_range (PyProof.Rows.callWith_type1 (thn (ha pos pins s σ H _ I h) fun us s1 ⟨vs,H1,I1,r1,q1⟩=>?_) hs rfl))
 obtain ⟨j,e,q1,q2,q⟩:=q1
 subst e
 cases r1 with
 | cons r rr =>
  cases rr
  obtain ⟨t,rfl⟩:=r
  exact call_range_1 (bx I1 (by omega) (by omega) q1 q2 (by simpa using q))
noncomputable def tFor (wi:TI) (g:TG) (tb:TS):TS:=fun D σ H=>wi σ H fun J H1=>∃ W:Nat→Nat→St→Hp→Prop,(∃ m,W 0 m σ H1)∧∀ i m σ H,W i m σ H →
 (J.stop i H∧D.nx σ H)∨(J.go i H∧∃ N:St→Hp→Prop,(∀ σ' H',N σ' H'→∃ m',m' < m∧W (i + 1) m' σ' H')∧∀ x H',J.yld i H x H'→g x σ H' fun σ2 H2=>tb { D with nx:=N,ct:=N,bk:=D.nx} σ2 H2)
noncomputable def Xi (fp:List Addr) (h:Heap):List (Addr×Obj):=fp.filterMap fun b=>(h.get? b).map fun o=>(b,o)
theorem Yw {fp:List Addr} {h:Heap} {b:Addr} {o:Obj} (hb:b∈fp) (e:h.get? b=some o):(b,o)∈Xi fp h:=List.mem_filterMap.mpr ⟨b,hb,by rw [e];rfl⟩
theorem Df {fp:List Addr} {h:Heap} {p:Addr×Obj} (hp:p∈Xi fp h):p.1∈fp∧h.get? p.1=some p.2:=by
 obtain ⟨b,hb,e⟩:=List.mem_filterMap.mp hp
 cases q:h.get? b with
 | none=>rw [q] at e;cases e
 | some o =>
  rw [q] at e
  have e':(b,o)=p:=Option.some.inj e
  subst e'
  exact ⟨hb,q⟩
theorem Inv.pinned {pins:List (Addr×Obj)} {σ:St} {H:Hp} {s:Shared} {fp:List Addr} (I:Inv X pins σ H s) (hf:∀ b∈fp,zt X pins H b) (ho:∀ b∈fp,∃ o,s.heap.get? b=some o∧∀ v,o.data≠.cell v):Inv X (pins++Xi fp s.heap) σ H s :=
 I.pins_of fun p hp=>(List.mem_append.mp hp).elim (fun z=>I.pin p (List.mem_append_right _ z)) fun z=>by
  obtain ⟨hb,e⟩:=Df z
  obtain ⟨f0,f1,f2,_⟩:=hf p.1 hb
  obtain ⟨o,e',d⟩:=ho p.1 hb
  rw [e] at e';cases e'
  exact ⟨e,f0,f1,f2,d⟩
theorem Inv.unpinned {pins pl:List (Addr×Obj)} {σ:St} {H:Hp} {s:Shared} (I:Inv X (pins++pl) σ H s):Inv X pins σ H s:=I.pins_of fun p hp=>I.pin p (List.mem_append_right _ (List.mem_append_left _ hp))
theorem ac6 {iter:Expr} {body:List Stmt} {wi:TI} {g:TG} {tb:TS} {pos:Pos} (hp:PassesOwn (model X.prog X.w) X.A X.env X.xe) (hc:X.calm=true) (hi:PI X tg iter wi) (hg:PG X tg g) (hb:PSs X body tb)
  (hs:∀ x,foldedSetIterable iter X.env x=pure x:=by intro _;rfl):PS X (.For tg iter body [] pos) (tFor wi g tb):=by
 intro pins s σ H D I h
 refine wpAny_For (thn (hi pins s σ H _ I h) fun v s1 h1=>thn h1 fun itv s2 h2=>?_) hs
 obtain ⟨it,fp,tn,J,H2,e,I2,T,st2,f2,W,⟨m0,w0⟩,turn⟩:=h2
 subst e
 have stat:∀ {H':Hp},(∀ b∈fp,H' b=none)→∀ b∈fp,zt X pins H' b:=fun hn b hb=>⟨hn b hb,(f2 b hb).2⟩
 refine codeAny_forLoop_any (fun n s'=>∃ i σ' H',Inv X pins σ' H' s'∧tn i s'.heap∧(∀ b∈fp,H' b=none)∧W i n σ' H') ?_ m0 ⟨0,σ,H2,I2,st2,fun b hb=>(f2 b hb).1,w0⟩
 rintro n s3 ⟨i,σ3,H3,I3,st3,fr3,w3⟩
 rcases turn i n σ3 H3 w3 with ⟨stop,qn⟩ | ⟨go,N,hN,step⟩
 ·refine wpAny_passesOwn hp (thn (T.done X rfl rfl rfl hc i pins s3 σ3 H3 X.xe I3 (stat fr3) st3 stop) fun r s4 ⟨hr,I4⟩=>?_)
  subst hr
  exact wpAny_execs_nil ⟨σ3,H3,I4,qn⟩
 ·refine wpAny_passesOwn hp (thn (T.item X rfl rfl rfl hc i pins s3 σ3 H3 X.xe I3 (stat fr3) st3 go) fun r s4 ⟨u,hr,h4⟩=>?_)
  subst hr
  refine wpAny_passesOwn hp (thn h4 fun _ s5 ⟨x,H5,I5,r5,y5,st5,fr5⟩=>?_)
  have I5':=I5.pinned (stat fr5) (T.obj _ _ st5)
  refine wpAny_passesOwn hp (thn (hg _ s5 σ3 H5 x u _ I5' r5 (step x H5 y5)) fun _ s6 ⟨σ6,H6,I6,q6⟩=>?_)
  refine wpAny_passesOwn hp (thn (hb _ s6 σ6 H6 _ I6 q6) fun f s7 q7=>?_)
  have again:∀ {σ7:St} {H7:Hp},Inv X (pins++Xi fp s5.heap) σ7 H7 s7→N σ7 H7→∃ m,m < n∧∃ i σ' H',Inv X pins σ' H' s7∧tn i s7.heap∧(∀ b∈fp,H' b=none)∧W i m σ' H':=fun {σ7 H7} I7 n7=>by
   obtain ⟨m',hm,w7⟩:=hN σ7 H7 n7
   refine ⟨m',hm,i + 1,σ7,H7,I7.unpinned,T.keep _ _ _ st5 fun b hb o e=>(I7.pin (b,o) (List.mem_append_right _ (List.mem_append_right _ (Yw hb e)))).1,fun b hb=>?_,w7⟩
   obtain ⟨o,e,d⟩:=T.obj _ _ st5 b hb
   exact (I7.pin (b,o) (List.mem_append_right _ (List.mem_append_right _ (Yw hb e)))).2.1
  cases f with
  | next=>obtain ⟨σ7,H7,I7,n7⟩:=q7;exact again I7 n7
  | cont=>obtain ⟨σ7,H7,I7,n7⟩:=q7;exact again I7 n7
  | brk=>obtain ⟨σ7,H7,I7,q7⟩:=q7;exact ⟨σ7,H7,I7.unpinned,q7⟩
  | ret v=>obtain ⟨x7,σ7,H7,I7,r7,q7⟩:=q7;exact ⟨x7,σ7,H7,I7.unpinned,r7,q7⟩
end
end L2
namespace L2
open PySem PySem.Spec PyProof.Rows
noncomputable abbrev R2:=V→V→Hp→VK→Prop
noncomputable def OpR (X:Cx) (f:Value→Value→Sem Value) (r:R2):Prop :=
 ∀ (pins:List (Addr×Obj)) (s:Shared) (σ:St) (H:Hp) (x y:V) (v u:Value) (Q:VK),Inv X pins σ H s→J3 x v→J3 y u→r x y H Q →
  wpAny (model X.prog X.w) X.A (f v u) (EP X pins σ Q) X.xe s
noncomputable def UnR (X:Cx) (f:Value→Sem Value) (r:V→Hp→VK→Prop):Prop :=
 ∀ (pins:List (Addr×Obj)) (s:Shared) (σ:St) (H:Hp) (x:V) (v:Value) (Q:VK),Inv X pins σ H s→J3 x v→r x H Q →
  wpAny (model X.prog X.w) X.A (f v) (EP X pins σ Q) X.xe s
noncomputable def qd (X:Cx) (f:Value) (r:List V→Hp→VK→Prop):Prop :=
 ∀ (pins:List (Addr×Obj)) (s:Shared) (σ:St) (H:Hp) (xs:List V) (us:List Value) (Q:VK),Inv X pins σ H s→J7 xs us→r xs H Q →
  wpAny (model X.prog X.w) X.A (call f us) (EP X pins σ Q) X.xe s
noncomputable def TruR (X:Cx) (r:V→Hp→(Bool→Hp→Prop)→Prop):Prop :=
 ∀ (pins:List (Addr×Obj)) (s:Shared) (σ:St) (H:Hp) (x:V) (v:Value) (Q:Bool→Hp→Prop),Inv X pins σ H s→J3 x v→r x H Q →
  wpAny (model X.prog X.w) X.A (truthy v) (TP X pins σ Q) X.xe s
noncomputable def tOp (r:R2) (ta tb:TE):TE:=fun σ H Q=>ta σ H fun x H1=>tb σ H1 fun y H2=>r x y H2 Q
noncomputable def tUn (r:V→Hp→VK→Prop) (ta:TE):TE:=fun σ H Q=>ta σ H fun x H1=>r x H1 Q
noncomputable def rI (C:Int→Int→Prop) (g:Int→Int→V):R2:=fun x y H Q=>∃ i j,x=.int i∧y=.int j∧C i j∧Q (g i j) H
noncomputable def rI0 (g:Int→Int→V):R2:=fun x y H Q=>∃ i j,x=.int i∧y=.int j∧Q (g i j) H
noncomputable def rU (g:Int→V):V→Hp→VK→Prop:=fun x H Q=>∃ i,x=.int i∧Q (g i) H
section
variable {X:Cx} {a b c:Expr} {ta tb tc:TE} {pos:Pos}
theorem aj5 (ha:PE X a ta) (hb:PE X b tb) {pins:List (Addr×Obj)} {s:Shared} {σ:St} {H:Hp} {R:V→V→Hp→Prop} (I:Inv X pins σ H s)
  (h:ta σ H fun x H1=>tb σ H1 fun y H2=>R x y H2) {Q:Value→Shared→Prop} {f:Value→Value→Sem Value}
  (hf:∀ v u s2 x y H2,Inv X pins σ H2 s2→J3 x v→J3 y u→R x y H2→wpAny (model X.prog X.w) X.A (f v u) Q X.xe s2) :
  wpAny (model X.prog X.w) X.A (eval a X.env) (fun v s₁=>wpAny (model X.prog X.w) X.A (eval b X.env) (fun u s₂=>wpAny (model X.prog X.w) X.A (f v u) Q X.xe s₂) X.xe s₁) X.xe s:=by
 refine thn (ha pins s σ H _ I h) fun v s1 ⟨x,H1,I1,r1,q1⟩=>?_
 refine thn (hb pins s1 σ H1 _ I1 q1) fun u s2 ⟨y,H2,I2,r2,q2⟩=>?_
 exact hf v u s2 x y H2 I2 r1 r2 q2
theorem ao2 {op:Operator} {r:R2} (ho:OpR X (binaryOp op) r) (ha:PE X a ta) (hb:PE X b tb):PE X (.BinOp a op b pos) (tOp r ta tb):=by
 intro pins s σ H Q I h
 exact wpAny_BinOp (aj5 ha hb I h fun v u s2 x y H2 I2 rx ry q=>ho pins s2 σ H2 x y v u Q I2 rx ry q)
theorem ao1 {op:UnaryOp} {r:V→Hp→VK→Prop} (ho:UnR X (unaryOp op) r) (ha:PE X a ta):PE X (.UnaryOp op a pos) (tUn r ta):=by
 intro pins s σ H Q I h
 exact UnaryOp_ (thn (ha pins s σ H _ I h) fun v s1 ⟨x,H1,I1,r1,q1⟩=>ho pins s1 σ H1 x v Q I1 r1 q1)
theorem opI {f:Value→Value→Sem Value} {C:Int→Int→Prop} {g:Int→Int→Int}
  (rule:∀ (i j:Int) (t u:Tok) (s:Shared) (Q:Value→Shared→Prop) (E:Value→Shared→Prop),C i j→Q (.int (g i j) s.toks) { s with toks:=s.toks + 1}→wpAny (model X.prog X.w) X.A (f (.int i t) (.int j u)) Q E s) :
  OpR X f (rI C fun i j=>.int (g i j)):=by
 intro pins s σ H x y v u Q I rx ry h
 obtain ⟨i,j,rfl,rfl,hc,q⟩:=h
 obtain ⟨t,rfl⟩:=rx
 obtain ⟨t',rfl⟩:=ry
 exact rule i j t t' s _ _ hc ⟨.int (g i j),H,I.tok _,⟨_,rfl⟩,q⟩
theorem B5 {f:Value→Value→Sem Value} {g:Int→Int→Int}
  (rule:∀ (i j:Int) (t u:Tok) (s:Shared) (Q:Value→Shared→Prop) (E:Value→Shared→Prop),Q (.int (g i j) s.toks) { s with toks:=s.toks + 1}→wpAny (model X.prog X.w) X.A (f (.int i t) (.int j u)) Q E s) :
  OpR X f (rI0 fun i j=>.int (g i j)):=by
 intro pins s σ H x y v u Q I rx ry h
 obtain ⟨i,j,rfl,rfl,q⟩:=h
 obtain ⟨t,rfl⟩:=rx
 obtain ⟨t',rfl⟩:=ry
 exact rule i j t t' s _ _ ⟨.int (g i j),H,I.tok _,⟨_,rfl⟩,q⟩
theorem a06 {f:Value→Value→Sem Value} {g:Int→Int→Bool}
  (rule:∀ (i j:Int) (t u:Tok) (s:Shared) (Q:Value→Shared→Prop) (E:Value→Shared→Prop),Q (.bool (g i j)) s→wpAny (model X.prog X.w) X.A (f (.int i t) (.int j u)) Q E s) :
  OpR X f (rI0 fun i j=>.bl (g i j)):=by
 intro pins s σ H x y v u Q I rx ry h
 obtain ⟨i,j,rfl,rfl,q⟩:=h
 obtain ⟨t,rfl⟩:=rx
 obtain ⟨t',rfl⟩:=ry
 exact rule i j t t' s _ _ ⟨.bl (g i j),H,I,rfl,q⟩
noncomputable def a58 (i j:Int):Prop:=0≤j∧j≤1000000∧i.natAbs < 2 ^ 64
noncomputable def Cv (i j:Int):Prop:=(-(2 ^ 64) < i∧i < 2 ^ 64)∨(-(2 ^ 64) < j∧j < 2 ^ 64)
theorem Cv.ok {i j:Int} (h:Cv i j):IntMulOk i j:=by
 rcases h with ⟨h1,h2⟩ | ⟨h1,h2⟩
 ·exact .of_left (intBits_le_64 h1 h2)
 ·exact .of_right (intBits_le_64 h1 h2)
theorem f8 (k:Nat):(0:Int)≤2 ^ k:=by
 rw [two_pow_cast]
 exact Int.natCast_nonneg _
theorem af4:OpR X (binaryOp .Add) (rI0 fun i j=>.int (i + j)):=B5 fun _ _ _ _ _ _ _ q=>add_int q
theorem ae3:OpR X (binaryOp .Sub) (rI0 fun i j=>.int (i - j)):=B5 fun _ _ _ _ _ _ _ q=>sub_int q
theorem ae7:OpR X (binaryOp .Mult) (rI Cv fun i j=>.int (i * j)):=opI fun _ _ _ _ _ _ _ hc q=>mul_int q hc.ok
theorem ae8:OpR X (binaryOp .Mod) (rI (fun _ j=>0 < j) fun i j=>.int (i % j)):=opI fun i j _ _ _ _ _ hc q=>by
 have h1:(0:Int) < j:=hc
 exact mod_int' (by omega) (by rw [Int.fmod_eq_emod_of_nonneg i (by omega)];exact q)
theorem ae5:OpR X (binaryOp .LShift) (rI a58 fun i j=>.int (i * 2 ^ j.toNat)):=opI fun _ _ _ _ _ _ _ hc q=>lshift_int_small hc.1 hc.2.1 hc.2.2 q
theorem ae4:OpR X (binaryOp .RShift) (rI (fun _ j=>0≤j) fun i j=>.int (i / 2 ^ j.toNat)):=opI fun i j _ _ _ _ _ hc q =>
 rshift_int hc (by rw [Int.fdiv_eq_ediv_of_nonneg i (f8 _)];exact q)
theorem af3:OpR X (binaryOp .BitAnd) (rI0 fun i j=>.int (Builtin.bitAnd i j)):=B5 fun _ _ _ _ _ _ _ q=>and_int q
theorem ao6:OpR X (binaryOp .BitOr) (rI0 fun i j=>.int (Builtin.bitOr i j)):=B5 fun _ _ _ _ _ _ _ q=>or_int q
theorem ae2:OpR X (binaryOp .BitXor) (rI0 fun i j=>.int (Builtin.bitXor i j)):=B5 fun _ _ _ _ _ _ _ q=>xor_int q
theorem unI {f:Value→Sem Value} {g:Int→Int}
  (rule:∀ (i:Int) (t:Tok) (s:Shared) (Q:Value→Shared→Prop) (E:Value→Shared→Prop),Q (.int (g i) s.toks) { s with toks:=s.toks + 1}→wpAny (model X.prog X.w) X.A (f (.int i t)) Q E s) :
  UnR X f (rU fun i=>.int (g i)):=by
 intro pins s σ H x v Q I rx h
 obtain ⟨i,rfl,q⟩:=h
 obtain ⟨t,rfl⟩:=rx
 exact rule i t s _ _ ⟨.int (g i),H,I.tok _,⟨_,rfl⟩,q⟩
theorem aa1:UnR X (unaryOp .USub) (rU fun i=>.int (-i)):=unI fun _ _ _ _ _ q=>neg_int q
end
section
variable {X:Cx} {a b c:Expr} {ta tb tc:TE} {pos:Pos}
theorem ao7:OpR X (compareOp .Lt) (rI0 fun i j=>.bl (decide (i < j))):=a06 fun _ _ _ _ _ _ _ q=>lt_int q
theorem ao8:OpR X (compareOp .LtE) (rI0 fun i j=>.bl (decide (i≤j))):=a06 fun _ _ _ _ _ _ _ q=>le_int q
theorem ao9:OpR X (compareOp .Gt) (rI0 fun i j=>.bl (decide (j < i))):=a06 fun _ _ _ _ _ _ _ q=>gt_int q
theorem ap0:OpR X (compareOp .GtE) (rI0 fun i j=>.bl (decide (j≤i))):=a06 fun _ _ _ _ _ _ _ q=>ge_int q
theorem OpR.or {f:Value→Value→Sem Value} {r r':R2} (h:OpR X f r) (h':OpR X f r'):OpR X f (fun x y H Q=>r x y H Q∨r' x y H Q):=by
 intro pins s σ H x y v u Q I rx ry q
 rcases q with q | q
 ·exact h pins s σ H x y v u Q I rx ry q
 ·exact h' pins s σ H x y v u Q I rx ry q
theorem nomark (b:Expr) {op:CmpOp} (h:op≠.In:=by decide) (h2:op≠.NotIn:=by decide):behindInMarks op b=false:=by
 have e1:(op == CmpOp.In)=false:=by cases op <;> first | rfl | exact absurd rfl h
 have e2:(op == CmpOp.NotIn)=false:=by cases op <;> first | rfl | exact absurd rfl h2
 cases b <;> simp [behindInMarks,e1,e2]
theorem Ab {op:CmpOp} {r:R2} (ho:OpR X (compareOp op) r) (ha:PE X a ta) (hb:PE X b tb) (hm:behindInMarks op b=false):PE X (.Compare a [op] [b] pos) (tOp r ta tb):=by
 intro pins s σ H Q I h
 exact wpAny_Compare1 (aj5 ha hb I h fun v u s2 x y H2 I2 rx ry q=>ho pins s2 σ H2 x y v u Q I2 rx ry q) hm
noncomputable def al0 (t:TE):TT:=fun σ H Q=>t σ H fun x H'=>∃ k,x=.bl k∧Q k H'
theorem Am {op:CmpOp} {r:R2} (ho:OpR X (compareOp op) r) (ha:PE X a ta) (hb:PE X b tb) (hm:behindInMarks op b=false):PT X (.Compare a [op] [b] pos) (al0 (tOp r ta tb)):=by
 intro pins s σ H Q I h
 refine wpAny_isTrue_Compare1 (thn (ha pins s σ H _ I h) fun v s1 ⟨x,H1,I1,r1,q1⟩=>thn (hb pins s1 σ H1 _ I1 q1) fun u s2 ⟨y,H2,I2,r2,q2⟩ =>
  thn (ho pins s2 σ H2 x y v u _ I2 r1 r2 q2) fun c s3 ⟨z,H3,I3,r3,k,e,q3⟩=>?_) hm
 subst e
 cases r3
 exact wpAny_truthy_bool ⟨H3,I3,q3⟩
noncomputable def aj8 (K:PySem.W.Frag) (x:V) (H:Hp) (k:Bool):Prop :=
 match x with
 | .non=>k=false
 | .bl b=>k=b
 | .int i=>k=(i != 0)
 | .str y=>y.length≤sizeLine∧k=((y.length:Int) != 0)
 | .byt y=>y.size≤sizeLine∧k=((y.size:Int) != 0)
 | .ref p=>(∃ xs,SqL K H p xs∧k= !xs.isEmpty)∨(∃ xs,SqT K H p xs∧k= !xs.isEmpty)∨∃ kvs,H p=some (.dK kvs)∧k= !kvs.isEmpty
 | _=>False
theorem Fy {κ:Type} {kvs:List (κ×V)} {vs:List (κ×Value)} (r:KV kvs vs):(!vs.isEmpty)= !kvs.isEmpty:=by
 cases r <;> rfl
theorem wt {xs:List V} {its:List Value} (r:J7 xs its):(!its.toArray.isEmpty)= !xs.isEmpty:=by
 cases r <;> simp
theorem ww:(sizeLine:Nat) < 2 ^ 63:=by rw [sizeLine_eq];decide
theorem Yj:TruR X (fun x H Q=>∃ k,aj8 X.K x H k∧Q k H):=by
 intro pins s σ H x v Q I rx h
 obtain ⟨k,e,q⟩:=h
 have hl:=ww
 have hs:sizeLine=16777216:=sizeLine_eq
 cases x with
 | non =>
  cases rx
  have e':k=false:=e
  subst e'
  exact truthy_none ⟨H,I,q⟩
 | bl b =>
  cases rx
  have e':k=b:=e
  subst e'
  exact wpAny_truthy_bool ⟨H,I,q⟩
 | int i =>
  obtain ⟨t,rfl⟩:=rx
  have e':k=(i != 0):=e
  subst e'
  exact PySem.P.truthy_int ⟨H,I,q⟩
 | str y =>
  obtain ⟨t,rfl⟩:=rx
  obtain ⟨hy,e'⟩:y.length≤sizeLine∧k=((y.length:Int) != 0):=e
  subst e'
  exact PySem.P.truthy_str (by omega) ⟨H,I.tok _,q⟩
 | byt y =>
  obtain ⟨t,rfl⟩:=rx
  obtain ⟨hy,e'⟩:y.size≤sizeLine∧k=((y.size:Int) != 0):=e
  subst e'
  exact PySem.W.truthy_bytes (by omega) ⟨H,I.tok _,q⟩
 | ref p =>
  cases rx
  have e':(∃ xs,SqL X.K H p xs∧k= !xs.isEmpty)∨(∃ xs,SqT X.K H p xs∧k= !xs.isEmpty)∨∃ kvs,H p=some (.dK kvs)∧k= !kvs.isEmpty:=e
  rcases e' with ⟨xs,hx,e'⟩ | ⟨xs,hx,e'⟩ | ⟨kvs,hx,e'⟩
  ·subst e'
   obtain ⟨its,r,pl,hz⟩:=I.list hx
   have hlen:=r.length
   exact wpAny_truthy_list pl.isList (by simp only [List.size_toArray];omega) ⟨H,I.tok _,by rw [wt r];exact q⟩
  ·subst e'
   obtain ⟨its,r,pl,hz⟩:=I.tuple hx
   have hlen:=r.length
   exact truthy_tuple pl (by simp only [List.size_toArray];omega) ⟨H,I.tok _,by rw [wt r];exact q⟩
  ·subst e'
   obtain ⟨hz,hS,vs,r,m⟩:kvs.length≤sizeLine∧(p == sysModules)=false∧∃ vs,KV kvs vs∧s.heap.DictOf (Jr X.prog X.w) p vs:=I.hok p _ hx
   have hlen:kvs.length=vs.length:=Paired.length r
   exact wpAny_truthy_dict hS m (by omega) ⟨H,I.tok _,by rw [Fy r];exact q⟩
 | _=>exact (show False from e).elim
theorem bv (ha:PE X a ta) (he:∀ whole,isTrue a X.env whole=(do let v ← whole;standAt a.pos;holding [v] (truthy v))) :
  PT X a (fun σ H Q=>ta σ H fun x H'=>∃ k,aj8 X.K x H' k∧Q k H'):=by
 intro pins s σ H Q I h
 exact isTrue_plain (thn (ha pins s σ H _ I h) fun v s1 ⟨x,H1,I1,r1,q1⟩=>Yj pins s1 σ H1 x v Q I1 r1 q1) (he _)
theorem fk:OpR X (binaryOp .Add) (fun x y H Q=>∃ i j,x=.str i∧y=.str j∧i.length + j.length≤sizeLine∧Q (.str (i++j)) H):=by
 intro pins s σ H x y v u Q I rx ry h
 obtain ⟨i,j,rfl,rfl,hz,q⟩:=h
 obtain ⟨t,rfl⟩:=rx
 obtain ⟨t',rfl⟩:=ry
 exact add_str (fun t' tk=>⟨.str (i++j),H,I.tok _,⟨_,rfl⟩,q⟩) hz
theorem Kl {x:V} {us:List Value} (r:J7 [x] us):∃ u,us=[u]∧J3 x u:=by
 cases r with
 | cons r1 r2=>cases r2;exact ⟨_,rfl,r1⟩
theorem Cq {x y:V} {us:List Value} (r:J7 [x,y] us):∃ u w',us=[u,w']∧J3 x u∧J3 y w':=by
 cases r with
 | cons r1 r2 =>
  cases r2 with
  | cons r3 r4=>cases r4;exact ⟨_,_,rfl,r1,r3⟩
theorem C7 (hc:X.calm=true):qd X (.builtin "max") (fun xs H Q=>∃ i j,xs=[.int i,.int j]∧Q (.int (if j > i then j else i)) H):=by
 intro pins s σ H xs us Q I r h
 obtain ⟨i,j,rfl,q⟩:=h
 obtain ⟨u,w',rfl,⟨t,rfl⟩,⟨t',rfl⟩⟩:=Cq r
 refine max_two_ints (I.ok.hd hc) fun h' tk k=>⟨_,H,I.kept k,?_,q⟩
 by_cases hj:j > i
 ·rw [if_pos hj,if_pos hj];exact ⟨_,rfl⟩
 ·rw [if_neg hj,if_neg hj];exact ⟨_,rfl⟩
theorem C6 (hc:X.calm=true):qd X (.builtin "min") (fun xs H Q=>∃ i j,xs=[.int i,.int j]∧Q (.int (if j < i then j else i)) H):=by
 intro pins s σ H xs us Q I r h
 obtain ⟨i,j,rfl,q⟩:=h
 obtain ⟨u,w',rfl,⟨t,rfl⟩,⟨t',rfl⟩⟩:=Cq r
 refine min_two_ints (I.ok.hd hc) fun h' tk k=>⟨_,H,I.kept k,?_,q⟩
 by_cases hj:j < i
 ·rw [if_pos hj,if_pos hj];exact ⟨_,rfl⟩
 ·rw [if_neg hj,if_neg hj];exact ⟨_,rfl⟩
theorem C8:qd X (.type "int") (fun xs H Q=>(∃ i,xs=[.int i]∧Q (.int i) H)∨∃ k,xs=[.bl k]∧Q (.int (if k then 1 else 0)) H):=by
 intro pins s σ H xs us Q I r h
 rcases h with ⟨i,rfl,q⟩ | ⟨k,rfl,q⟩
 ·obtain ⟨u,rfl,t,rfl⟩:=Kl r
  exact call_int_int ⟨.int i,H,I,⟨_,rfl⟩,q⟩
 ·obtain ⟨u,rfl,r1⟩:=Kl r
  cases r1
  exact call_int_bool ⟨.int (if k then 1 else 0),H,I.tok _,⟨_,rfl⟩,q⟩
noncomputable def LenV (K:PySem.W.Frag) (x:V) (H:Hp) (n:Nat):Prop :=
 match x with
 | .str y=>y.length≤sizeLine∧n=y.length
 | .byt y=>y.size≤sizeLine∧n=y.size
 | .ref p=>(∃ xs,SqL K H p xs∧n=xs.length)∨∃ xs,SqT K H p xs∧n=xs.length
 | _=>False
theorem ai:qd X (.builtin "len") (fun xs H Q=>∃ x n,xs=[x]∧LenV X.K x H n∧Q (.int n) H):=by
 intro pins s σ H xs us Q I r h
 obtain ⟨x,n,rfl,e,q⟩:=h
 obtain ⟨u,rfl,rx⟩:=Kl r
 have hl:=ww
 have hs:sizeLine=16777216:=sizeLine_eq
 cases x with
 | str y =>
  obtain ⟨t,rfl⟩:=rx
  obtain ⟨hy,e'⟩:y.length≤sizeLine∧n=y.length:=e
  subst e'
  exact len_str (by omega) ⟨.int _,H,I.tok _,⟨_,rfl⟩,q⟩
 | byt y =>
  obtain ⟨t,rfl⟩:=rx
  obtain ⟨hy,e'⟩:y.size≤sizeLine∧n=y.size:=e
  subst e'
  exact PySem.W.len_bytes (by omega) ⟨.int _,H,I.tok _,⟨_,rfl⟩,q⟩
 | ref p =>
  cases rx
  have e':(∃ xs,SqL X.K H p xs∧n=xs.length)∨∃ xs,SqT X.K H p xs∧n=xs.length:=e
  rcases e' with ⟨xs,hx,e'⟩ | ⟨xs,hx,e'⟩
  ·subst e'
   obtain ⟨its,r',pl,hz⟩:=I.list hx
   have hlen:=r'.length
   exact Calls.call_len_list pl.isList (by simp only [List.size_toArray];omega) ⟨.int xs.length,H,I.tok _,⟨_,by simp only [List.size_toArray];rw [hlen]⟩,q⟩
  ·subst e'
   obtain ⟨its,r',pl,hz⟩:=I.tuple hx
   have hlen:=r'.length
   exact len_tuple pl (by simp only [List.size_toArray];omega) ⟨.int xs.length,H,I.tok _,⟨_,by simp only [List.size_toArray];rw [hlen]⟩,q⟩
 | _=>exact (show False from e).elim
end
end L2
namespace L2
open PySem PySem.Spec PyProof.Rows
structure ObjM (h:Heap) (x dx C:Addr) (mA:Str→Option Value):Prop where
 obj:h.get? x=some (PySem.W.instObj C dx)
 ns:h.Ns1 dx mA
 ne:dx≠x
theorem vm {h:Heap} {dx:Addr} {mA:Str→Option Value} (n:h.Ns1 dx mA):∃ od,h.get? dx=some od∧∀ name,PySem.W.lookIn name od=some (mA name):=by
 obtain ⟨o,es,ep,ho,hd,hk,_,hm⟩:=n
 refine ⟨o,ho,fun name=>?_⟩
 have e:=hm name
 unfold nsFind findBy at e
 rw [← Array.find?_toList] at e
 unfold PySem.W.lookIn
 rw [hd]
 dsimp only
 split
 ·rename_i y q
  rw [q] at e
  exact congrArg some e
 ·rename_i q
  rw [q] at e
  have a:es.toList.any (·.refKey)=false:=by
   rw [List.any_eq_false]
   intro y hy
   obtain ⟨z,t,hkey⟩:=hk y (Array.mem_toList_iff.mp hy)
   simp [DictEntry.refKey,hkey]
  have a':¬ es.toList.any (·.refKey)=true:=by rw [a];exact Bool.false_ne_true
  rw [if_neg a']
  exact congrArg some e
theorem ObjM.look {h:Heap} {x dx C:Addr} {mA:Str→Option Value} (I:ObjM h x dx C mA):∃ od,PySem.W.InstAt h x (PySem.W.instObj C dx) C (some od)∧∀ name,PySem.W.lookIn name od=some (mA name) :=
 let ⟨od,ho,hl⟩:=vm I.ns
 ⟨od,⟨I.obj,rfl,rfl,ho⟩,hl⟩
section
variable {prog:Program} {w:World} {A:Around} {E:Value→Shared→Prop} {s:Shared} {K:PySem.W.Frag} {x dx C f:Addr} {mA:Str→Option Value} {name:Str} {v:Value}
theorem a38 {expr:Bool} {Q:Value→Shared→Prop} (X:K.In s.heap) (I:ObjM s.heap x dx C mA) (hg:PySem.W.plainGet K C name=true) (hh:PySem.W.hasDictIn K C=true)
  (ha:PySem.W.findIn K (.ref C) name=some none) (hv:mA name=some v) (hv':PySem.W.handedIn v=true) (h:Q v { s with toks:=s.toks + 1}) :
  wpAny (model prog w) A (getAttr (.ref x) name expr) Q E s:=by
 obtain ⟨od,J,hl⟩:=I.look
 exact PySem.W.get_value X J (PySem.W.plainGet_of hg).1 (PySem.W.findObj_own hh ha rfl (by rw [hl,hv])) hv' h
theorem Az {ns:List Str} {Q:Unit→Shared→Prop} (X:K.In s.heap) (I:ObjM s.heap x dx C mA)
  (hs:PySem.W.findIn K (.ref C) "__setattr__"=some (some (.builtin "object.__setattr__"))) (hp:PySem.W.plainOver K C=true) (ht:PySem.W.takerIn K C name=some none) (hh:PySem.W.hasDictIn K C=true)
  (hw:PySem.Within mA ns) (hsz:ns.length≤sizeLine)
  (h:∀ h',ObjM h' x dx C (fun y=>if y=name then some v else mA y)→Heap.SameBut dx s.heap h'→Q () { s with heap:=h',toks:=s.toks + 2}) :
  wpAny (model prog w) A (setAttr (.ref x) name v) Q E s:=by
 obtain ⟨od,J,hl⟩:=I.look
 refine PySem.W.set_plain X J hs (PySem.W.osa_open (s:={ s with toks:=s.toks + 1}) (r:=none) X J hp ht fun b=>?_)
 obtain ⟨cd,hc,hd'⟩:=PySem.W.any_some hh
 have hx:s.heap.get? x=some ⟨.ref C,some dx,.plain,#[]⟩:=I.obj
 refine wpAny_bind (wpAny_pure (wpAny_bind (wpAny_bind (wpAny_loadPart hx (wpAny_bind (PySem.W.Looks.here (s:={ s with toks:=s.toks + 1}) (PySem.W.looks_clsIn X hc) ?_))))))
 rw [hd']
 refine wpAny_pure (a:=some dx) (wpAny_bind (wpAny_pure (wpAny_bind ?_)))
 refine wpAny_nsSet1 (s:={ s with toks:=s.toks + 1}) I.ns fun h' hn2 hs2=>?_
 obtain ⟨oD,esD,epD,hoD,hdD,hcD⟩:=hn2.count (PySem.Within.cons name v hw)
 refine wpAny_bind (wpAny_lookBehind hoD (by rw [hdD];exact pastItsLine_dict (Nat.le_trans hcD (by rw [List.length_cons];omega))) ?_)
 exact wpAny_pure (h _ ⟨(hs2.2 _ (Ne.symm I.ne)).trans I.obj,hn2,I.ne⟩ hs2)
theorem Bh {R:Result→Shared→Prop} {vs:List Value} {kw:List (Str×Value)} (X:K.In s.heap) (hm:PySem.W.makesIn K C=true)
  (hi:PySem.W.findIn K (.ref C) "__init__"=some (some (.ref f))) (hf:PySem.W.typeIn K (.ref f)=some (.type "function"))
  (h:codeAny (model prog w) (A.under (.builtin "type.__call__" ⟨.ref C::vs,kw⟩)) (.call (.ref f) ⟨.ref (s.heap.objs.size + 1)::vs,kw⟩) (PySem.W.InitBack (s.heap.objs.size + 1) R)
   { s with heap:=(s.heap.push PySem.W.emptyDict).push (PySem.W.instObj C s.heap.objs.size)}) :
  codeAny (model prog w) A (.call (.ref C) ⟨vs,kw⟩) R s:=by
 obtain ⟨hh,g,d,t,os⟩:=s
 exact PySem.W.make_core (PySem.W.makes_of X hm) (PySem.W.looks_findIn X hi) (fun self=>PySem.W.bind_fn X self hf) (.inl rfl) h
end
noncomputable def yb (f:Str) (v:V):List (Str×V)→List (Str×V)
 | []=>[(f,v)]
 | (g,x)::r=>if g=f then (g,v)::r else (g,x)::yb f v r
theorem Qg (f g:Str) (v:V):∀ fs:List (Str×V),(yb f v fs).lookup g=if g=f then some v else fs.lookup g
 | []=>by
  show List.lookup g [(f,v)]=_
  by_cases h:g=f
  ·have hb:(g == f)=true:=beq_iff_eq.mpr h
   simp only [List.lookup,hb,if_pos h]
  ·have hb:(g == f)=false:=beq_eq_false_iff_ne.mpr h
   simp only [List.lookup,hb,if_neg h]
 | (k,x)::r=>by
  have ih:=Qg f g v r
  rw [show yb f v ((k,x)::r)=(if k=f then (k,v)::r else (k,x)::yb f v r) from rfl]
  by_cases hk:k=f
  ·rw [if_pos hk]
   by_cases h:g=k
   ·have hb:(g == k)=true:=beq_iff_eq.mpr h
    simp only [List.lookup,hb,if_pos (h.trans hk)]
   ·have hb:(g == k)=false:=beq_eq_false_iff_ne.mpr h
    simp only [List.lookup,hb,if_neg (fun e:g=f=>h (e.trans hk.symm))]
  ·rw [if_neg hk]
   by_cases h:g=k
   ·have hb:(g == k)=true:=beq_iff_eq.mpr h
    simp only [List.lookup,hb,if_neg (fun e:g=f=>hk (h.symm.trans e))]
   ·have hb:(g == k)=false:=beq_eq_false_iff_ne.mpr h
    simp only [List.lookup,hb]
    exact ih
theorem Qw (f:Str) (v:V):∀ fs:List (Str×V),f∈(yb f v fs).map (·.1)∧∀ g,g∈fs.map (·.1)→g∈(yb f v fs).map (·.1)
 | []=>⟨by simp [yb],fun g h=>by simp at h⟩
 | (k,x)::r=>by
  obtain ⟨i1,i2⟩:=Qw f v r
  rw [show yb f v ((k,x)::r)=(if k=f then (k,v)::r else (k,x)::yb f v r) from rfl]
  by_cases hk:k=f
  ·rw [if_pos hk]
   subst hk
   exact ⟨by simp,fun g h=>by simpa using h⟩
  ·rw [if_neg hk]
   refine ⟨?_,fun g h=>?_⟩
   ·rw [List.map_cons]
    exact List.mem_cons_of_mem _ i1
   ·rw [List.map_cons] at h ⊢
    rcases List.mem_cons.mp h with e | e
    ·exact List.mem_cons.mpr (.inl e)
    ·exact List.mem_cons_of_mem _ (i2 g e)
theorem Qf (f:Str) (v:V):∀ fs:List (Str×V),(yb f v fs).length≤fs.length + 1
 | []=>by simp [yb]
 | (k,x)::r=>by
  have ih:=Qf f v r
  rw [show yb f v ((k,x)::r)=(if k=f then (k,v)::r else (k,x)::yb f v r) from rfl]
  by_cases hk:k=f
  ·rw [if_pos hk,List.length_cons,List.length_cons];omega
  ·rw [if_neg hk,List.length_cons,List.length_cons];omega
theorem Zt.some_of {v:V} {o:Option Value} (r:Zt (some v) o):∃ u,o=some u∧J3 v u:=by
 cases o with
 | none=>exact (show False from r).elim
 | some u=>exact ⟨u,rfl,r⟩
theorem cv {v:V} {u:Value} (r:J3 v u):PySem.W.handedIn u=true:=by
 cases v with
 | non=>cases (show u=Value.none from r);rfl
 | bl b=>cases (show u=Value.bool b from r);rfl
 | int i=>obtain ⟨t,e⟩:=(show ∃ t,u=Value.int i t from r);cases e;rfl
 | str x=>obtain ⟨t,e⟩:=(show ∃ t,u=Value.str x t from r);cases e;rfl
 | byt b=>obtain ⟨t,e⟩:=(show ∃ t,u=Value.bytes b t from r);cases e;rfl
 | flt b=>obtain ⟨t,e⟩:=(show ∃ t,u=Value.float b t from r);cases e;rfl
 | ref a=>cases (show u=Value.ref a from r);rfl
 | ty n=>cases (show u=Value.type n from r);rfl
section
variable {P:Program} {w:World} {H H':Hp} {h h':Heap} {a C dx:Addr} {fs fs':List (Str×V)}
theorem Eh (hok:HOk P w H h) (e:H a=some (.ins C dx fs)):∃ mA,ObjM h a dx C mA∧(∀ f,Zt (fs.lookup f) (mA f))∧PySem.Within mA (fs.map (·.1))∧fs.length≤1000∧H dx=some (.own a):=by
 obtain ⟨d,z,ne,ob,mA,n,r,q⟩:=(show ul P w H h a (.ins C dx fs) from hok a _ e)
 exact ⟨mA,⟨ob,n,ne⟩,r,q,z,d⟩
end
structure Cls (K:PySem.W.Frag) (C:Addr):Prop where
 pg:PySem.W.plainGet K C Str.empty=true
 hd:PySem.W.hasDictIn K C=true
 po:PySem.W.plainOver K C=true
 sa:PySem.W.findIn K (.ref C) "__setattr__"=some (some (.builtin "object.__setattr__"))
theorem Cls.get {K:PySem.W.Frag} {C:Addr} (c:Cls K C) (f:Str):PySem.W.plainGet K C f=true:=c.pg
noncomputable def Uy (K:PySem.W.Frag) (C:Addr) (f:Str):Prop:=PySem.W.findIn K (.ref C) f=some none
theorem Uy.taker {K:PySem.W.Frag} {C:Addr} {f:Str} (n:Uy K C f):PySem.W.takerIn K C f=some none:=by
 unfold PySem.W.takerIn
 rw [show PySem.W.findIn K (.ref C) f=some none from n]
 rfl
section
variable {X:Cx} {pins:List (Addr×Obj)} {σ:St} {H:Hp} {s:Shared} {a C dx:Addr} {fs:List (Str×V)} {f:Str} {v:V} {A:Around} {E:Value→Shared→Prop}
theorem wl {b:Bool} {Q:Value→Shared→Prop} (I:Inv X pins σ H s) (e:H a=some (.ins C dx fs)) (c:Cls X.K C) (n:Uy X.K C f) (l:fs.lookup f=some v)
  (h:∀ u s',Inv X pins σ H s'→J3 v u→Q u s'):wpAny (model X.prog X.w) A (getAttr (.ref a) f b) Q E s:=by
 obtain ⟨mA,O,r,_,_,_⟩:=Eh I.hok e
 obtain ⟨u,hu,ru⟩:=Zt.some_of (v:=v) (o:=mA f) (by rw [← l];exact r f)
 exact a38 I.kIn O (c.get f) c.hd n hu (cv ru) (h u _ (I.tok _) ru)
theorem Xn {y:V} {u:Value} {Q:Unit→Shared→Prop} (I:Inv X pins σ H s) (e:H a=some (.ins C dx fs)) (c:Cls X.K C) (n:Uy X.K C f) (hl:fs.length < 1000) (ry:J3 y u)
  (h:∀ s',Inv X pins σ (upd H a (.ins C dx (yb f y fs))) s'→Q () s'):wpAny (model X.prog X.w) A (setAttr (.ref a) f u) Q E s:=by
 obtain ⟨mA,O,r,wi,_,ho⟩:=Eh I.hok e
 have hz:(fs.map (·.1)).length≤sizeLine:=by rw [List.length_map,sizeLine_eq];omega
 refine Az I.kIn O c.sa c.po n.taker c.hd wi hz fun h' O' sb=>h _ ?_
 have hd:∃ o,h'.get? dx=some o:=let ⟨o,_,_,e',_⟩:=O'.ns;⟨o,e'⟩
 refine I.write (x:=a) (e:=dx) (by rw [e];exact True.intro) (.inr ho) (fun b q hb z=>(sb.2 b hb).trans z) hd ?_
 refine ⟨by rw [jw O.ne];exact ho,?_,O.ne,O'.obj,_,O'.ns,fun g=>?_,fun g hg=>?_⟩
 ·have:=Qf f y fs;omega
 ·show Zt ((yb f y fs).lookup g) (if g=f then some u else mA g)
  rw [Qg]
  by_cases q:g=f
  ·rw [if_pos q,if_pos q];exact ry
  ·rw [if_neg q,if_neg q];exact r g
 ·by_cases q:g=f
  ·rw [q];exact (Qw f y fs).1
  ·refine (Qw f y fs).2 g (wi g fun z=>hg ?_)
   show (if g=f then some u else mA g)=none
   rw [if_neg q];exact z
theorem Inv.made (I:Inv X pins σ H s):Inv X pins σ (upd (upd H s.heap.objs.size (.own (s.heap.objs.size + 1))) (s.heap.objs.size + 1) (.ins C s.heap.objs.size []))
  { s with heap:=(s.heap.push PySem.W.emptyDict).push (PySem.W.instObj C s.heap.objs.size)}:=by
 have e1:(s.heap.push PySem.W.emptyDict).get? s.heap.objs.size=some PySem.W.emptyDict:=Heap.get?_push_size s.heap rfl
 have e2:((s.heap.push PySem.W.emptyDict).push (PySem.W.instObj C s.heap.objs.size)).get? (s.heap.objs.size + 1)=some (PySem.W.instObj C s.heap.objs.size):=by
  have:=Heap.get?_push_size (s.heap.push PySem.W.emptyDict) (o:=PySem.W.instObj C s.heap.objs.size) rfl
  rwa [Heap.size_push] at this
 have e3:(s.heap.push PySem.W.emptyDict).Ns s.heap.objs.size (fun _=>none):=⟨PySem.W.emptyDict,#[],_,e1,rfl,(fun e he=>absurd he (by simp)),fun _=>rfl⟩
 have I1:=I.laid (a:=s.heap.objs.size) (o:=.own (s.heap.objs.size + 1)) (h':=s.heap.push PySem.W.emptyDict) (t':=s.toks) (fun b u q=>Heap.get?_push_of_some _ q) (Nat.le_refl _) ⟨_,e1⟩
 refine I1.laid (a:=s.heap.objs.size + 1) (o:=.ins C s.heap.objs.size []) (t':=s.toks) (fun b u q=>Heap.get?_push_of_some _ q) (Nat.le_of_eq (Heap.size_push _ _)) ?_
 have ne:s.heap.objs.size≠s.heap.objs.size + 1:=Nat.ne_of_lt (Nat.lt_succ_self _)
 refine ⟨by rw [jw ne,jt],Nat.zero_le _,ne,e2,fun _=>none,(Heap.Ns1.of_empty e3).at fun o q=>Heap.get?_push_of_some _ q,fun _=>True.intro,fun y hy=>absurd rfl hy⟩
theorem a55 {prog:Program} {w:World} {env:Env} {e:Expr} {f:Str} {pos:Pos} {s:Shared} {Q:Value→Shared→Prop} (hb:attributeBase e f env (eval e env)=eval e env)
  (h:wpAny (model prog w) A (eval e env) (fun o s₁=>wpAny (model prog w) A (getAttr o f true) Q E s₁) E s):wpAny (model prog w) A (eval (.Attribute e f pos) env) Q E s :=
 Attribute_any_ h (by rw [arm_eval_Attribute,hb])
end
noncomputable def tFld (K:PySem.W.Frag) (ta:TE) (f:Str):TE:=fun σ H Q=>ta σ H fun x H1=>∃ a C dx fs v,x=.ref a∧H1 a=some (.ins C dx fs)∧Cls K C∧Uy K C f∧fs.lookup f=some v∧Q v H1
noncomputable def sFld (K:PySem.W.Frag) (ta tv:TE) (f:Str):TS:=fun D σ H=>tv σ H fun y H1=>ta σ H1 fun x H2=>∃ a C dx fs,x=.ref a∧H2 a=some (.ins C dx fs)∧Cls K C∧Uy K C f∧fs.length < 1000 ∧
 D.nx σ (upd H2 a (.ins C dx (yb f y fs)))
noncomputable def as5 (X:Cx) (op:Operator) (rd:V→V→Hp→VK→Prop):Prop :=
 ∀ (pins:List (Addr×Obj)) (s:Shared) (σ:St) (H:Hp) (x y:V) (u v:Value) (Q:VK),Inv X pins σ H s→J3 x u→J3 y v→rd x y H Q→wpAny (model X.prog X.w) X.A (inplaceOp op u v) (EP X pins σ Q) X.xe s
noncomputable def Aw (K:PySem.W.Frag) (ta tv:TE) (rd:V→V→Hp→VK→Prop) (f:Str):TS:=fun D σ H=>ta σ H fun x H1=>∃ a C dx fs v,x=.ref a∧H1 a=some (.ins C dx fs)∧Cls K C∧Uy K C f∧fs.lookup f=some v ∧
 tv σ H1 fun y H2=>rd v y H2 fun z H3=>∃ dx' fs',H3 a=some (.ins C dx' fs')∧fs'.length < 1000∧D.nx σ (upd H3 a (.ins C dx' (yb f z fs')))
section
variable {X:Cx} {o e value:Expr} {f:Str} {pos pos' tpos:Pos} {ta tv:TE}
theorem ad4 (he:PE X e ta) (hb:attributeBase e f X.env (eval e X.env)=eval e X.env):PE X (.Attribute e f pos) (tFld X.K ta f):=by
 intro pins s σ H Q I h
 refine a55 hb (thn (he pins s σ H _ I h) fun u s1 ⟨x,H1,I1,rx,a,C,dx,fs,v,ex,ea,c,n,l,q⟩=>?_)
 subst ex
 obtain rfl:u=Value.ref a:=rx
 exact wl I1 ea c n l fun u' s2 I2 ru=>⟨v,H1,I2,ru,q⟩
theorem ac7 (ha:PE X o ta) (hv:PE X value tv) (hs:swapsWith value (some (.Attribute o f pos')) pos.line X.env=pure false):PS X (.Assign [.Attribute o f pos'] value pos) (sFld X.K ta tv f):=by
 intro pins s σ H D I h
 refine plainObj_wpAny_Assign_Attribute (thn (hv pins s σ H _ I h) fun u s1 ⟨y,H1,I1,ry,q⟩=>thn (ha pins s1 σ H1 _ I1 q) fun ov s2 ⟨x,H2,I2,rx,a,C,dx,fs,ex,ea,c,n,l,q2⟩=>?_) hs
 subst ex
 obtain rfl:ov=Value.ref a:=rx
 exact Xn I2 ea c n l ry fun s3 I3=>⟨σ,_,I3,q2⟩
theorem Dp {op:Operator} {rd:V→V→Hp→VK→Prop} (ha:PE X o ta) (hv:PE X value tv) (hop:as5 X op rd):PS X (.AugAssign (.Attribute o f tpos) op value pos) (Aw X.K ta tv rd f):=by
 intro pins s σ H D I h
 refine wpAny_AugAssign_AttributeAny (thn (ha pins s σ H _ I h) fun ov s1 ⟨x,H1,I1,rx,a,C,dx,fs,v,ex,ea,c,n,l,q⟩=>?_)
 subst ex
 obtain rfl:ov=Value.ref a:=rx
 refine wl I1 ea c n l fun u s2 I2 ru=>thn (hv pins s2 σ H1 _ I2 q) fun w3 s3 ⟨y,H2,I3,ry,q3⟩=>thn (hop pins s3 σ H2 v y u w3 _ I3 ru ry q3) fun w4 s4 ⟨z,H3,I4,rz,dx',fs',ea',l',q4⟩=>?_
 exact Xn I4 ea' c n l' rz fun s5 I5=>⟨σ,_,I5,q4⟩
noncomputable def rAdd:V→V→Hp→VK→Prop:=fun x y H Q=>∃ i j,x=.int i∧y=.int j∧Q (.int (i + j)) H
theorem ai0:as5 X .Add rAdd:=by
 rintro pins s σ H x y u v Q I rx ry ⟨i,j,rfl,rfl,q⟩
 obtain ⟨t,rfl⟩:=(show ∃ t,u=Value.int i t from rx)
 obtain ⟨t',rfl⟩:=(show ∃ t',v=Value.int j t' from ry)
 exact PyProof.Rows.iadd_int ⟨.int (i + j),H,I.tok _,⟨_,rfl⟩,q⟩
end
section
variable {X:Cx} {pins:List (Addr×Obj)} {σ:St} {H:Hp} {s:Shared} {A:Around} {E:Value→Shared→Prop} {Q:Value→Shared→Prop} {c:Value} {b:Bool}
end
end L2
namespace L2
open PySem PySem.Spec PyProof.Rows
structure Room (k:Nat) (A:Around):Prop where
 hd:A.handled=none
 dp:A.depth + 3 * k + 5 < recursionLimit
 un:A.units + 16 * k + 200 < cLine
theorem Room.mono {j k:Nat} {A:Around} (r:Room k A) (h:j≤k):Room j A:=⟨r.hd,by have:=r.dp;omega,by have:=r.un;omega⟩
theorem Room.deeper {k:Nat} {A:Around} (r:Room (k + 1) A) (env:Env):Room k (A.deeper env) :=
 ⟨r.hd,by have:=r.dp;show A.depth + 1 + 3 * k + 5 < _;omega,by have:=r.un;show A.units + 3 + 16 * k + 200 < _;omega⟩
theorem F0 {A:Around} {C:Addr} {us:List Value} {kw:List (Str×Value)}:(A.under (.builtin "type.__call__" ⟨.ref C::us,kw⟩)).depth=A.depth + 1:=by
 first | rfl | simp [Around.under,Code.weight,Code.isCreation,Code.isGuard,Code.isCaller,Code.frames,Code.isFrame,guardIds]
theorem fb {A:Around} {C:Addr} {us:List Value} {kw:List (Str×Value)}:(A.under (.builtin "type.__call__" ⟨.ref C::us,kw⟩)).units=A.units + 1:=by
 first | rfl | simp [Around.under,Code.cUnits,Code.frames,Code.isFrame]
theorem Room.make {k:Nat} {A:Around} (r:Room (k + 1) A) (C:Addr) (us:List Value) (kw:List (Str×Value)):Room k (A.under (.builtin "type.__call__" ⟨.ref C::us,kw⟩)) :=
 ⟨r.hd,by have:=r.dp;rw [F0];omega,by have:=r.un;rw [fb];omega⟩
theorem Room.depth {k:Nat} {A:Around} (r:Room k A):A.depth < recursionLimit:=by have:=r.dp;omega
noncomputable def al3:TA:=fun _ H Q=>Q [] H
noncomputable def am0 (ta:TE) (tr:TA):TA:=fun σ H Q=>ta σ H fun x H1=>tr σ H1 fun xs H2=>Q (x::xs) H2
section
variable {X:Cx} {e:Expr} {es:List Expr} {te:TE} {t:TA} {pos:Pos}
theorem fo:PA X [] al3:=fun _ _ _ _ H Q I h=>Calls.spliced_nil ⟨[],H,I,.nil,h⟩
theorem xm (ha:PE X e te) (hr:PA X es t) (hs:starEach (e::es) X.env=(false,eval e X.env)::starEach es X.env:=by rfl):PA X (e::es) (am0 te t):=by
 intro pos pins s σ H Q I h
 rw [hs]
 show wpAny _ _ (spliced ((false,eval e X.env)::backTo pos (starEach es X.env))) _ _ s
 refine Calls.spliced_cons (thn (ha pins s σ H _ I h) fun u s1 ⟨x,H1,I1,r1,q1⟩=>?_)
 exact thn (hr pos pins s1 σ H1 _ I1 q1) fun us s2 ⟨xs,H2,I2,r2,q2⟩=>⟨x::xs,H2,I2,.cons r1 r2,q2⟩
noncomputable def tTup (t:TA):TE:=fun σ H Q=>t σ H fun xs H1=>xs.length≤sizeLine∧∀ p,H1 p=none→Q (.ref p) (upd H1 p (.tup xs))
noncomputable def tLst (t:TA):TE:=fun σ H Q=>t σ H fun xs H1=>xs.length≤sizeLine∧∀ p,H1 p=none→Q (.ref p) (upd H1 p (.lst xs))
theorem ac9 {x1} (h:PA X es t):PE X (.Tuple es x1 pos) (tTup t):=by
 intro pins s σ H Q I hq
 refine wpAny_Tuple_spliced (thn (h pos pins s σ H _ I hq) fun us s1 ⟨xs,H1,I1,r,z,q⟩=>⟨by rw [← r.length];exact z,?_⟩)
 have hf:H1 s1.heap.objs.size=none:=I1.hok.fresh (Nat.le_refl _)
 refine ⟨.ref s1.heap.objs.size,upd H1 s1.heap.objs.size (.tup xs),I1.laid (t':=s1.toks) (fun b u e=>Heap.get?_push_of_some _ e) (Nat.le_refl _) ?_,rfl,q _ hf⟩
 exact ⟨z,us,r,⟨_,Heap.get?_push_size _ rfl,rfl,_,rfl⟩⟩
theorem bf (h:PA X es t):PE X (.List es pos) (tLst t):=by
 intro pins s σ H Q I hq
 refine wpAny_List_spliced (thn (h pos pins s σ H _ I hq) fun us s1 ⟨xs,H1,I1,r,z,q⟩=>⟨by rw [← r.length];exact z,?_⟩)
 have hf:H1 s1.heap.objs.size=none:=I1.hok.fresh (Nat.le_refl _)
 refine ⟨.ref s1.heap.objs.size,upd H1 s1.heap.objs.size (.lst xs),I1.laid (t':=s1.toks) (fun b u e=>Heap.get?_push_of_some _ e) (Nat.le_refl _) ?_,rfl,q _ hf⟩
 exact ⟨z,us,0,r,Heap.get?_push_size _ rfl⟩
end
noncomputable abbrev Sp:=List V→Hp→VK→XK→Prop
noncomputable abbrev CXT:=List Env→Hp→Shared→XK→Value→Shared→Prop
structure Env0 (P:Program) (w:World) (K:PySem.W.Frag) (mg:Str→Option Value) (base:Heap) (A:Around) (outer:List Env) (s:Shared) (H:Hp):Prop where
 frames:A.frames=some outer
 mod:Mod K mg base
 bs:∀ b o,base.get? b=some o→s.heap.get? b=some o∧H b=none
 bsz:base.objs.size≤s.heap.objs.size
 funs:s.heap.FunFrames base outer
 frf:∀ b∈frs outer,H b=none
 hok:HOk P w H s.heap
 bare:AllBare s.gens
noncomputable def CE (outer:List Env) (P:Program) (w:World) (H:Hp) (s:Shared) (Q:VK) (u:Value) (s':Shared):Prop :=
 ∃ v H',s'.os=s.os∧AllBare s'.gens∧Un (frs outer) [] H H' s.heap s'.heap∧HOk P w H' s'.heap∧J3 v u∧Q v H'
noncomputable def CR (CX:CXT) (outer:List Env) (P:Program) (w:World) (H:Hp) (s:Shared) (Q:VK) (E:XK) (r:Result) (s':Shared):Prop :=
 match r with
 | .ok (.ret u)=>CE outer P w H s Q u s'
 | .ok _=>False
 | .error e=>CX outer H s E e s'
structure FnOk (P:Program) (w:World) (K:PySem.W.Frag) (mg:Str→Option Value) (base:Heap) (CX:CXT) (k:Nat) (f:Addr) (fd:FuncData) (ps:List Str) (sp:Sp):Prop where
 len:∀ vs H Q E,sp vs H Q E→vs.length=ps.length
 run:∀ (A:Around) (outer:List Env) (s:Shared) (H:Hp) (args:Args) (us:List Value) (vs:List V) (Q:VK) (E:XK),Room k A→Env0 P w K mg base A outer s H→BindsTo s fd args (ps.zip us)→J7 vs us→sp vs H Q E →
  codeAny (model P w) A (.call (.ref f) args) (CR CX outer P w H s Q E) s
theorem Env0.make {P:Program} {w:World} {K:PySem.W.Frag} {mg:Str→Option Value} {base:Heap} {A:Around} {outer:List Env} {s:Shared} {H:Hp} (e:Env0 P w K mg base A outer s H) (C:Addr) (us:List Value) (kw:List (Str×Value)) :
  Env0 P w K mg base (A.under (.builtin "type.__call__" ⟨.ref C::us,kw⟩)) outer s H:=⟨by first | exact e.frames | (simpa [Around.under,Code.envs,Code.isFrame,pushEnvs] using e.frames),e.mod,e.bs,e.bsz,e.funs,e.frf,e.hok,e.bare⟩
section
variable {X:Cx} {pins:List (Addr×Obj)} {σ:St} {H:Hp} {s s':Shared}
theorem Inv.env0 (I:Inv X pins σ H s):Env0 X.prog X.w X.K X.mg X.base X.A X.stack s H :=
 ⟨I.ok.frames,I.ok.mod,I.bs,Nat.le_trans I.ok.bsz I.sz,I.stack,I.stkFree,I.hok,I.bare⟩
theorem Inv.after {Q:VK} {u:Value} (I:Inv X pins σ H s) (h:CE X.stack X.prog X.w H s Q u s'):EP X pins σ Q u s':=by
 obtain ⟨v,H',os,bare,un,hok,r,q⟩:=h
 obtain ⟨hh,g,d,t,os'⟩:=s'
 obtain rfl:os'=s.os:=os
 exact ⟨v,H',I.call (h':=hh) (g':=g) (d':=d) (t':=t) (ch:=[]) un hok bare (fun b z=>absurd z (by simp)),r,q⟩
end
noncomputable def am1 (sp:Sp) (dvs:List V) (E:XK) (t:TA):TE:=fun σ H Q=>t σ H fun vs H1=>sp (vs++dvs) H1 Q E
noncomputable def al5 (C:Addr) (sp:Sp) (dvs:List V) (E:XK) (t:TA):TE:=fun σ H Q=>t σ H fun vs H1=>∀ x dx,H1 x=none→H1 dx=none→dx≠x →
 sp (.ref x::(vs++dvs)) (upd (upd H1 dx (.own x)) x (.ins C dx [])) (fun v H2=>v=.non∧Q (.ref x) H2) E
noncomputable def xz (K:PySem.W.Frag) (fd:FuncData) (ps:List Str) (ds:List Value):Prop :=
 ∀ (s:Shared) (us:List Value),K.In s.heap→(us++ds).length=ps.length→BindsTo s fd ⟨us,[]⟩ (ps.zip (us++ds))
theorem xz.all {K:PySem.W.Frag} {fd:FuncData} {ps:List Str} (h:∀ us:List Value,us.length=ps.length→bindArgs fd ⟨us,[]⟩=pure (ps.zip us)):xz K fd ps []:=fun s us _ hl=>by
 rw [List.append_nil] at hl ⊢
 exact .of_eq (h us hl)
noncomputable def yu (CX:CXT) (X:Cx) (E:XK):Prop:=∀ (pins:List (Addr×Obj)) (σ:St) (H:Hp) (s:Shared) (e:Value) (s':Shared),Inv X pins σ H s→CX X.stack H s E e s'→X.xe e s'
section
variable {X:Cx} {CX:CXT} {k:Nat} {f C:Addr} {fd:FuncData} {ps:List Str} {sp:Sp} {dvs:List V} {ds:List Value} {E:XK} {x m:Str} {p pos apos:Pos} {e o:Expr} {es:List Expr} {ta:TE} {t:TA}
theorem ab5 {pins:List (Addr×Obj)} {σ:St} {H:Hp} {s:Shared} {Q:VK} {us:List Value} {vs:List V} (F:FnOk X.prog X.w X.K X.mg X.base CX k f fd ps sp) (hr:Room k X.A) (hb:xz X.K fd ps ds) (hd:J7 dvs ds) (hx:yu CX X E)
  (I:Inv X pins σ H s) (r:J7 vs us) (h:sp (vs++dvs) H Q E):wpAny (model X.prog X.w) X.A (call (.ref f) us) (EP X pins σ Q) X.xe s:=by
 have r2:J7 (vs++dvs) (us++ds):=r.append hd
 have hl:(us++ds).length=ps.length:=by rw [← r2.length];exact F.len _ _ _ _ h
 refine wpAny_call (codeAny_mono (F.run X.A X.stack s H ⟨us,[]⟩ (us++ds) (vs++dvs) Q E hr I.env0 (hb s us I.kIn hl) r2 h) fun r s' hq=>?_)
 cases r with
 | error e=>exact hx pins σ H s e s' I hq
 | ok fl =>
  cases fl with
  | ret u=>exact I.after hq
  | next=>exact False.elim hq
  | brk=>exact False.elim hq
  | cont=>exact False.elim hq
theorem E5 (F:FnOk X.prog X.w X.K X.mg X.base CX k f fd ps sp) (hr:Room k X.A) (hg:Gl X x) (hm:X.mg x=some (.ref f)) (hk:PySem.W.keepIn X.K (.ref f)=true) (hb:xz X.K fd ps ds) (hd:J7 dvs ds) (hx:yu CX X E)
  (ha:PA X (e::es) t) (hdb:(x == ("__debug__":Str))=false:=by decide) (he:starEach (e::es) X.env=(false,eval e X.env)::starEach es X.env:=by rfl) (hpl:(backTo pos (starEach es X.env)).any (·.1)=false:=by rfl) :
  PE X (.Call (.Name x p) (e::es) [] pos) (am1 sp dvs E t):=by
 intro pins s σ H Q I h
 refine wpAny_Call_Name_kw (zq I hg hm ?_ hdb)
 refine PySem.W.callWith_K (h₀:=X.base) I.ok.mod.kin hk (thn (ha pos pins s σ H _ I h) fun us s1 ⟨vs,H1,I1,r,q⟩=>⟨I1.kIn,?_⟩) he hpl
 exact ab5 F hr hb hd hx I1 r q
structure Mk (K:PySem.W.Frag) (C f:Addr):Prop where
 makes:PySem.W.makesIn K C=true
 init:PySem.W.findIn K (.ref C) "__init__"=some (some (.ref f))
 fn:PySem.W.isFn K (.ref f)=true
 kp:PySem.W.keepIn K (.ref C)=true
theorem b7 {pins:List (Addr×Obj)} {σ:St} {H:Hp} {s:Shared} {Q:VK} {us:List Value} {vs:List V} (M:Mk X.K C f) (F:FnOk X.prog X.w X.K X.mg X.base CX k f fd ps sp) (hr:Room (k + 1) X.A) (hb:xz X.K fd ps ds) (hd:J7 dvs ds)
  (hx:yu CX X E) (I:Inv X pins σ H s) (r:J7 vs us)
  (h:∀ x dx,H x=none→H dx=none→dx≠x→sp (.ref x::(vs++dvs)) (upd (upd H dx (.own x)) x (.ins C dx [])) (fun v H2=>v=.non∧Q (.ref x) H2) E) :
  wpAny (model X.prog X.w) X.A (call (.ref C) us) (EP X pins σ Q) X.xe s:=by
 have hq:=h (s.heap.objs.size + 1) s.heap.objs.size (I.hok.fresh (Nat.le_succ _)) (I.hok.fresh (Nat.le_refl _)) (Nat.ne_of_lt (Nat.lt_succ_self _))
 have I2:=Inv.made (C:=C) I
 have r2:J7 (V.ref (s.heap.objs.size + 1)::(vs++dvs)) (Value.ref (s.heap.objs.size + 1)::(us++ds)):=.cons rfl (r.append hd)
 have hl:(Value.ref (s.heap.objs.size + 1)::us++ds).length=ps.length:=by
  have e:=r2.length
  rw [F.len _ _ _ _ hq] at e
  exact e.symm
 refine wpAny_call (Bh (f:=f) I.kIn M.makes M.init (beq_iff_eq.mp M.fn) (codeAny_mono (F.run _ X.stack _ _ ⟨Value.ref (s.heap.objs.size + 1)::us,[]⟩ (Value.ref (s.heap.objs.size + 1)::(us++ds)) _ _ E (hr.make C us [])
  (I2.env0.make C us []) (hb _ (Value.ref (s.heap.objs.size + 1)::us) I2.kIn hl) r2 hq) fun r s' hq'=>?_))
 cases r with
 | error e=>exact hx pins σ _ _ e s' I2 hq'
 | ok fl =>
  cases fl with
  | ret u =>
   obtain ⟨v,H',I3,rv,ev,q3⟩:=I2.after hq'
   subst ev
   exact ⟨rv,⟨V.ref (s.heap.objs.size + 1),H',I3,rfl,q3⟩⟩
  | next=>exact False.elim hq'
  | brk=>exact False.elim hq'
  | cont=>exact False.elim hq'
theorem bg (M:Mk X.K C f) (F:FnOk X.prog X.w X.K X.mg X.base CX k f fd ps sp) (hr:Room (k + 1) X.A) (hg:Gl X x) (hm:X.mg x=some (.ref C)) (hb:xz X.K fd ps ds) (hd:J7 dvs ds) (hx:yu CX X E)
  (hdb:(x == ("__debug__":Str))=false:=by decide):PE X (.Call (.Name x p) [] [] pos) (al5 C sp dvs E al3):=by
 intro pins s σ H Q I h
 refine wpAny_Call_Name_kw (zq I hg hm ?_ hdb)
 exact PySem.W.callWith_K0 I.kIn M.kp (b7 (us:=[]) M F hr hb hd hx I .nil h)
end
section
variable {X:Cx} {CX:CXT} {k:Nat} {f C:Addr} {fd:FuncData} {ps ks:List Str} {sp:Sp} {E:XK} {x m:Str} {p pos apos kpos:Pos} {e o:Expr} {es:List Expr} {kws:List Keyword} {te ta:TE} {t tk:TA} {nm:Option Str}
variable {g:List Value→List Value→List Value} {gV:List V→List V→List V}
end
structure FnScope (N P:List Str) (sc:Scope):Prop where
 kind:sc.kind=.function
 co:sc.isCoroutine=false
 gen:sc.isGenerator=false
 nd:N.Nodup
 pre:N.take P.length=P
 par:∀ x∈P,sc.names.lookup x=some .local∨sc.names.lookup x=some .cell
 nofree:∀ y∈sc.names,y.2≠.free
theorem V0 {kindOf:Str→Option NameKind} {x:Str}:∀ {binds:List (Str×Value)} {m:Str→Option Value},(∀ v,(x,v)∉binds)→bindL kindOf binds m x=m x
 | [],_,_=>rfl
 | (n,v)::r,m,h=>by
  unfold bindL
  rw [V0 fun w hw=>h w (List.mem_cons_of_mem _ hw)]
  split
  ·have:x≠n:=by rintro rfl;exact h v List.mem_cons_self
   simp [this]
  ·rfl
theorem V2 {kindOf:Str→Option NameKind} {x:Str}:∀ {binds:List (Str×Value)} {m:Str→Option Value},(∀ v,(x,v)∉binds)→bindC kindOf binds m x=m x
 | [],_,_=>rfl
 | (n,v)::r,m,h=>by
  unfold bindC
  rw [V2 fun w hw=>h w (List.mem_cons_of_mem _ hw)]
  split
  ·rfl
  ·have:x≠n:=by rintro rfl;exact h v List.mem_cons_self
   simp [this]
theorem V1 {kindOf:Str→Option NameKind} {x:Str} {v:Value}:∀ {P:List Str} {vs:List Value} {i:Nat} {m:Str→Option Value},P.Nodup→P[i]? =some x→vs[i]? =some v→kindOf x=some .local →
  bindL kindOf (P.zip vs) m x=some v
 | [],_,_,_,_,h,_,_=>by simp at h
 | _::_,[],_,_,_,_,h,_=>by simp at h
 | p::P,w::vs,0,m,nd,h1,h2,hk=>by
  simp at h1 h2;subst h1;subst h2
  show bindL kindOf ((p,w)::P.zip vs) m p=_
  unfold bindL
  rw [V0 fun v hv=>(List.nodup_cons.mp nd).1 (List.of_mem_zip hv).1,if_pos hk]
  simp
 | p::P,w::vs,i + 1,m,nd,h1,h2,hk=>by
  show bindL kindOf ((p,w)::P.zip vs) m x=_
  unfold bindL
  exact V1 (i:=i) (List.nodup_cons.mp nd).2 (by simpa using h1) (by simpa using h2) hk
theorem V3 {kindOf:Str→Option NameKind} {x:Str} {v:Value}:∀ {P:List Str} {vs:List Value} {i:Nat} {m:Str→Option Value},P.Nodup→P[i]? =some x→vs[i]? =some v→kindOf x≠some .local →
  bindC kindOf (P.zip vs) m x=some v
 | [],_,_,_,_,h,_,_=>by simp at h
 | _::_,[],_,_,_,_,h,_=>by simp at h
 | p::P,w::vs,0,m,nd,h1,h2,hk=>by
  simp at h1 h2;subst h1;subst h2
  show bindC kindOf ((p,w)::P.zip vs) m p=_
  unfold bindC
  rw [V2 fun v hv=>(List.nodup_cons.mp nd).1 (List.of_mem_zip hv).1,if_neg hk]
  simp
 | p::P,w::vs,i + 1,m,nd,h1,h2,hk=>by
  show bindC kindOf ((p,w)::P.zip vs) m x=_
  unfold bindC
  exact V3 (i:=i) (List.nodup_cons.mp nd).2 (by simpa using h1) (by simpa using h2) hk
noncomputable def start (N:List Str) (vs:List V):St:=vs.map some++List.replicate (N.length - vs.length) none
noncomputable def ub (CX:CXT) (P:Program) (w:World) (K:PySem.W.Frag) (mg:Str→Option Value) (base:Heap) (N:List Str) (qual:Str) (scope:Scope) (f:Addr) (cd:Value) (A:Around) (outer:List Env) (s:Shared) (H:Hp) (E:XK):Cx where
 prog:=P
 w:=w
 K:=K
 mg:=mg
 base:=base
 A:=A.deeper (envOfC qual scope s.heap.objs.size f cd)
 N:=N
 s₀:=s
 H₀:=H
 env:=envOfC qual scope s.heap.objs.size f cd
 outer:=outer
 stack:=envOfC qual scope s.heap.objs.size f cd::outer
 ex:=[]
 calm:=true
 fn:=fun _=>true
 pn:=[]
 xe:=fun e s'=>wpAny (model P w) (A.deeper (envOfC qual scope s.heap.objs.size f cd)) (leaving (envOfC qual scope s.heap.objs.size f cd) e) (fun _ s''=>CX outer H s E e s'') (fun e' s''=>CX outer H s E e' s'') s'
theorem Gp {sc:Scope} {n:Nat} {x:Str} (h:sc.names.lookup x=some .cell):∃ c,(cellsFrom n sc.names []).lookup x=some c:=by
 have q:=PySem.W.cellsFrom_some sc.names n [] (.inl h)
 exact Option.isSome_iff_exists.mp q
theorem c9 {CX:CXT} {P:Program} {w:World} {K:PySem.W.Frag} {mg:Str→Option Value} {base:Heap} {N ps:List Str} {qual:Str} {scope:Scope} {f:Addr} {cd:Value} {A:Around} {outer:List Env} {s s1:Shared} {H:Hp} {E:XK} {us:List Value} {vs:List V}
  (S:FnScope N ps scope) (hd:A.handled=none) (e0:Env0 P w K mg base A outer s H) (hl:vs.length=ps.length) (r:J7 vs us)
  (x:InCallC s s.heap.objs.size (bindL (envOfC qual scope s.heap.objs.size f cd).kindOf (ps.zip us) fun _=>none) (cellsFrom (s.heap.objs.size + 1) scope.names []) (bindC (envOfC qual scope s.heap.objs.size f cd).kindOf (ps.zip us) fun _=>none) s1) :
  Inv (ub CX P w K mg base N qual scope f cd A outer s H E) [] (start N vs) H s1:=by
 have hpl:ps.length≤N.length:=by have:=congrArg List.length S.pre;rw [List.length_take] at this;omega
 obtain ⟨h1,tk,rfl,hk⟩:=x.done
 have noA:∀ b:Addr,b∉(ub CX P w K mg base N qual scope f cd A outer s H E).ex:=fun b z=>absurd (show b∈([]:List Addr) from z) (by simp)
 refine ⟨⟨e0.mod,S.kind,rfl,rfl,Nat.le_refl _,fun y z c h1 h2=>?_,fun y hy=>?_,fun y c _ h=>?_,fun _=>hd,Around.frames_deeper e0.frames,.inr ⟨rfl,rfl⟩,fun b z=>absurd z (noA b),e0.bs,e0.bsz,fun b _ _=>noA b,fun b z=>absurd z (noA b),e0.funs,e0.frf⟩,
  rfl,e0.bare,Un.kept hk,⟨_,x.toInCall.ns,fun i y v h1 h2 h3=>?_⟩,fun y c h=>⟨_,x.cell y c h⟩,e0.hok.fresh (Nat.le_refl _),fun y c h=>?_,fun p hp=>absurd (show p∈([]:List (Addr×Obj)) from hp) (by simp),e0.hok.kept hk,?_,fun _ e=>by cases (show (none:Option (Str→Option Value))=some _ from e)⟩
 ·exact name_of_addr x.apart (PySem.mem_of_lookup h1) (PySem.mem_of_lookup h2)
 ·have hy:scope.names.lookup y=some .cell∨scope.names.lookup y=some .free:=hy
  rcases hy with hy | hy
  ·exact Gp hy
  ·exact absurd rfl (S.nofree _ (PySem.mem_of_lookup hy))
 ·exact Nat.le_of_lt (x.above y c (PySem.mem_of_lookup h))
 ·have hi:i < vs.length:=by
   unfold start at h2
   by_cases hi:i < vs.length
   ·exact hi
   ·rw [List.getElem?_append_right (by simpa using hi)] at h2
    rw [List.getElem?_replicate] at h2
    split at h2 <;> cases h2
  have ha:vs[i]? =some v:=by
   unfold start at h2
   rw [List.getElem?_append_left (by simpa using hi),List.getElem?_map] at h2
   cases e:vs[i]? with
   | none=>rw [e] at h2;cases h2
   | some a=>rw [e] at h2;cases h2;rfl
  obtain ⟨u,hu,rv⟩:=r.get ha
  have hp:ps[i]? =some y:=by
   rw [← S.pre,List.getElem?_take_of_lt (by omega)];exact h1
  have ndP:ps.Nodup:=by rw [← S.pre];exact S.nd.sublist (List.take_sublist _ _)
  refine ⟨u,rv,?_⟩
  rcases S.par y (List.mem_of_getElem? hp) with k | k
  ·exact .inl ⟨k,V1 ndP hp hu k⟩
  ·obtain ⟨c,e⟩:=Gp (n:=s.heap.objs.size + 1) k
   refine .inr ⟨.inl k,c,e,?_⟩
   have q:=x.cell y c e
   rw [V3 ndP hp hu (by show scope.names.lookup y≠_;rw [k];decide)] at q
   exact q
 ·exact e0.hok.fresh (Nat.le_of_lt (x.above y c (PySem.mem_of_lookup h)))
 ·unfold start
  show _=N.length
  rw [List.length_append,List.length_map,List.length_replicate]
  omega
theorem a83 {CX:CXT} {P:Program} {w:World} {K:PySem.W.Frag} {mg:Str→Option Value} {base:Heap} {k:Nat} {f:Addr} {name qual:Str} {params:Arguments} {body:List Stmt} {scope:Scope} {dV kV doc pm cdv ct oc:Value} {an od:Option Addr}
  {osl:Array (Option Value)} {N ps:List Str} {sp:Sp} (lk:K.lookup f=some ⟨oc,od,.func (PySem.W.fnOf name qual params body scope dV kV doc pm an cdv ct),osl⟩) (hcd:PySem.W.codeIn K cdv qual=true) (S:FnScope N ps scope)
  (len:∀ vs H Q E,sp vs H Q E→vs.length=ps.length)
  (hbody:∀ (A:Around) (outer:List Env) (s:Shared) (H:Hp) (vs:List V) (Q:VK) (E:XK),Room k (A.deeper (envOfC qual scope s.heap.objs.size f cdv))→sp vs H Q E →
   ∃ t,PSs (ub CX P w K mg base N qual scope f cdv A outer s H E) body t∧t { nx:=fun _ H'=>Q .non H',rt:=Q} (start N vs) H) :
  FnOk P w K mg base CX (k + 1) f (PySem.W.fnOf name qual params body scope dV kV doc pm an cdv ct) ps sp:=by
 refine ⟨len,fun A outer s H args us vs Q E hr e0 hb r hsp=>?_⟩
 have hl:=len _ _ _ _ hsp
 have KX:K.In s.heap:=e0.mod.kin.keeps fun b o e=>(e0.bs b o e).1
 have lim:s.heap.NoLimit:=e0.mod.nolimit.keeps fun b o e=>(e0.bs b o e).1
 have hkind:∀ y∈ps.zip us,scope.names.lookup y.1=some .local∨(scope.names.lookup y.1=some .cell∧((cellsFrom (s.heap.objs.size + 1) scope.names []).lookup y.1).isSome=true):=fun ⟨n,v⟩ hy=>by
  rcases S.par n (List.of_mem_zip hy).1 with q | q
  ·exact .inl q
  ·exact .inr ⟨q,PySem.W.cellsFrom_some _ _ _ (.inl q)⟩
 refine codeAny_call_function hr.depth (KX _ _ lk) rfl S.co S.gen rfl (PySem.W.codeRec_of KX hcd) (hb _ _ _ _ ?_)
 refine wpAny_newFunctionEnv_cells S.kind hkind fun env he s1 x=>?_
 subst he
 refine ⟨lim.keeps x.toInCall.keep,codeAny_func ?_⟩
 obtain ⟨t,ht,hq⟩:=hbody A outer s H vs Q E (hr.deeper _) hsp
 have I:Inv (ub CX P w K mg base N qual scope f cdv A outer s H E) [] (start N vs) H s1:=c9 S hr.hd e0 hl r x
 refine wpAny_mono (ht [] s1 (start N vs) H _ I hq) (fun fl s' hs=>?_) fun e s' hs=>hs
 have fin:∀ {σ':St} {H':Hp} {v:V} {u:Value},Inv (ub CX P w K mg base N qual scope f cdv A outer s H E) [] σ' H' s'→J3 v u→Q v H'→CE outer P w H s Q u s' :=
  fun {σ' H' v u} J rv q=>⟨v,H',J.os,J.bare,J.base,J.hok,rv,q⟩
 cases fl with
 | ret u =>
  obtain ⟨v,σ',H',J,rv,q⟩:=hs
  exact fin J rv q
 | next =>
  obtain ⟨σ',H',J,q⟩:=hs
  exact fin (v:=V.non) (u:=Value.none) J rfl q
 | brk =>
  obtain ⟨_,_,_,q⟩:=hs
  exact False.elim q
 | cont =>
  obtain ⟨_,_,_,q⟩:=hs
  exact False.elim q
end L2
namespace L2
open PySem PySem.Spec PyProof.Rows
section
variable {X:Cx} {x:Str} {p pos:Pos} {e:Expr} {es:List Expr} {t:TA} {id T:String} {r:List V→Hp→VK→Prop}
noncomputable def tCB (r:List V→Hp→VK→Prop) (t:TA):TE:=fun σ H Q=>t σ H fun vs H1=>r vs H1 Q
theorem g9 (hc:qd X (.builtin id) r) (hg:Gl X x) (hm:X.mg x=none) (hv:bootBuiltins x=some (.builtin id)) (ha:PA X (e::es) t) (hn:x≠"__name__":=by decide) (hdb:(x == ("__debug__":Str))=false:=by decide)
  (he:starEach (e::es) X.env=(false,eval e X.env)::starEach es X.env:=by rfl) (hpl:(backTo pos (starEach es X.env)).any (·.1)=false:=by rfl):PE X (.Call (.Name x p) (e::es) [] pos) (tCB r t):=by
 intro pins s σ H Q I h
 refine wpAny_Call_Name_kw (Qx I hg hm hv ?_ hn hdb)
 exact PyProof.Rows.callWith_builtin1 (thn (ha pos pins s σ H _ I h) fun us s1 ⟨vs,H1,I1,r1,q1⟩=>hc pins s1 σ H1 vs us Q I1 r1 q1) he hpl
theorem Dl (hc:qd X (.type T) r) (hg:Gl X x) (hm:X.mg x=none) (hv:bootBuiltins x=some (.type T)) (ha:PA X (e::es) t) (hn:x≠"__name__":=by decide) (hdb:(x == ("__debug__":Str))=false:=by decide)
  (he:starEach (e::es) X.env=(false,eval e X.env)::starEach es X.env:=by rfl) (hpl:(backTo pos (starEach es X.env)).any (·.1)=false:=by rfl):PE X (.Call (.Name x p) (e::es) [] pos) (tCB r t):=by
 intro pins s σ H Q I h
 refine wpAny_Call_Name_kw (Qx I hg hm hv ?_ hn hdb)
 exact PyProof.Rows.callWith_type1 (thn (ha pos pins s σ H _ I h) fun us s1 ⟨vs,H1,I1,r1,q1⟩=>hc pins s1 σ H1 vs us Q I1 r1 q1) he hpl
end
end L2
namespace HT
open PySem PyProof.Rows
section
open PySem.SeqAt
open PySem.AutoSeq1 (wpAny_loadPart')
open PySem.MeetsSeq PySem.MeetsSeq2 PySem.MeetsSeq3
end
section
variable {prog:Program} {w:World} {A:Around} {E:Value→Shared→Prop} {s:Shared}
theorem cat_tup {t b:Addr} {vs ws:List Value} {Q:Value→Shared→Prop} (ht:IsTup s.heap t vs.toArray) (hb:IsTup s.heap b ws.toArray) (hv:vs≠[])
  (h1:ws=[]→Q (.ref t) s) (h2:ws≠[]→Q (.ref s.heap.objs.size) { s with heap:=s.heap.push { cls:=.type "tuple",data:=.seq (vs++ws).toArray}})
  (hsz:vs.length + ws.length≤sizeLine):wpAny (model prog w) A (binaryOp .Add (.ref t) (.ref b)) Q E s:=by
 obtain ⟨⟨cls,dd,data,sl⟩,ho,hc,n,hd⟩:=id ht
 obtain ⟨⟨cls2,dd2,data2,sl2⟩,ho2,hc2,n2,hd2⟩:=id hb
 simp only at hc hd hc2 hd2
 subst hc hd hc2 hd2
 have e:vs.toArray++ws.toArray=(vs++ws).toArray:=by simp
 by_cases hw:ws=[]
 ·exact concat_meets ⟨_,ho,rfl⟩ ⟨_,ho2,rfl⟩ noFill_tuple_add seq_tuple_add PySem.F.slot_tuple_add PySem.F.entry_tuple_add (PySem.F.args_tuple_add_2 _ _)
   (tuple_addW1 t b vs.toArray ws.toArray n n2 dd dd2 sl sl2 (by simpa using hv) (by simp [hw])) ⟨ho,ho2,h1 hw⟩
 ·refine concat_meets ⟨_,ho,rfl⟩ ⟨_,ho2,rfl⟩ noFill_tuple_add seq_tuple_add PySem.F.slot_tuple_add PySem.F.entry_tuple_add (PySem.F.args_tuple_add_2 _ _)
   (tuple_addW2 t b vs.toArray ws.toArray n n2 dd dd2 sl sl2 (by simpa using hv) (by simpa using hw) (by rw [List.size_toArray,List.size_toArray];exact hsz)) ⟨ho,ho2,?_⟩
  rw [e]
  exact h2 hw
noncomputable def sIx (n d:Nat):Option Int→Nat
 | none=>d
 | some v=>if v < 0 then (v + (n:Int)).toNat else min v.toNat n
theorem sIx_nat (n d k:Nat):sIx n d (some (k:Int))=min k n:=by
 show (if (k:Int) < 0 then ((k:Int) + (n:Int)).toNat else min (k:Int).toNat n)=min k n
 rw [if_neg (by omega),Int.toNat_natCast]
theorem ab3 (n d:Nat) (hd:d≤n) (o:Option Int):sIx n d o≤n:=by
 cases o with
 | none=>exact hd
 | some v =>
  show (if v < 0 then (v + (n:Int)).toNat else min v.toNat n)≤n
  by_cases hv:v < 0
  ·rw [if_pos hv];omega
  ·rw [if_neg hv];exact Nat.min_le_right _ _
theorem de (v:Int) (n d:Nat):(if v < 0 then max (v + (n:Int)) 0 else min v (n:Int))=((sIx n d (some v):Nat):Int):=by
 show (if v < 0 then max (v + (n:Int)) 0 else min v (n:Int))=(((if v < 0 then (v + (n:Int)).toNat else min v.toNat n):Nat):Int)
 by_cases hv:v < 0
 ·simp only [if_pos hv];omega
 ·simp only [if_neg hv];omega
theorem Fl (lo hi:Option Int) (n:Nat):Builtin.Slice.sliceAdjust lo hi 1 (n:Int)=(((sIx n 0 lo:Nat):Int),((sIx n n hi:Nat):Int)):=by
 have h1:¬ ((1:Int) < 0):=by omega
 unfold Builtin.Slice.sliceAdjust
 simp only [h1,if_false]
 refine Prod.ext ?_ ?_
 ·cases lo with
  | none=>rfl
  | some v=>exact de v n 0
 ·cases hi with
  | none=>rfl
  | some v=>exact de v n n
theorem fq (i j:Nat):Builtin.Slice.slicePlaces (i:Int) (j:Int) 1=j - i:=by
 unfold Builtin.Slice.slicePlaces
 have h1:(1:Int) > 0:=by omega
 simp only [h1,if_true,Int.ediv_one]
 split <;> omega
theorem Xo {v:Value} {o:Option Int} {Q:Option Int→Shared→Prop} (p:IsPart v o) (h:Q o s):wpAny (model prog w) A (Builtin.Slice.slicePartIndex v) Q E s:=by
 cases p with
 | none=>exact slicePart_none h
 | int i t=>exact slicePart_int h
theorem Q4 {sl:Addr} {vl vu:Value} {lo hi:Option Int} {n:Nat} {Q:Int×Int×Nat→Shared→Prop} (hs:s.heap.IsSliceOf sl vl vu .none) (pl:IsPart vl lo) (pu:IsPart vu hi)
  (h:Q (((sIx n 0 lo:Nat):Int),1,sIx n n hi - sIx n 0 lo) s):wpAny (model prog w) A (Builtin.Slice.sliceApplied (.ref sl) (pure (n:Int))) Q E s:=by
 obtain ⟨os,hos,hcs,hds⟩:=id hs
 unfold Builtin.Slice.sliceApplied Builtin.Slice.sliceFields
 refine wpAny_bind (wpAny_bind (wpAny_field hos hds (x:=vl) rfl (wpAny_bind (wpAny_field hos hds (x:=vu) rfl (wpAny_bind (wpAny_field hos hds (x:=.none) rfl (wpAny_pure ?_)))))))
 refine wpAny_bind (slicePart_none ?_)
 show wpAny _ _ (if ((1:Int) == 0)=true then _ else _) _ _ s
 rw [if_neg (by decide)]
 refine wpAny_bind (Xo pl (wpAny_bind (Xo pu (wpAny_bind (wpAny_pure ?_)))))
 show wpAny _ _ (match Builtin.Slice.sliceAdjust lo hi 1 (n:Int) with | (lo,hi)=>pure (lo,(1:Int),Builtin.Slice.slicePlaces lo hi 1)) _ _ s
 rw [Fl lo hi n]
 show wpAny _ _ (pure (((sIx n 0 lo:Nat):Int),(1:Int),Builtin.Slice.slicePlaces ((sIx n 0 lo:Nat):Int) ((sIx n n hi:Nat):Int) 1)) _ _ s
 rw [fq]
 exact wpAny_pure h
theorem bo (xs:Array Value) (i k:Nat):((List.range k).filterMap fun (m:Nat)=>xs[((i:Int) + (m:Int) * 1).toNat]?).toArray=((xs.toList.drop i).take k).toArray:=by
 have e:(fun (m:Nat)=>xs[((i:Int) + (m:Int) * 1).toNat]?)=fun m=>xs[i + m]?:=by
  funext m
  have:((i:Int) + (m:Int) * 1).toNat=i + m:=by omega
  rw [this]
 rw [e]
 have:=pick_run xs i k
 rw [List.filterMap_map] at this
 have e2:((fun x=>xs[x]?) ∘ fun x=>i + x)=fun m=>xs[i + m]?:=rfl
 rw [e2] at this
 rw [this]
theorem getItem_tuple_cut {t sl:Addr} {items:Array Value} {vl vu:Value} {lo hi:Option Int} {Q:Value→Shared→Prop} (ht:IsTup s.heap t items) (hs:s.heap.IsSliceOf sl vl vu .none) (pl:IsPart vl lo) (pu:IsPart vu hi)
  (hw:¬ (sIx items.size 0 lo=0∧sIx items.size items.size hi=items.size))
  (h:Q (.ref s.heap.objs.size) { s with heap:=s.heap.push { cls:=.type "tuple",data:=.seq ((items.toList.drop (sIx items.size 0 lo)).take (sIx items.size items.size hi - sIx items.size 0 lo)).toArray}})
  (hsz:items.size≤sizeLine):wpAny (model prog w) A (getItem (.ref t) (.ref sl)) Q E s:=by
 have htake:sizeOk (.seq ((items.toList.drop (sIx items.size 0 lo)).take (sIx items.size items.size hi - sIx items.size 0 lo)).toArray):=by
  show ((items.toList.drop (sIx items.size 0 lo)).take (sIx items.size items.size hi - sIx items.size 0 lo)).toArray.size≤sizeLine
  rw [List.size_toArray,List.length_take,List.length_drop,Array.length_toList]
  omega
 have hj:sIx items.size items.size hi≤items.size:=ab3 _ _ (Nat.le_refl _) hi
 obtain ⟨os,hos,hcs,hds⟩:=id hs
 have hTs:s.TypeIs (.ref sl) "slice":=⟨os,hos,hcs⟩
 unfold getItem
 try with_reducible refine wpAny_holding ?_
 first | refine wpAny_bind (wpAny_pure ?_) | skip
 refine wpAny_bind (wpAny_sequenceKey ht.typeIs (by decide) ?_)
 refine wpAny_bind (wpAny_callSpecial?_slot (name:=Str.ofString "__getitem__") ht.typeIs PyProof.Rows.slot_tuple_getitem
  (wpAny_call_entry PyProof.Rows.slot_tuple_getitem ht.typeIs entry_tuple_getitem ?_ (args_tuple_getitem _ _)))
 show wpAny _ _ (Builtin.Tuple.tupleItemsOf (.ref t) >>= _) _ _ s
 refine wpAny_bind (tupleItemsOf_ ht ?_)
 refine wpAny_bind (wpAny_typeOf hTs ?_)
 rw [if_pos (by decide)]
 refine wpAny_bind (Q4 hs pl pu ?_)
 have hno:¬ ((((sIx items.size 0 lo:Nat):Int) == 0 && (1:Int) == 1 && (sIx items.size items.size hi - sIx items.size 0 lo) == items.size)=true):=by
  intro q
  rw [Bool.and_eq_true,Bool.and_eq_true] at q
  have q1:((sIx items.size 0 lo:Nat):Int)=0:=eq_of_beq q.1.1
  have q2:sIx items.size items.size hi - sIx items.size 0 lo=items.size:=eq_of_beq q.2
  exact hw ⟨by omega,by omega⟩
 show wpAny _ _ (if (((sIx items.size 0 lo:Nat):Int) == 0 && (1:Int) == 1 && (sIx items.size items.size hi - sIx items.size 0 lo) == items.size)=true then _ else _) _ _ s
 rw [if_neg hno,bo]
 first
  | exact wpAny_bind (m:=Builtin.Tuple.tupleExact _) (wpAny_newObj_type (wpAny_pure ⟨_,rfl,wpAny_pure h⟩) htake)
  | exact wpAny_bind (m:=Builtin.Tuple.tupleExact _) (wpAny_newObj_type (wpAny_bind (wpAny_pure (wpAny_pure ⟨_,rfl,wpAny_pure h⟩))) htake)
  | exact wpAny_bind (wpAny_bind (m:=Builtin.Tuple.tupleExact _) (wpAny_newObj_type (wpAny_pure (wpAny_pure ⟨_,rfl,wpAny_pure h⟩)) htake))
  | exact wpAny_bind (wpAny_bind (m:=Builtin.Tuple.tupleExact _) (wpAny_newObj_type (wpAny_pure ⟨_,rfl,wpAny_pure h⟩) htake))
end
end HT
namespace L2
open PySem PySem.Spec PyProof.Rows
noncomputable abbrev TO:=St→Hp→(Option Int→Hp→Prop)→Prop
noncomputable def PO (X:Cx) (e:Option Expr) (t:TO):Prop :=
 ∀ (pins:List (Addr×Obj)) (s:Shared) (σ:St) (H:Hp) (Q:Option Int→Hp→Prop),Inv X pins σ H s→t σ H Q →
  wpAny (model X.prog X.w) X.A (evalPart e X.env) (fun u s'=>∃ o H',Inv X pins σ H' s'∧IsPart u o∧Q o H') X.xe s
noncomputable def al1 (t:TE):TO:=fun σ H Q=>t σ H fun x H1=>∃ i,x=.int i∧Q (some i) H1
section
variable {X:Cx} {e:Expr} {te:TE} {lo hi:Option Expr} {tl th:TO} {pos p2:Pos}
theorem Ag (h:PE X e te):PO X (some e) (al1 te):=by
 intro pins s σ H Q I hw
 rw [evalPart_some]
 refine thn (h pins s σ H _ I hw) fun u s1 ⟨x,H1,I1,r1,q1⟩=>?_
 obtain ⟨i,rfl,q⟩:=q1
 obtain ⟨t,rfl⟩:=r1
 exact ⟨some i,H1,I1,.int i t,q⟩
noncomputable def SlR (X:Cx) (r:V→Option Int→Option Int→Hp→VK→Prop):Prop :=
 ∀ (pins:List (Addr×Obj)) (s:Shared) (σ:St) (H:Hp) (x:V) (v vl vu:Value) (lo hi:Option Int) (sl:Addr) (Q:VK),Inv X pins σ H s→J3 x v→s.heap.IsSliceOf sl vl vu .none→IsPart vl lo→IsPart vu hi→r x lo hi H Q →
  ∃ T id,typeLookup (.type T) "__getitem__"=pure (some (.builtin id))∧s.TypeIs v T∧wpAny (model X.prog X.w) X.A (getItem v (.ref sl)) (EP X pins σ Q) X.xe s
theorem SlR.or {r r':V→Option Int→Option Int→Hp→VK→Prop} (h:SlR X r) (h':SlR X r'):SlR X (fun x lo hi H Q=>r x lo hi H Q∨r' x lo hi H Q):=by
 intro pins s σ H x v vl vu lo hi sl Q I rx hs pl pu q
 rcases q with q | q
 ·exact h pins s σ H x v vl vu lo hi sl Q I rx hs pl pu q
 ·exact h' pins s σ H x v vl vu lo hi sl Q I rx hs pl pu q
noncomputable def tSl (r:V→Option Int→Option Int→Hp→VK→Prop) (te:TE) (tl th:TO):TE:=fun σ H Q=>te σ H fun x H1=>tl σ H1 fun l H2=>th σ H2 fun u H3=>r x l u H3 Q
theorem bh {r:V→Option Int→Option Int→Hp→VK→Prop} (hr:SlR X r) (he:PE X e te) (hl:PO X lo tl) (hu:PO X hi th):PE X (.Subscript e (.Slice lo hi none p2) pos) (tSl r te tl th):=by
 intro pins s σ H Q I h
 refine Subscript_ (thn (he pins s σ H _ I h) fun v s1 ⟨x,H1,I1,r1,q1⟩=>?_)
 refine wpAny_Slice (thn (hl pins s1 σ H1 _ I1 q1) fun vl s2 ⟨l,H2,I2,pl,q2⟩=>thn (hu pins s2 σ H2 _ I2 q2) fun vu s3 ⟨u,H3,I3,pu,q3⟩=>?_)
 rw [evalPart_none]
 refine wpAny_pure ?_
 have I4:Inv X pins σ H3 { s3 with heap:=s3.heap.push { cls:=.type "slice",data:=.fields #[vl,vu,.none]}}:=I3.kept (t':=s3.toks) fun b ob q=>Heap.get?_push_of_some _ q
 obtain ⟨T,id,hT,ht,hg⟩:=hr pins { s3 with heap:=s3.heap.push { cls:=.type "slice",data:=.fields #[vl,vu,.none]}} σ H3 x v vl vu l u s3.heap.objs.size Q I4 r1 (Heap.IsSliceOf.new ..) pl pu q3
 show wpAny (model X.prog X.w) X.A (subscriptTail e (.Slice lo hi none p2) v (.ref s3.heap.objs.size)) (EP X pins σ Q) X.xe { s3 with heap:=s3.heap.push { cls:=.type "slice",data:=.fields #[vl,vu,.none]}}
 exact tail_any (ops:=[.ref s3.heap.objs.size,v]) ht hT hg (by with_unfolding_all rfl)
noncomputable def Gs (xs:List V) (lo hi:Option Int):List V:=(xs.drop (HT.sIx xs.length 0 lo)).take (HT.sIx xs.length xs.length hi - HT.sIx xs.length 0 lo)
theorem Qb (xs:List V) (lo hi:Option Int):(Gs xs lo hi).length≤xs.length:=by
 unfold Gs
 rw [List.length_take,List.length_drop]
 omega
noncomputable def rSlT (K:PySem.W.Frag):V→Option Int→Option Int→Hp→VK→Prop:=fun x lo hi H Q=>∃ a xs,x=.ref a∧SqT K H a xs ∧
 ¬ (HT.sIx xs.length 0 lo=0∧HT.sIx xs.length xs.length hi=xs.length)∧∀ p,H p=none→Q (.ref p) (upd H p (.tup (Gs xs lo hi)))
theorem ab2:SlR X (rSlT X.K):=by
 intro pins s σ H x v vl vu lo hi sl Q I rx hs pl pu h
 obtain ⟨a,xs,rfl,hx,hw,q⟩:=h
 cases rx
 obtain ⟨its,r,ht,hz⟩:=I.tuple hx
 have hlen:its.toArray.size=xs.length:=by rw [List.size_toArray];exact r.length.symm
 refine ⟨"tuple",_,PyProof.Rows.slot_tuple_getitem.lookup,ht.typeIs,?_⟩
 refine HT.getItem_tuple_cut ht hs pl pu (by rw [hlen];exact hw) ?_ (by rw [hlen];exact hz)
 rw [hlen]
 refine ⟨.ref s.heap.objs.size,_,I.laid (t':=s.toks) (o:=.tup (Gs xs lo hi)) (fun b ob q=>Heap.get?_push_of_some _ q) (Nat.le_refl _) ?_,rfl,q _ (I.hok.fresh (Nat.le_refl _))⟩
 exact ⟨Nat.le_trans (Qb xs lo hi) hz,_,(r.drop (HT.sIx xs.length 0 lo)).take (HT.sIx xs.length xs.length hi - HT.sIx xs.length 0 lo),IsTup.new _ _⟩
noncomputable def an2 (K:PySem.W.Frag):R2:=fun x y H Q=>∃ a b xs ys,x=.ref a∧y=.ref b∧SqT K H a xs∧SqT K H b ys∧xs≠[]∧xs.length + ys.length≤sizeLine ∧
 (ys=[]→Q (.ref a) H)∧(ys≠[]→∀ p,H p=none→Q (.ref p) (upd H p (.tup (xs++ys))))
theorem J7.nil_iff {xs:List V} {us:List Value} (r:J7 xs us):us=[]↔xs=[]:=by
 cases r with
 | nil=>simp
 | cons _ _=>simp
theorem a04:OpR X (binaryOp .Add) (an2 X.K):=by
 intro pins s σ H x y v u Q I rx ry h
 obtain ⟨a,b,xs,ys,rfl,rfl,ha,hb,hx,hz,q1,q2⟩:=h
 cases rx
 cases ry
 obtain ⟨its,r1,p1,_⟩:=I.tuple ha
 obtain ⟨its2,r2,p2,_⟩:=I.tuple hb
 refine HT.cat_tup p1 p2 (fun z=>hx (r1.nil_iff.mp z)) (fun z=>⟨.ref a,H,I,rfl,q1 (r2.nil_iff.mp z)⟩) (fun z=>?_) (by rw [← r1.length,← r2.length];exact hz)
 refine ⟨.ref s.heap.objs.size,_,I.laid (t':=s.toks) (o:=.tup (xs++ys)) (fun b ob q=>Heap.get?_push_of_some _ q) (Nat.le_refl _) ?_,rfl,q2 (fun w=>z (r2.nil_iff.mpr w)) _ (I.hok.fresh (Nat.le_refl _))⟩
 exact ⟨by rw [List.length_append];exact hz,_,r1.append r2,IsTup.new _ _⟩
end
end L2
namespace L2
open PySem PySem.Spec PyProof.Rows
noncomputable def ixN (n:Nat) (i:Int):Option Nat:=if 0≤i then (if i < n then some i.toNat else none) else if -(n:Int)≤i then some (i + n).toNat else none
noncomputable def atI {α:Type} (xs:List α) (i:Int):Option α:=(ixN xs.length i).bind fun j=>xs[j]?
theorem a33 {n:Nat} {i:Int} {j:Nat} (h:ixN n i=some j):seqIndex? i n=some j∧j < n∧ -(n:Int)≤i∧i < n:=by
 unfold ixN at h
 by_cases h0:0≤i
 ·rw [if_pos h0] at h
  by_cases h1:i < n
  ·rw [if_pos h1] at h
   have e:i.toNat=j:=Option.some.inj h
   exact ⟨by rw [seqIndex_of h0 h1,e],by omega,by omega,h1⟩
  ·rw [if_neg h1] at h;cases h
 ·rw [if_neg h0] at h
  by_cases h1:-(n:Int)≤i
  ·rw [if_pos h1] at h
   have e:(i + n).toNat=j:=Option.some.inj h
   exact ⟨by rw [seqIndex_neg (by omega) h1,e],by omega,h1,by omega⟩
  ·rw [if_neg h1] at h;cases h
theorem Kr {α:Type} {xs:List α} {i:Int} {v:α} (h:atI xs i=some v):∃ j,seqIndex? i xs.length=some j∧xs[j]? =some v∧j < xs.length∧ -(xs.length:Int)≤i∧i < xs.length:=by
 unfold atI at h
 cases e:ixN xs.length i with
 | none=>rw [e] at h;cases h
 | some j =>
  rw [e] at h
  obtain ⟨h1,h2,h3,h4⟩:=a33 e
  exact ⟨j,h1,h,h2,h3,h4⟩
noncomputable def D9 (b:Expr):Prop:=∀ o i,subscripted b false o i=operate [o,i] (getItem o i)
noncomputable def IxR (X:Cx) (r:R2):Prop :=
 ∀ (value slice:Expr) (pins:List (Addr×Obj)) (s:Shared) (σ:St) (H:Hp) (x y:V) (v u:Value) (Q:VK),Inv X pins σ H s→J3 x v→J3 y u→r x y H Q →
  subscripted slice false v u=operate [v,u] (getItem v u)→wpAny (model X.prog X.w) X.A (subscriptTail value slice v u) (EP X pins σ Q) X.xe s
noncomputable def MtR (X:Cx) (id:String) (r:V→List V→Hp→VK→Prop):Prop :=
 ∀ (pins:List (Addr×Obj)) (s:Shared) (σ:St) (H:Hp) (x:V) (xs:List V) (v:Value) (us:List Value) (Q:VK),Inv X pins σ H s→J3 x v→J7 xs us→r x xs H Q →
  wpAny (model X.prog X.w) X.A (call (.builtin id) (v::us)) (EP X pins σ Q) X.xe s
section
variable {X:Cx} {a b:Expr} {ta tb:TE} {pos:Pos}
theorem IxR.or {r r':R2} (h:IxR X r) (h':IxR X r'):IxR X (fun x y H Q=>r x y H Q∨r' x y H Q):=by
 intro value slice pins s σ H x y v u Q I rx ry q hs
 rcases q with q | q
 ·exact h value slice pins s σ H x y v u Q I rx ry q hs
 ·exact h' value slice pins s σ H x y v u Q I rx ry q hs
theorem ao3 {r:R2} (hr:IxR X r) (ha:PE X a ta) (hb:PE X b tb) (hs:D9 b):PE X (.Subscript a b pos) (tOp r ta tb):=by
 intro pins s σ H Q I h
 exact Subscript_ (aj5 ha hb I h fun v u s2 x y H2 I2 rx ry q=>hr a b pins s2 σ H2 x y v u Q I2 rx ry q (hs _ _))
noncomputable def an0 (K:PySem.W.Frag):R2:=fun x y H Q=>∃ p xs i v,x=.ref p∧y=.int i∧SqL K H p xs∧atI xs i=some v∧Q v H
noncomputable def am8 (K:PySem.W.Frag):R2:=fun x y H Q=>∃ p xs i v,x=.ref p∧y=.int i∧SqT K H p xs∧atI xs i=some v∧Q v H
noncomputable def am9:R2:=fun x y H Q=>∃ z i c,x=.str z∧y=.int i∧z.length≤sizeLine∧atI z.cps.toList i=some c∧Q (.str ⟨#[c]⟩) H
theorem a32:IxR X (an0 X.K):=by
 intro value slice pins s σ H x y v u Q I rx ry h hs
 obtain ⟨p,xs,i,z,rfl,rfl,hq,he,q⟩:=h
 cases rx
 obtain ⟨t,rfl⟩:=ry
 obtain ⟨its,r,pl,hz⟩:=I.list hq
 obtain ⟨j,h1,h2,h3,h4,h5⟩:=Kr he
 obtain ⟨w,ew,rw'⟩:=r.get h2
 have hl:=r.length
 have hn:=ww
 have fin:EP X pins σ Q w s:=⟨z,H,I,rw',q⟩
 by_cases h0:0≤i
 ·have hj:i.toNat=j:=by
   rw [seqIndex_of h0 h5] at h1
   exact Option.some.inj h1
  exact item_listR pl.isList h0 (by omega) (by rw [hj];simpa using ew) fin hs
 ·have hj:(i + (its.toArray.size:Int)).toNat=j:=by
   rw [seqIndex_neg (by omega) h4] at h1
   rw [List.size_toArray,← hl]
   exact Option.some.inj h1
  exact subscriptTail_builtinR (x:=w) pl.isList.typeIs slot_list_getitem.lookup
   (wpAny_getItem_list_neg (Q:=fun r s'=>r=w∧EP X pins σ Q r s') pl.isList (by omega) (by rw [List.size_toArray] <;> omega) (by omega) (by rw [hj];simpa using ew) ⟨rfl,fin⟩) hs
theorem ah6:IxR X (am8 X.K):=by
 intro value slice pins s σ H x y v u Q I rx ry h hs
 obtain ⟨p,xs,i,z,rfl,rfl,hq,he,q⟩:=h
 cases rx
 obtain ⟨t,rfl⟩:=ry
 obtain ⟨its,r,pl,hz⟩:=I.tuple hq
 obtain ⟨j,h1,h2,h3,h4,h5⟩:=Kr he
 obtain ⟨w,ew,rw'⟩:=r.get h2
 have hl:=r.length
 have hn:=ww
 have fin:EP X pins σ Q w s:=⟨z,H,I,rw',q⟩
 exact subscriptTail_builtinR (x:=w) pl.typeIs slot_tuple_getitem.lookup
  (getItem_tuple (j:=j) (Q:=fun r s'=>r=w∧EP X pins σ Q r s') pl (by omega) (by omega) (by rw [List.size_toArray,← hl];exact h1) (by simpa using ew) ⟨rfl,fin⟩) hs
theorem ah7:IxR X am9:=by
 intro value slice pins s σ H x y v u Q I rx ry h hs
 obtain ⟨z,i,c,rfl,rfl,hz,he,q⟩:=h
 obtain ⟨t,rfl⟩:=rx
 obtain ⟨t',rfl⟩:=ry
 obtain ⟨j,h1,h2,h3,h4,h5⟩:=Kr he
 have hl:z.cps.toList.length=z.length:=by simp [Str.length]
 rw [hl] at h1 h4 h5
 have hn:=ww
 exact tail_any (typeIs_str s z t) slot_str_getitem.lookup (getItem_str (c:=c) (by
  have e1:decide (i < -(2 ^ 63:Int))=false:=decide_eq_false (by omega)
  have e2:decide (i ≥ 2 ^ 63)=false:=decide_eq_false (by omega)
  rw [e1,e2,Bool.or_false]) (by rw [h1];simpa using h2) ⟨.str ⟨#[c]⟩,H,I.tok _,⟨_,rfl⟩,q⟩) hs
noncomputable def rIx (K:PySem.W.Frag):R2:=fun x y H Q=>an0 K x y H Q∨am8 K x y H Q∨am9 x y H Q
theorem ah8:IxR X (rIx X.K):=a32.or (ah6.or ah7)
theorem Vz (lo hi:Option Int) (n:Nat):(sliceBounds lo hi none n).1=((HT.sIx n 0 lo:Nat):Int)∧(sliceBounds lo hi none n).2.1=((HT.sIx n n hi:Nat):Int)∧(sliceBounds lo hi none n).2.2=1:=by
 refine ⟨?_,?_,rfl⟩
 ·cases lo with
  | none=>simp [sliceBounds,HT.sIx]
  | some i =>
   simp only [sliceBounds,HT.sIx,Option.getD_none,show (1:Int) > 0 by decide,if_true]
   by_cases h:i < 0
   ·simp only [h,if_true] <;> omega
   ·simp only [h,if_false] <;> omega
 ·cases hi with
  | none=>simp [sliceBounds,HT.sIx]
  | some i =>
   simp only [sliceBounds,HT.sIx,Option.getD_none,show (1:Int) > 0 by decide,if_true]
   by_cases h:i < 0
   ·simp only [h,if_true] <;> omega
   ·simp only [h,if_false] <;> omega
theorem Wn (its:List Value) (lo hi:Option Int):slicePick its.toArray lo hi none=((its.drop (HT.sIx its.length 0 lo)).take (HT.sIx its.length its.length hi - HT.sIx its.length 0 lo)).toArray:=by
 obtain ⟨h1,h2,h3⟩:=Vz lo hi its.toArray.size
 unfold slicePick
 rw [h1,h2,h3]
 simp only [sliceRange_one,pick_run,List.size_toArray] <;> rfl
noncomputable def rSlL (K:PySem.W.Frag):V→Option Int→Option Int→Hp→VK→Prop:=fun x lo hi H Q=>∃ a xs,x=.ref a∧SqL K H a xs∧∀ p,H p=none→Q (.ref p) (upd H p (.lst (Gs xs lo hi)))
theorem A9:SlR X (rSlL X.K):=by
 intro pins s σ H x v vl vu lo hi sl Q I rx hs pl pu h
 obtain ⟨a,xs,rfl,hx,q⟩:=h
 cases rx
 obtain ⟨its,r,ht,hz⟩:=I.list hx
 have hlen:=r.length
 refine ⟨"list",_,slot_list_getitem.lookup,ht.isList.typeIs,?_⟩
 refine wpAny_getItem_list_slice ht.isList hs pl pu .none (by simp) ?_ (by rw [List.size_toArray] <;> omega)
 rw [Wn,← hlen]
 refine ⟨.ref s.heap.objs.size,_,I.laid (t':=s.toks) (o:=.lst (Gs xs lo hi)) (fun b ob q=>Heap.get?_push_of_some _ q) (Nat.le_refl _) ?_,rfl,q _ (I.hok.fresh (Nat.le_refl _))⟩
 exact ⟨Nat.le_trans (Qb xs lo hi) hz,_,0,(r.drop (HT.sIx xs.length 0 lo)).take (HT.sIx xs.length xs.length hi - HT.sIx xs.length 0 lo),Heap.get?_push_size _ rfl⟩
noncomputable def tyV (K:PySem.W.Frag) (T:String) (x:V) (H:Hp):Prop:=match x with
 | .str _=>T="str"
 | .int _=>T="int"
 | .ref p=>(T="list"∧∃ xs,SqL K H p xs)∨(T="tuple"∧∃ o,K.lookup p=some o∧o.cls=.type "tuple"∧o.dict=none) ∨
   (T="dict"∧((∃ kvs,H p=some (.dK kvs))∨∃ kvs,H p=some (.dT kvs)))∨(T="set"∧∃ S n,H p=some (.set S n))
 | _=>False
theorem Cm {pins:List (Addr×Obj)} {σ:St} {H:Hp} {s:Shared} {T:String} {x:V} {v:Value} (I:Inv X pins σ H s) (r:J3 x v) (ty:tyV X.K T x H) :
  s.TypeIs v T∧∀ a,v=.ref a→∃ ob,s.heap.get? a=some ob∧ob.dict=none:=by
 cases x with
 | str z =>
  obtain ⟨t,rfl⟩:=r
  cases (show T="str" from ty)
  exact ⟨typeIs_str s z t,fun _ e=>nomatch e⟩
 | int i =>
  obtain ⟨t,rfl⟩:=r
  cases (show T="int" from ty)
  exact ⟨typeIs_int s i t,fun _ e=>nomatch e⟩
 | ref p =>
  cases r
  rcases ty with ⟨rfl,xs,hq⟩ | ⟨rfl,o,hk,hc,hd⟩ | ⟨rfl,hk⟩ | ⟨rfl,S,n,hk⟩
  ·obtain ⟨its,_,pl,_⟩:=I.list hq
   refine ⟨pl.isList.typeIs,fun a e=>?_⟩
   cases e
   obtain ⟨o,n,e,c,hd,_⟩:=pl
   exact ⟨o,e,hd⟩
  ·refine ⟨⟨o,I.kIn p o hk,hc⟩,fun a e=>?_⟩
   cases e
   exact ⟨o,I.kIn _ o hk,hd⟩
  ·have z:∃ o,s.heap.get? p=some o∧o.ExactDict:=by
    rcases hk with ⟨kvs,hk⟩ | ⟨kvs,hk⟩
    ·obtain ⟨_,_,_,_,o,_,_,e,ex,_⟩:=I.hok p _ hk
     exact ⟨o,e,ex⟩
    ·obtain ⟨_,_,_,_,o,_,_,e,ex,_⟩:=I.hok p _ hk
     exact ⟨o,e,ex⟩
   obtain ⟨o,e,ex⟩:=z
   refine ⟨⟨o,e,ex.1⟩,fun a e2=>?_⟩
   cases e2
   exact ⟨o,e,ex.2.1⟩
  ·obtain ⟨o,_,_,_,e,ex,_⟩:=I.hok p _ hk
   refine ⟨⟨o,e,ex.1⟩,fun a e2=>?_⟩
   cases e2
   exact ⟨o,e,ex.2.1⟩
 | _=>exact False.elim ty
noncomputable def tBM0 (K:PySem.W.Frag) (T:String) (r:V→List V→Hp→VK→Prop) (to:TE):TE:=fun σ H Q=>to σ H fun x H1=>tyV K T x H1∧r x [] H1 Q
noncomputable def tBM (K:PySem.W.Frag) (T:String) (r:V→List V→Hp→VK→Prop) (to:TE) (t:TA):TE:=fun σ H Q=>to σ H fun x H1=>tyV K T x H1∧t σ H1 fun xs H2=>r x xs H2 Q
variable {o e:Expr} {es:List Expr} {to:TE} {t:TA} {name:Str} {apos cpos:Pos} {T id:String} {r:V→List V→Hp→VK→Prop}
theorem ad6 (pa:PlainAttrs T) (slot:Slot T name id) (hty:typeOf (.builtin id)=pure (.type "method_descriptor")) (hm:MtR X id r) (ho:PE X o to)
  (hbase:attributeBase o name X.env (eval o X.env)=eval o X.env:=by rfl) (hline:(apos.endLine == cpos.line)=true:=by rfl):PE X (.Call (.Attribute o name apos) [] [] cpos) (tBM0 X.K T r to):=by
 intro pins s σ H Q I h
 refine wpAny_Call_method0_late hbase hline (thn (ho pins s σ H _ I h) fun v s1 ⟨x,H1,I1,r1,ty,q1⟩=>?_)
 obtain ⟨h1,h2⟩:=Cm I1 r1 ty
 exact ⟨T,id,pa,slot,hty,h1,h2,Calls.callWith_builtin rfl (PySem.evalArgs_none (hm pins s1 σ H1 x [] v [] Q I1 r1 .nil q1))⟩
theorem a66 (pa:PlainAttrs T) (slot:Slot T name id) (hty:typeOf (.builtin id)=pure (.type "method_descriptor")) (hm:MtR X id r) (ho:PE X o to) (ha:PA X (e::es) t)
  (hbase:attributeBase o name X.env (eval o X.env)=eval o X.env:=by rfl)
  (hfew:((backTo cpos (starEach (e::es) X.env)).all (fun x=> !x.1) && (backToKw cpos (keywordEach [] X.env)).all (fun x=>x.1.isSome)
   && decide ((e::es).length + ([]:List Keyword).length + (if ([]:List Keyword).isEmpty then 0 else 1) < 30))=true:=by rfl)
  (hline:(apos.endLine == cpos.line)=true:=by rfl) (hs:starEach (e::es) X.env=(false,eval e X.env)::starEach es X.env:=by rfl) (hplain:(backTo cpos (starEach es X.env)).any (·.1)=false:=by rfl) :
  PE X (.Call (.Attribute o name apos) (e::es) [] cpos) (tBM X.K T r to t):=by
 intro pins s σ H Q I h
 refine wpAny_Call_method_late hbase hfew hline rfl (thn (ho pins s σ H _ I h) fun v s1 ⟨x,H1,I1,r1,ty,q1⟩=>?_)
 obtain ⟨h1,h2⟩:=Cm I1 r1 ty
 refine ⟨T,id,pa,slot,hty,h1,h2,?_⟩
 have hA:=ha cpos pins s1 σ H1 _ I1 q1
 rw [hs] at hA ⊢
 refine Calls.callWith_builtin (by show (false || (backTo cpos (starEach es X.env)).any (·.1))=false;rw [hplain] <;> rfl) (Calls.evalArgs_plain ?_)
 exact thn hA fun us s2 ⟨vs,H2,I2,r2,q2⟩=>hm pins s2 σ H2 x vs v us Q I2 r1 r2 q2
end
end L2
namespace L2
open PySem PySem.Spec PyProof.Rows
noncomputable def MtM (X:Cx) (id:String) (r:V→List V→Hp→VK→Prop):Prop :=
 ∀ (pins:List (Addr×Obj)) (s:Shared) (σ:St) (H:Hp) (x:V) (xs:List V) (v:Value) (us:List Value) (Q:VK),Inv X pins σ H s→J3 x v→J7 xs us→r x xs H Q →
  wpAny (model X.prog X.w) X.A (call (.builtin id) (v::us)) (EP X pins σ Q) X.xe s
theorem J7.one:∀ {x:V} {us:List Value},J7 [x] us→∃ u,us=[u]∧J3 x u
 | _,_,.cons r .nil=>⟨_,rfl,r⟩
theorem J7.zero:∀ {us:List Value},J7 [] us→us=[]
 | _,.nil=>rfl
theorem J7.dropLast {xs:List V} {us:List Value} (h:J7 xs us):J7 xs.dropLast us.dropLast:=by
 induction h with
 | nil=>exact .nil
 | cons r t ih =>
  cases t with
  | nil=>exact .nil
  | cons q t'=>exact .cons r ih
theorem Fu {α:Type} (l:List α):l.eraseIdx (l.length - 1)=l.dropLast:=by
 induction l with
 | nil=>rfl
 | cons a r ih =>
  cases r with
  | nil=>rfl
  | cons b r =>
   have e:(a::b::r).length - 1=((b::r).length - 1) + 1:=by
    have h1:(a::b::r).length=r.length + 2:=rfl
    have h2:(b::r).length=r.length + 1:=rfl
    omega
   rw [e,List.eraseIdx_cons_succ,ih]
   all_goals rfl
section
variable {X:Cx} {pins:List (Addr×Obj)} {σ:St} {H:Hp} {s:Shared} {l b:Addr} {xs ys zs:List V}
theorem Inv.lset {its its':List Value} {n:Nat} {f:Array Value→Array Value} {t':Nat} (I:Inv X pins σ H s) (hH:H l=some (.lst xs))
  (e:s.heap.get? l=some { cls:=.type "list",data:=.seq its.toArray n}) (hf:f its.toArray=its'.toArray) (hv:J7 ys its') (hz:ys.length≤sizeLine) :
  Inv X pins σ (upd H l (.lst ys)) { s with heap:=s.heap.update l (Obj.mapSeq f),toks:=t'}:=by
 have q:=PySem.IsL.update e f
 rw [hf] at q
 refine I.write (x:=l) (e:=l) (by rw [hH];exact trivial) (.inl rfl) (fun b' u hb hu=>(Heap.get?_update_other s.heap (Obj.mapSeq f) (Ne.symm hb)).trans hu) ⟨_,q⟩ ?_
 exact ⟨hz,its',_,hv,q⟩
theorem Inv.lnew {its:List Value} {t':Nat} (I:Inv X pins σ H s) (hv:J7 ys its) (hz:ys.length≤sizeLine) :
  Inv X pins σ (upd H s.heap.objs.size (.lst ys)) { s with heap:=s.heap.push { cls:=.type "list",data:=.seq its.toArray},toks:=t'} :=
 I.laid (fun _ _ q=>Heap.get?_push_of_some _ q) (Nat.le_refl _) ⟨hz,its,0,hv,Heap.get?_push_size _ rfl⟩
theorem Inv.fresh (I:Inv X pins σ H s):H s.heap.objs.size=none:=I.hok.fresh (Nat.le_refl _)
theorem Inv.lstM (I:Inv X pins σ H s) (hH:H l=some (.lst xs)):xs.length≤sizeLine∧∃ (its:List Value) (n:Nat),J7 xs its∧xs.length=its.length∧s.heap.get? l=some { cls:=.type "list",data:=.seq its.toArray n}:=by
 obtain ⟨z,its,n,r,e⟩:=I.hok l _ hH
 exact ⟨z,its,n,r,r.length,e⟩
theorem Bx {n:Nat} (h:n≤sizeLine):Builtin.List.listTooLong n=false:=by
 unfold Builtin.List.listTooLong
 exact decide_eq_false (by omega)
end
section
variable {X:Cx}
noncomputable def As:V→List V→Hp→VK→Prop:=fun x vs H Q=>∃ l xs y,x=.ref l∧vs=[y]∧H l=some (.lst xs)∧xs.length < sizeLine∧Q .non (upd H l (.lst (xs++[y])))
theorem vx:MtM X "list.append" As:=by
 intro pins s σ H x vs v us Q I rx rv h
 obtain ⟨l,xs,y,rfl,rfl,hH,hz,q⟩:=h
 cases rx
 obtain ⟨u,rfl,ru⟩:=rv.one
 obtain ⟨z,its,n,r,hl,e⟩:=I.lstM hH
 refine call_meets F.slot_list_append ⟨_,e,rfl⟩ F.entry_list_append (F.args_list_append_2 _ _) (PySem.list_append l its.toArray n u (by rw [List.size_toArray];omega)) ⟨e,?_⟩
 refine ⟨.non,_,I.lset (its':=its++[u]) hH e (by simp) (r.append (.cons ru .nil)) ?_,rfl,q⟩
 rw [List.length_append,List.length_singleton]
 omega
noncomputable def rPop:V→List V→Hp→VK→Prop:=fun x vs H Q=>∃ l xs y,x=.ref l∧vs=[]∧H l=some (.lst xs)∧xs[xs.length - 1]? =some y∧Q y (upd H l (.lst xs.dropLast))
theorem af8:MtM X "list.pop" rPop:=by
 intro pins s σ H x vs v us Q I rx rv h
 obtain ⟨l,xs,y,rfl,rfl,hH,hy,q⟩:=h
 cases rx
 have hus:=rv.zero
 subst hus
 obtain ⟨z,its,n,r,hl,e⟩:=I.lstM hH
 obtain ⟨u,hu,ru⟩:=r.get hy
 have hy':its.toArray[its.toArray.size - 1]? =some u:=by
  show its.toArray[its.length - 1]? =some u
  rw [← Array.getElem?_toList,← hl]
  exact hu
 refine call_meets F.slot_list_pop ⟨_,e,rfl⟩ F.entry_list_pop (F.args_list_pop_1 _) (MeetsSeq.list_pop_last l its.toArray n u hy' (by rw [List.size_toArray];omega)) ⟨e,?_⟩
 refine ⟨y,_,I.lset (its':=its.dropLast) hH e ?_ r.dropLast ?_,ru,q⟩
 ·show its.toArray.eraseIdxIfInBounds (its.toArray.size - 1)=its.dropLast.toArray
  rw [List.size_toArray,List.eraseIdxIfInBounds_toArray,Fu]
 ·rw [List.length_dropLast]
  omega
end
section
variable {prog:Program} {w:World} {A:Around} {E:Value→Shared→Prop} {s:Shared}
set_option maxRecDepth 100000 in
end
section
variable {X:Cx}
end
end L2
namespace L2
open PySem PySem.Spec PyProof.Rows
section
variable {κ:Type} [DecidableEq κ]
noncomputable def Y9 (kvs:List (κ×V)) (k:κ):Option V:=(kvs.find? fun kv=>decide (kv.1=k)).map (·.2)
noncomputable def Yy (kvs:List (κ×V)) (k:κ) (v:V):List (κ×V) :=
 if (kvs.any fun kv=>decide (kv.1=k))=true then kvs.map (fun kv=>if kv.1=k then (kv.1,v) else kv) else kvs++[(k,v)]
theorem Zo {p:κ×V} {r:List (κ×V)} {k:κ} (e:p.1=k):Y9 (p::r) k=some p.2:=by simp [Y9,List.find?_cons,e]
theorem Zn {p:κ×V} {r:List (κ×V)} {k:κ} (e:¬ p.1=k):Y9 (p::r) k=Y9 r k:=by simp [Y9,List.find?_cons,e]
theorem Zm (k:κ):∀ kvs:List (κ×V),(kvs.any fun kv=>decide (kv.1=k))=(Y9 kvs k).isSome
 | []=>rfl
 | p::r=>by
  rw [List.any_cons]
  by_cases e:p.1=k
  ·simp only [Zo e,decide_eq_true e,Bool.true_or,Option.isSome_some]
  ·rw [Zn e,decide_eq_false e,Bool.false_or];exact Zm k r
theorem z7 (kvs:List (κ×V)) (k:κ) (v:V):(Yy kvs k v).length≤kvs.length + 1:=by
 unfold Yy
 split
 ·rw [List.length_map];omega
 ·rw [List.length_append,List.length_cons,List.length_nil];omega
theorem bw {kvs:List (κ×V)} {k:κ} (v:V) (h:Y9 kvs k=none):Yy kvs k v=kvs++[(k,v)]:=by
 unfold Yy
 rw [Zm,h]
 exact if_neg (by decide)
theorem Zt.isSome_eq {o:Option V} {u:Option Value} (r:Zt o u):o.isSome=u.isSome:=by
 cases o with
 | none=>cases u with
  | none=>rfl
  | some _=>exact (show False from r).elim
 | some _=>cases u with
  | none=>exact (show False from r).elim
  | some _=>rfl
theorem KV.val {kvs:List (κ×V)} {vs:List (κ×Value)} (r:KV kvs vs) (k:κ):Zt (Y9 kvs k) (valueAt vs k):=by
 unfold KV at r
 induction r with
 | nil=>exact True.intro
 | @cons p q ps qs h t ih =>
  obtain ⟨h1,h2⟩:=h
  by_cases e:p.1=k
  ·have e':q.1=k:=h1.symm.trans e
   have b:valueAt (q::qs) k=some q.2:=by simp [valueAt,List.find?_cons,e']
   rw [Zo e,b];exact h2
  ·have e':¬ q.1=k:=fun z=>e (h1.trans z)
   have b:valueAt (q::qs) k=valueAt qs k:=by simp [valueAt,List.find?_cons,e']
   rw [Zn e,b];exact ih
theorem KV.any {kvs:List (κ×V)} {vs:List (κ×Value)} (r:KV kvs vs) (k:κ):(kvs.any fun kv=>decide (kv.1=k))=vs.any fun kv=>decide (kv.1=k):=by
 unfold KV at r
 induction r with
 | nil=>rfl
 | cons h t ih=>rw [List.any_cons,List.any_cons,ih,h.1]
theorem KV.repl {kvs:List (κ×V)} {vs:List (κ×Value)} (r:KV kvs vs) (k:κ) {y:V} {u:Value} (ry:J3 y u) :
  KV (kvs.map fun kv=>if kv.1=k then (kv.1,y) else kv) (vs.map fun kv=>if kv.1=k then (kv.1,u) else kv):=by
 unfold KV at r ⊢
 induction r with
 | nil=>exact .nil
 | @cons p q ps qs h t ih =>
  rw [List.map_cons,List.map_cons]
  refine .cons ?_ ih
  obtain ⟨h1,h2⟩:=h
  by_cases e:p.1=k
  ·rw [if_pos e,if_pos (h1.symm.trans e)];exact ⟨h1,ry⟩
  ·rw [if_neg e,if_neg (fun z=>e (h1.trans z))];exact ⟨h1,h2⟩
theorem KV.put {kvs:List (κ×V)} {vs:List (κ×Value)} (r:KV kvs vs) (k:κ) {y:V} {u:Value} (ry:J3 y u):KV (Yy kvs k y) (stored vs k u):=by
 unfold Yy stored
 rw [r.any k]
 by_cases e:(vs.any fun kv=>decide (kv.1=k))=true
 ·rw [if_pos e,if_pos e];exact r.repl k ry
 ·rw [if_neg e,if_neg e];exact Paired.snoc r ⟨rfl,ry⟩
theorem KV.length {kvs:List (κ×V)} {vs:List (κ×Value)} (r:KV kvs vs):kvs.length=vs.length:=Paired.length r
end
theorem Qe {P:Program} {w:World} {k:Key} {u:Value} (r:J3 (kV k) u):(Jr P w).is k u=true:=by
 cases k with
 | inl i=>obtain ⟨t,e⟩:=(show ∃ t,u=Value.int i t from r);subst e;exact gm P w i t
 | inr x=>obtain ⟨t,e⟩:=(show ∃ t,u=Value.str x t from r);subst e;exact gn P w x t
theorem vi {P:Program} {w:World}:∀ {ks:List Key} {us:List Value},J7 (ks.map kV) us→ItemsAre (Jr P w) ks us
 | [],_,r=>by rw [List.map_nil] at r;cases r;exact .nil
 | k::ks,_,r=>by
  rw [List.map_cons] at r
  cases r with
  | cons h t=>exact .cons (Qe h) (vi t)
noncomputable abbrev KT (H:Hp):List (List Key×V)→List (List Key×Addr×Value)→Prop:=Paired fun p q=>p.1=q.1∧H q.2.1=some (.tup (p.1.map kV))∧J3 p.2 q.2.2
theorem KT.val {H:Hp} {kvs:List (List Key×V)} {xs:List (List Key×Addr×Value)} (r:KT H kvs xs) (k:List Key):Zt (Y9 kvs k) ((atKey xs k).map (·.2)):=by
 induction r with
 | nil=>exact True.intro
 | @cons p q ps qs h t ih =>
  obtain ⟨h1,_,h2⟩:=h
  by_cases e:p.1=k
  ·have e':q.1=k:=h1.symm.trans e
   have b:atKey (q::qs) k=some q.2:=by simp [atKey,List.find?_cons,e']
   rw [Zo e,b];exact h2
  ·have e':¬ q.1=k:=fun z=>e (h1.trans z)
   have b:atKey (q::qs) k=atKey qs k:=by simp [atKey,List.find?_cons,e']
   rw [Zn e,b];exact ih
theorem KT.repl {H:Hp} {kvs:List (List Key×V)} {xs:List (List Key×Addr×Value)} (r:KT H kvs xs) (k:List Key) {y:V} {u:Value} (ry:J3 y u) :
  KT H (kvs.map fun kv=>if kv.1=k then (kv.1,y) else kv) (xs.map (putAt k u)):=by
 induction r with
 | nil=>exact .nil
 | @cons p q ps qs h t ih =>
  rw [List.map_cons,List.map_cons]
  refine .cons ?_ ih
  obtain ⟨h1,h2,h3⟩:=h
  unfold putAt
  by_cases e:p.1=k
  ·rw [if_pos e,if_pos (h1.symm.trans e)];exact ⟨h1,h2,ry⟩
  ·rw [if_neg e,if_neg (fun z=>e (h1.trans z))];exact ⟨h1,h2,h3⟩
theorem KT.put {H:Hp} {kvs:List (List Key×V)} {xs:List (List Key×Addr×Value)} (r:KT H kvs xs) (k:List Key) {b:Addr} {y:V} {u:Value} (hb:H b=some (.tup (k.map kV))) (ry:J3 y u) :
  KT H (Yy kvs k y) (storedH xs k b u):=by
 have e:(kvs.any fun kv=>decide (kv.1=k))=(atKey xs k).isSome:=by
  rw [Zm,(r.val k).isSome_eq,Option.isSome_map]
 unfold Yy storedH
 rw [e]
 by_cases q:(atKey xs k).isSome=true
 ·rw [if_pos q,if_pos q];exact r.repl k ry
 ·rw [if_neg q,if_neg q];exact Paired.snoc r ⟨rfl,hb,ry⟩
theorem KT.keeps {H H':Hp} {kvs:List (List Key×V)} {xs:List (List Key×Addr×Value)} (r:KT H kvs xs) (ht:∀ b ys,H b=some (.tup ys)→H' b=some (.tup ys)):KT H' kvs xs :=
 Paired.mapP r fun _ _ z=>⟨z.1,ht _ _ z.2.1,z.2.2⟩
section
variable {P:Program} {w:World} {H:Hp} {h:Heap} {a:Addr}
theorem a65 {u:HO} (ok:HOk P w H h) (e:Rd H a u):ul P w H h a u:=e.ok ok
theorem dh {kvs:List (Key×V)} (ok:HOk P w H h) (e:Rd H a (.dK kvs)):kvs.length≤sizeLine∧(a == sysModules)=false∧∃ vs,KV kvs vs∧h.DictOf (Jr P w) a vs :=
 show ul P w H h a (.dK kvs) from a65 ok e
theorem a84 {kvs:List (Key×V)} (ok:HOk P w H h) (e:H a=some (.dK kvs)):kvs.length≤sizeLine∧(a == sysModules)=false∧∃ vs,KV kvs vs∧h.DictOf (Jr P w) a vs:=dh ok (.inl e)
theorem Vf {ks:List Key} (ok:HOk P w H h) (e:H a=some (.tup (ks.map kV))):(tupleKind (Jr P w)).is h ks a:=by
 obtain ⟨_,its,r,o,h1,h2,n,h3⟩:=(show ul P w H h a (.tup (ks.map kV)) from ok a _ e)
 exact ⟨o,its.toArray,n,h1,h2,h3,by simpa using vi r⟩
theorem di {kvs:List (List Key×V)} (ok:HOk P w H h) (e:Rd H a (.dT kvs)):kvs.length≤sizeLine∧(a == sysModules)=false ∧
  ∃ xs,KT H kvs xs∧h.DictOfH (tupleKind (Jr P w)) a xs:=by
 obtain ⟨z,y,xs,r,o,es,ep,h1,h2,h3,h4,h5⟩:=(show ul P w H h a (.dT kvs) from a65 ok e)
 refine ⟨z,y,xs,r,o,es,ep,h1,h2,h3,h4,fun x hx=>?_,h5⟩
 have all:∀ {l:List (List Key×V)} {m:List (List Key×Addr×Value)},KT H l m→∀ x∈m,(tupleKind (Jr P w)).is h x.1 x.2.1:=by
  intro l m q
  induction q with
  | nil=>intro x hx;exact nomatch hx
  | @cons p q ps qs hq t ih =>
   intro x hx
   rcases List.mem_cons.mp hx with e | hx
   ·subst e
    exact Vf ok (by rw [← hq.1];exact hq.2.1)
   ·exact ih x hx
 exact all r x hx
theorem ar5 {kvs:List (List Key×V)} (ok:HOk P w H h) (e:H a=some (.dT kvs)):kvs.length≤sizeLine∧(a == sysModules)=false ∧
  ∃ xs,KT H kvs xs∧h.DictOfH (tupleKind (Jr P w)) a xs:=di ok (.inl e)
end
noncomputable def Qm (H:Hp) (a:Addr) (y:V) (r:Option V):Prop :=
 (∃ kvs k,Rd H a (.dK kvs)∧y=kV k∧r=Y9 kvs k)∨∃ kvs k b,Rd H a (.dT kvs)∧y=.ref b∧H b=some (.tup (k.map kV))∧r=Y9 kvs k
noncomputable def A1 (H:Hp) (a:Addr) (y v:V) (H':Hp):Prop :=
 (∃ kvs k,H a=some (.dK kvs)∧y=kV k∧kvs.length < sizeLine∧H'=upd H a (.dK (Yy kvs k v))) ∨
 ∃ kvs k b,H a=some (.dT kvs)∧y=.ref b∧H b=some (.tup (k.map kV))∧kvs.length < sizeLine∧H'=upd H a (.dT (Yy kvs k v))
theorem Qm.k {H:Hp} {a:Addr} {kvs:List (Key×V)} {k:Key} (e:H a=some (.dK kvs)):Qm H a (kV k) (Y9 kvs k):=.inl ⟨kvs,k,.inl e,rfl,rfl⟩
theorem A1.k {H:Hp} {a:Addr} {kvs:List (Key×V)} {k:Key} {v:V} (e:H a=some (.dK kvs)) (hl:kvs.length < sizeLine):A1 H a (kV k) v (upd H a (.dK (Yy kvs k v))):=.inl ⟨kvs,k,e,rfl,hl,rfl⟩
section
variable {X:Cx} {pins:List (Addr×Obj)} {σ:St} {H:Hp} {s:Shared} {a:Addr} {y v:V} {u r:Value} {o:Option V} {A:Around} {E:Value→Shared→Prop}
theorem Inv.big (I:Inv X pins σ H s):sysModules < s.heap.objs.size:=by
 have h:mainGlobals < s.heap.objs.size:=(I.mod.glob.keeps I.bk).lt
 exact Nat.lt_trans (by decide) h
theorem cf {Q:Value→Shared→Prop} (hu:A.units + 1 < cLine) (I:Inv X pins σ H s) (g:Qm H a y (some v)) (ry:J3 y u) (h:∀ w' s',Inv X pins σ H s'→J3 v w'→Q w' s') :
  wpAny (model X.prog X.w) A (getItem (.ref a) u) Q E s:=by
 rcases g with ⟨kvs,k,e,ey,l⟩ | ⟨kvs,k,b,e,ey,eb,l⟩
 ·subst ey
  obtain ⟨z,hd,vs,rel,dd⟩:=dh I.hok e
  obtain ⟨w',hw,rw'⟩:=Zt.some_of (v:=v) (o:=valueAt vs k) (by rw [l];exact rel.val k)
  exact wpAny_getItem_of (Qe ry) dd.mapOf hw (h w' _ (I.tok _) rw')
 ·subst ey
  cases (show u=Value.ref b from ry)
  obtain ⟨z,hd,xs,rel,dd⟩:=di I.hok e
  obtain ⟨w',hw,rw'⟩:=Zt.some_of (v:=v) (o:=(atKey xs k).map (·.2)) (by rw [l];exact rel.val k)
  obtain ⟨p,hp,hp2⟩:=Option.map_eq_some_iff.mp hw
  refine wpAny_getItem_heap (tupleKind_room_in1 hu) (Vf I.hok eb) dd hp ?_
  rw [hp2]
  exact h w' _ (I.tok _) rw'
theorem a49 {Q:Value→Shared→Prop} (hu:A.units + 1 < cLine) (I:Inv X pins σ H s) (g:Qm H a y o) (ry:J3 y u) (h:∀ s',Inv X pins σ H s'→Q (.bool (!o.isSome)) s') :
  wpAny (model X.prog X.w) A (compareOp .NotIn u (.ref a)) Q E s:=by
 rcases g with ⟨kvs,k,e,ey,l⟩ | ⟨kvs,k,b,e,ey,eb,l⟩
 ·subst ey
  obtain ⟨z,hd,vs,rel,dd⟩:=dh I.hok e
  refine wpAny_notIn_of (Qe ry) hd dd.mapOf ?_
  rw [← (rel.val k).isSome_eq,← l]
  exact h _ (I.tok _)
 ·subst ey
  cases (show u=Value.ref b from ry)
  obtain ⟨z,hd,xs,rel,dd⟩:=di I.hok e
  refine wpAny_notIn_heap (tupleKind_room_in1 hu) (Vf I.hok eb) hd dd ?_
  have q:=(rel.val k).isSome_eq
  rw [Option.isSome_map] at q
  rw [← q,← l]
  exact h _ (I.tok _)
theorem K7 {h':Heap} {t':Nat} {ob:HO} (I:Inv X pins σ H s) (mu:Mut (H a)) (hs:Heap.SameBut a s.heap h') (he:∃ q,h'.get? a=some q) (new:ul X.prog X.w (upd H a ob) h' a ob) :
  Inv X pins σ (upd H a ob) { s with heap:=h',toks:=t'} :=
 I.write (x:=a) (e:=a) mu (.inl rfl) (fun b q hb z=>(hs.2 b hb).trans z) he new
theorem dk_new {P:Program} {w:World} {H':Hp} {h':Heap} {kvs:List (Key×V)} {vs:List (Key×Value)} (z:kvs.length≤sizeLine) (hd:(a == sysModules)=false) (rel:KV kvs vs) (dd:h'.DictOf (Jr P w) a vs) :
  ul P w H' h' a (.dK kvs):=⟨z,hd,vs,rel,dd⟩
theorem cg {H':Hp} {Q:Unit→Shared→Prop} (hu:A.units + 1 < cLine) (I:Inv X pins σ H s) (g:A1 H a y v H') (ry:J3 y u) (rv:J3 v r) (h:∀ s',Inv X pins σ H' s'→Q () s') :
  wpAny (model X.prog X.w) A (setItem (.ref a) u r) Q E s:=by
 rcases g with ⟨kvs,k,e,ey,l,eH⟩ | ⟨kvs,k,b,e,ey,eb,l,eH⟩
 ·subst ey eH
  obtain ⟨z,hd,vs,rel,dd⟩:=a84 I.hok e
  have hz:vs.length≤sizeLine:=by rw [← rel.length];exact z
  have hl:(Yy kvs k v).length≤sizeLine:=by have:=z7 kvs k v;omega
  refine wpAny_setItem_pairs (hsz:=hz) (Qe ry) dd fun h' dd' hs=>h _ ?_
  have he:∃ q,h'.get? a=some q:=let ⟨q,_,_,hq,_⟩:=dd';⟨q,hq⟩
  exact K7 I (by rw [e];exact True.intro) hs he (dk_new hl hd (rel.put k rv) dd')
 ·subst ey eH
  cases (show u=Value.ref b from ry)
  obtain ⟨z,hd,xs,rel,dd⟩:=ar5 I.hok e
  have hz:xs.length≤sizeLine:=by rw [← Paired.length rel];exact z
  have hl:(Yy kvs k v).length≤sizeLine:=by have:=z7 kvs k v;omega
  refine wpAny_setItem_heap (hsz:=hz) (tupleKind_room_in1 hu) (Vf I.hok eb) dd fun h' dd' hs=>h _ ?_
  obtain ⟨q,es,ep,hq,h2,h3,h4,_,h5⟩:=dd'
  refine K7 I (by rw [e];exact True.intro) hs ⟨q,hq⟩ ⟨hl,hd,_,(rel.put k eb rv).keeps fun c ys ec=>?_,q,es,ep,hq,h2,h3,h4,h5⟩
  rw [jw (ap2 ec e (fun z=>nomatch z))]
  exact ec
end
section
variable {X:Cx} {pins:List (Addr×Obj)} {σ:St} {H:Hp} {s:Shared} {a:Addr} {kvs:List (Key×V)} {k:Key} {u:Value} {A:Around} {E:Value→Shared→Prop}
end
noncomputable def a57 (i:Expr):Prop:=∀ ov iv,subscripted i false ov iv=operate [ov,iv] (getItem ov iv)
theorem Fa {prog:Program} {w:World} {A:Around} {E:Value→Shared→Prop} {s:Shared} {env:Env} {value slice:Expr} {pos:Pos} {T id:String} {Q:Value→Shared→Prop}
  (hl:typeLookup (.type T) "__getitem__"=pure (some (.builtin id))) (hs:a57 slice)
  (h:wpAny (model prog w) A (eval value env) (fun o s₁=>wpAny (model prog w) A (eval slice env) (fun i s₂=>s₂.TypeIs o T∧wpAny (model prog w) A (getItem o i) Q E s₂) E s₁) E s) :
  wpAny (model prog w) A (eval (.Subscript value slice pos) env) Q E s:=by
 refine Subscript_ (wpAny_mono h (fun o s₁ h₁=>wpAny_mono h₁ (fun i s₂ h₂=>?_) fun _ _ x=>x) fun _ _ x=>x)
 obtain ⟨hT,h₂⟩:=h₂
 unfold subscriptTail
 refine wpAny_bind ?_
 rw [getitemInPython_of_ne hT.not_modules]
 refine wpAny_bind (wpAny_specialOf hT hl ?_)
 have fin:wpAny (model prog w) A (subscripted slice false o i) (fun r s₃=>wpAny (model prog w) A (letTemporaryGo value o r >>= fun _=>pure r) Q E s₃) E s₂:=by
  rw [hs o i]
  exact wpAny_operating (wpAny_mono h₂ (fun r s₃ h₃=>wpAny_bind (wpAny_letTemporaryGo (wpAny_pure h₃))) fun _ _ x=>x)
 first
  | exact wpAny_pure (wpAny_bind fin)
  | exact wpAny_bind (wpAny_pure (wpAny_bind fin))
  | exact wpAny_bind fin
theorem Gu {X:Cx} {pins:List (Addr×Obj)} {σ:St} {H:Hp} {s:Shared} {a:Addr} {y:V} {o:Option V} (I:Inv X pins σ H s) (g:Qm H a y o):s.TypeIs (.ref a) "dict":=by
 rcases g with ⟨kvs,k,e,_,_⟩ | ⟨kvs,k,b,e,_,_,_⟩
 ·obtain ⟨_,_,vs,_,dd⟩:=dh I.hok e
  exact dd.typeIs
 ·obtain ⟨_,_,xs,_,dd⟩:=di I.hok e
  exact dd.typeIs
noncomputable def al9 (td ty:TE):TE:=fun σ H Q=>td σ H fun x H1=>ty σ H1 fun y H2=>∃ a v,x=.ref a∧Qm H2 a y (some v)∧Q v H2
noncomputable def A3 (ty td:TE):TE:=fun σ H Q=>ty σ H fun y H1=>td σ H1 fun x H2=>∃ a o,x=.ref a∧Qm H2 a y o∧Q (.bl (!o.isSome)) H2
noncomputable def am6 (td ty tv:TE):TS:=fun D σ H=>tv σ H fun v H1=>td σ H1 fun x H2=>ty σ H2 fun y H3=>∃ a H4,x=.ref a∧A1 H3 a y v H4∧D.nx σ H4
section
variable {X:Cx} {o i e value:Expr} {pos pos' tpos:Pos} {td ty tv:TE}
theorem Ac (hu:X.A.units + 1 < cLine) (ho:PE X o td) (hi:PE X i ty) (hs:a57 i):PE X (.Subscript o i pos) (al9 td ty):=by
 intro pins s σ H Q I h
 refine Fa PySem.F.slot_dict_getitem.lookup hs (thn (ho pins s σ H _ I h) fun u s1 ⟨x,H1,I1,rx,q1⟩=>thn (hi pins s1 σ H1 _ I1 q1) fun iv s2 ⟨y,H2,I2,ry,a,v,ex,g,q2⟩=>?_)
 subst ex
 obtain rfl:u=Value.ref a:=rx
 exact ⟨Gu I2 g,cf hu I2 g ry fun w' s3 I3 rw'=>⟨v,H2,I3,rw',q2⟩⟩
theorem Dk (hu:X.A.units + 1 < cLine) (hi:PE X i ty) (ho:PE X o td):PC X .NotIn i o (A3 ty td):=by
 intro pins s σ H Q I h
 refine thn (hi pins s σ H _ I h) fun iv s1 ⟨y,H1,I1,ry,q1⟩=>thn (ho pins s1 σ H1 _ I1 q1) fun u s2 ⟨x,H2,I2,rx,a,ov,ex,g,q2⟩=>?_
 subst ex
 obtain rfl:u=Value.ref a:=rx
 exact a49 hu I2 g ry fun s3 I3=>⟨.bl (!ov.isSome),H2,I3,rfl,q2⟩
theorem Ai (hu:X.A.units + 1 < cLine) (ho:PE X o td) (hi:PE X i ty) (hv:PE X value tv) (hs:swapsWith value (some (.Subscript o i pos')) pos.line X.env=pure false) :
  PS X (.Assign [.Subscript o i pos'] value pos) (am6 td ty tv):=by
 intro pins s σ H D I h
 refine wpAny_Assign_Subscript (thn (hv pins s σ H _ I h) fun r s1 ⟨v,H1,I1,rv,q1⟩=>thn (ho pins s1 σ H1 _ I1 q1) fun u s2 ⟨x,H2,I2,rx,q2⟩=>thn (hi pins s2 σ H2 _ I2 q2) fun iv s3 ⟨y,H3,I3,ry,a,H4,ex,g,q3⟩=>?_) hs
 subst ex
 obtain rfl:u=Value.ref a:=rx
 exact cg hu I3 g ry rv fun s4 I4=>⟨σ,H4,I4,q3⟩
end
theorem Gv {P:Program} {w:World} {H:Hp} (h:Heap) (hb:sysModules < h.objs.size):ul P w H (h.push { cls:=.type "dict",data:=.dict #[]}) h.objs.size (.dK []) :=
 ⟨Nat.zero_le _,beq_eq_false_iff_ne.mpr (Ne.symm (Nat.ne_of_lt hb)),[],.nil,Heap.DictOf.new h⟩
noncomputable def aa6:TE:=fun _ H Q=>∀ p,H p=none→Q (.ref p) (upd H p (.dK []))
section
variable {X:Cx} {pos:Pos}
theorem bd:PE X (.Dict [] [] pos) aa6:=fun pins s σ H Q I h =>
 wpAny_Dict_empty ⟨.ref s.heap.objs.size,_,I.laid (a:=s.heap.objs.size) (o:=.dK []) (t':=s.toks) (fun _ _ q=>Heap.get?_push_of_some _ q) (Nat.le_refl _) (Gv s.heap I.big),rfl,h _ (I.hok.fresh (Nat.le_refl _))⟩
end
noncomputable def V9:List (TE×TE)→St→Hp→(List (V×V)→Hp→Prop)→Prop
 | [],_,H,Q=>Q [] H
 | (tk,tv)::r,σ,H,Q=>tk σ H fun x H1=>tv σ H1 fun y H2=>V9 r σ H2 fun ps H3=>Q ((x,y)::ps) H3
noncomputable abbrev VV:List (V×V)→List (Value×Value)→Prop:=Paired fun p q=>J3 p.1 q.1∧J3 p.2 q.2
noncomputable def PPs (X:Cx) (pos:Pos) (keys:List (Option Expr)) (values:List Expr) (trs:List (TE×TE)):Prop :=
 ∀ (pins:List (Addr×Obj)) (s:Shared) (σ:St) (H:Hp) (Q:List (V×V)→Hp→Prop),Inv X pins σ H s→V9 trs σ H Q →
  wpAny (model X.prog X.w) X.A (evalPairs (pairTrees keys values X.env pos)) (fun vs s'=>∃ ps H',Inv X pins σ H' s'∧VV ps vs∧Q ps H') X.xe s
theorem Ah {X:Cx} {pos:Pos}:PPs X pos [] [] []:=fun pins s σ H Q I h=>pairTrees_nil_walk ⟨[],H,I,.nil,h⟩
theorem bp {X:Cx} {pos:Pos} {k v:Expr} {ks:List (Option Expr)} {vs:List Expr} {tk tv:TE} {trs:List (TE×TE)} (hk:PE X k tk) (hv:PE X v tv) (hr:PPs X pos ks vs trs) :
  PPs X pos (some k::ks) (v::vs) ((tk,tv)::trs):=fun pins s σ H Q I h =>
 pairTrees_cons_walk (thn (hk pins s σ H _ I h) fun u s1 ⟨x,H1,I1,rx,q1⟩=>thn (hv pins s1 σ H1 _ I1 q1) fun w2 s2 ⟨y,H2,I2,ry,q2⟩ =>
  thn (hr pins s2 σ H2 _ I2 q2) fun ws s3 ⟨ps,H3,I3,rel,q3⟩=>⟨(x,y)::ps,H3,I3,.cons ⟨rx,ry⟩ rel,q3⟩)
noncomputable def Yc (kvs more:List (Key×V)):List (Key×V):=more.foldl (fun acc kv=>Yy acc kv.1 kv.2) kvs
theorem KV.merge:∀ {more:List (Key×V)} {rs:List (Key×Value)} {kvs:List (Key×V)} {vs:List (Key×Value)},KV more rs→KV kvs vs→KV (Yc kvs more) (merged vs rs):=by
 intro more rs kvs vs r
 unfold KV at r
 induction r generalizing kvs vs with
 | nil=>intro q;exact q
 | @cons p q ps qs h t ih =>
  intro r0
  have e:KV (Yy kvs p.1 p.2) (stored vs q.1 q.2):=by
   have:=r0.put p.1 h.2
   rw [← h.1];exact this
  exact ih e
theorem Z1:∀ (more kvs:List (Key×V)),(Yc kvs more).length≤kvs.length + more.length
 | [],kvs=>by show kvs.length≤kvs.length + 0;omega
 | p::r,kvs=>by
  have h1:=Z1 r (Yy kvs p.1 p.2)
  have h2:=z7 kvs p.1 p.2
  show (Yc (Yy kvs p.1 p.2) r).length≤_
  rw [List.length_cons];omega
theorem Ws {P:Program} {w:World}:∀ {kvs:List (Key×V)} {ws:List (Value×Value)},VV (kvs.map fun kv=>(kV kv.1,kv.2)) ws→∃ rs,Carries (Jr P w) ws rs∧KV kvs rs
 | [],_,r=>by rw [List.map_nil] at r;cases r;exact ⟨[],True.intro,.nil⟩
 | p::kvs,_,r=>by
  rw [List.map_cons] at r
  cases r with
  | @cons a b as bs h t =>
   obtain ⟨rs,c,q⟩:=Ws (P:=P) (w:=w) t
   obtain ⟨b1,b2⟩:=b
   exact ⟨(p.1,b2)::rs,⟨Qe h.1,rfl,c⟩,.cons ⟨rfl,h.2⟩ q⟩
noncomputable def al8 (trs:List (TE×TE)):TE:=fun σ H Q=>∀ p,H p=none→V9 trs σ (upd H p (.dK [])) fun ps H2=>H2 p=some (.dK [])∧∃ kvs:List (Key×V),ps=kvs.map (fun kv=>(kV kv.1,kv.2))∧kvs.length≤15∧Q (.ref p) (upd H2 p (.dK (Yc [] kvs)))
theorem E4 {X:Cx} {pos:Pos} {keys:List (Option Expr)} {values:List Expr} {trs:List (TE×TE)} (h:PPs X pos keys values trs) (hall:keys.all (·.isSome)=true) (hl:keys.length=values.length) (h0:keys≠[])
  (h15:keys.length≤15):PE X (.Dict keys values pos) (al8 trs):=by
 intro pins s σ H Q I q
 have hn:=I.hok.fresh (Nat.le_refl s.heap.objs.size)
 have I1:=I.laid (a:=s.heap.objs.size) (o:=.dK []) (h':=s.heap.push { cls:=.type "dict",data:=.dict #[]}) (t':=s.toks) (fun _ _ q=>Heap.get?_push_of_some _ q) (Nat.le_refl _) (Gv s.heap I.big)
 refine wpAny_Dict_walk (knd:=Jr X.prog X.w) hall hl h0 h15 (thn (h pins _ σ _ _ I1 (q _ hn)) fun ws s2 ⟨ps,H2,I2,rel,e,kvs,ep,lk,q2⟩=>?_)
 subst ep
 obtain ⟨rs,c,rk⟩:=Ws (P:=X.prog) (w:=X.w) rel
 obtain ⟨z,hd,vs0,r0,dd⟩:=a84 I2.hok e
 cases r0
 refine ⟨rs,c,dd,fun h' dd' hs=>⟨.ref s.heap.objs.size,_,?_,rfl,q2⟩⟩
 have hz:(Yc [] kvs).length≤sizeLine:=by
  have h1:=Z1 kvs []
  rw [List.length_nil] at h1
  rw [sizeLine_eq];omega
 have he:∃ q,h'.get? s.heap.objs.size=some q:=let ⟨q,_,_,hq,_⟩:=dd';⟨q,hq⟩
 exact K7 I2 (by rw [e];exact True.intro) hs he (dk_new hz hd (rk.merge .nil) dd')
section
variable {X:Cx} {pins:List (Addr×Obj)} {σ:St} {H:Hp} {s:Shared} {a:Addr} {y d:V} {u r:Value} {o:Option V} {A:Around} {E:Value→Shared→Prop}
end
section
variable {X:Cx} {o e f:Expr} {apos cpos:Pos} {td ty tx:TE}
end
section
variable {X:Cx} {pins:List (Addr×Obj)} {σ:St} {H:Hp} {s:Shared} {a:Addr} {kvs:List (Key×V)} {A:Around} {E:Value→Shared→Prop}
end
section
variable {X:Cx} {pins:List (Addr×Obj)} {σ:St} {H:Hp} {s:Shared} {a:Addr} {y:V} {u:Value} {A:Around} {E:Value→Shared→Prop}
end
end L2
namespace Att
open PySem PySem.W PySem.Calls PyProof.Rows
theorem xw {P:Params} {h:Heap}:∀ (ns:List Int) (vs:List Value),WellAll P h vs (ns.map WData.int)→IntsAre vs ns:=by
 intro ns
 induction ns with
 | nil =>
  intro vs w
  rw [List.map_nil] at w
  cases w
  exact .nil
 | cons n ns ih =>
  intro vs w
  rw [List.map_cons] at w
  cases w with
  | cons a b =>
   cases a
   exact .cons _ _ (ih _ b)
theorem Ds {l:OpenLaw} {n:Nat} (hn:l.most=some n) {P:Params} {h:Heap} {args:List WData} {vals:List Value}
  (hpre:l.row.toRowW.claim.pre args=true) (hwl:WellAll P h vals args) :
  ∃ a vs ns,vals=[Value.ref a]∧args=[WData.list (ns.map WData.int)]∧h.get? a=some { cls:=.type "list",data:=.seq vs.toArray}∧IntsAre vs ns∧ns.length≤n:=by
 have hsh:WShape.hasAll [] args [.list .int]=true:=(pre_splitW hpre).1
 have hc:l.pre.holds [] { args:=args}=true:=(pre_splitW hpre).2
 obtain ⟨d,r,rfl,h1,h2⟩:=hasAllW_cons hsh
 obtain rfl:=hasAllW_nil h2
 obtain ⟨xs,rfl,h3⟩:=hasW_list h1
 obtain ⟨ns,rfl⟩:=items_int h3
 have hlen:ns.length≤n:=by
  unfold OpenLaw.pre at hc
  have h4:(WTm.not (.lt (.lit (.int (n:Int))) (.len (.arg 0)))).holds [] { args:=[.list (ns.map .int)]}=true:=by
   have h4:=(holds_andW hc).1
   rw [hn] at h4
   exact h4
  have h5:=condW_of h4 (w_not (w_lt w_lit (w_len_list (w_arg rfl))))
  rw [List.length_map] at h5
  refine Nat.le_of_not_lt fun q=>?_
  have q':(n:Int) < ((ns.length:Nat):Int):=by omega
  first
   | (rw [decide_eq_true q'] at h5;exact absurd h5 (by decide))
   | (simp at h5;omega)
 cases hwl with
 | cons w1 w2 =>
  cases w2
  cases w1 with
  | list ho hall=>exact ⟨_,_,ns,rfl,rfl,ho,xw ns _ hall,hlen⟩
theorem Do (l:OpenLaw) (args:List WData):l.row.toRowW.claim.post args (.bool true) args=true :=
 postW_of (r:=l.row.toRowW) (X:=(true == true))
  (show WShape.has [] (.bool true) .bool=true by first | rfl | decide | simp [WShape.has,WShape.arms,WShape.armsAll])
  (show (WTm.eq .res (.lit (.bool true))).value [] { args:=args,res:=some (.bool true),after:=args}=some (.bool (true == true)) from w_eq_bool (w_res rfl) w_lit) rfl
theorem attach_call {l:OpenLaw} {n:Nat} {q:Program} {loose:List Str} {XP:(Str→Option Value)→Heap→Prop} {YP:World→Heap→Prop} {d:DefRec}
  (hn:l.most=some n) (hdf:d.params.defaults=[])
  (call:∀ (w:World) (s₀ s₁:Shared) (mg mb:Str→Option Value) (fa:Addr) (o:Obj) (pm cd doc:Value) (a:Addr) (vs:List Value) (ns:List Int),
   Ground q loose [] XP w s₀ mg mb s₁.heap→YP w s₁.heap →
   s₁.heap.get? fa=some o→o.data=.func (docDef d.name d.params d.body d.scope pm cd doc)→s₁.heap.CodeRec cd d.name→mg d.name=some (.ref fa) →
   s₁.heap.get? a=some { cls:=.type "list",data:=.seq vs.toArray}→IntsAre vs ns→ns.length≤n→s₁.gens= #[] →
   codeAny (model l.prog w) callerA (.call (.ref fa) ⟨[.ref a],[]⟩) (fun r s'=>r=.ok (.ret (.bool true))∧OldK s₁.heap s'.heap∧s'.os=s₁.os∧AllBare s'.gens) s₁) :
  WalkO q loose XP YP l.row.toRowW d [] (fun f vs=>PySem.call f vs):=by
 intro w s₀ s₁ mg mb G Y fa o pm cd doc dV kV ho hd hcd hD hmg hg args vals as hpre hlay hrd hwl hlo
 obtain rfl:dV=.none:=Dflts.none hD hdf
 obtain rfl:kV=.none:=Dflts.noKw hD
 obtain ⟨a,vs,ns,rfl,rfl,hobj,hints,hlen⟩:=Ds hn hpre hwl
 refine enter_call (codeAny_mono (call w s₀ s₁ mg mb fa o pm cd doc a vs ns G Y ho (fd_plain hd) hcd hmg hobj hints hlen hg) fun r s' hq=>?_)
 obtain ⟨rfl,h2,h3,h4⟩:=hq
 exact ⟨.inl ⟨.bool true,.bool true,[],rfl,fun _=>rfl,.bool true,Do l _,fun _=>⟨List.Pairwise.nil,fun _ hm=>(nomatch hm)⟩⟩,h2,h3,h4⟩
section
variable {prog:Program} {w:World} {A:Around} {E:Value→Shared→Prop} {s:Shared} {K:Frag}
end
end Att
namespace L2
open PySem PySem.Spec PyProof.Rows
theorem Wb:∀ {vs:List Value} {ns:List Int},IntsAre vs ns→J7 (ns.map V.int) vs
 | _,_,.nil=>.nil
 | _,_,.cons n t h=>.cons ⟨t,rfl⟩ (Wb h)
noncomputable def aj9 (H:Hp):Prop:=∀ b,H b=none∨∃ o xs,H b=some (.frz o (.lst xs))
theorem Be {P:Program} {w:World} {K:PySem.W.Frag} {mg mb:Str→Option Value} {CX:CXT} {k:Nat} {fa a:Addr} {fd:FuncData} {x:Str} {sp:Sp} {s₁:Shared} {vs:List Value} {ns:List Int}
  (KX:K.In s₁.heap) (hns:s₁.heap.Ns mainGlobals mg) (hb:s₁.heap.Ns builtinsNs mb) (hbb:∀ x:Str,x≠"__name__"→mb x=bootBuiltins x) (hlim:s₁.heap.NoLimit) (hg:s₁.gens= #[])
  (ha:s₁.heap.get? a=some { cls:=.type "list",data:=.seq vs.toArray}) (hi:IntsAre vs ns) (hl:ns.length≤sizeLine) (hr:Room k callerA)
  (F:∀ base:Heap,K.In base→base.Ns mainGlobals mg→FnOk P w K mg base CX k fa fd [x] sp) (hbind:∀ (s:Shared) (u:Value),BindsTo s fd ⟨[u],[]⟩ [(x,u)])
  (hsp:∀ H:Hp,aj9 H→SqL K H a (ns.map V.int)→sp [.ref a] H (fun v _=>v=.bl true) fun _ _ _=>False)
  (hCX:∀ H e s',CX [] H s₁ (fun _ _ _=>False) e s'→False) :
  codeAny (model P w) callerA (.call (.ref fa) ⟨[.ref a],[]⟩) (fun r s'=>r=.ok (.ret (.bool true))∧OldK s₁.heap s'.heap∧s'.os=s₁.os∧AllBare s'.gens) s₁:=by
 have rv:=Wb hi
 have lenV:=hi.length
 have core:∀ H:Hp,aj9 H→SqL K H a (ns.map V.int)→HOk P w H s₁.heap→(∀ b,H b≠none→b=a)→(H a≠none→K.lookup a=none) →
   codeAny (model P w) callerA (.call (.ref fa) ⟨[.ref a],[]⟩) (fun r s'=>r=.ok (.ret (.bool true))∧OldK s₁.heap s'.heap∧s'.os=s₁.os∧AllBare s'.gens) s₁:=by
  intro H hO hS hok hA hK
  have base_of:∀ {b:Addr} {o:Obj},s₁.heap.get? b=some o→H b=none→(Vc s₁.heap H).get? b=some o:=fun e n=>ax e n
  have noA:∀ {b:Addr} {o:Obj} {es:Array DictEntry} {ep:Nat},s₁.heap.get? b=some o→o.data=.dict es ep→H b=none:=fun {b o es ep} e d=>by
   cases q:H b with
   | none=>rfl
   | some u =>
    have e':b=a:=hA b (by rw [q];simp)
    subst e'
    rw [ha] at e;cases e
    have d':Data.seq vs.toArray _=Data.dict es ep:=d
    cases d'
  have nsK:∀ {b:Addr} {m:Str→Option Value},s₁.heap.Ns b m→(Vc s₁.heap H).Ns b m:=fun {b m} ⟨o,es,ep,e,d,r⟩=>⟨o,es,ep,base_of e (noA e d),d,r⟩
  have hKb:K.In (Vc s₁.heap H):=fun b o e=>base_of (KX b o e) (by
   cases q:H b with
   | none=>rfl
   | some u =>
    have e':b=a:=hA b (by rw [q];simp)
    subst e'
    rw [hK (by rw [q];simp)] at e;cases e)
  have hM:Mod K mg (Vc s₁.heap H):=⟨hKb,nsK hns,⟨mb,nsK hb,hbb⟩,let ⟨mc,h1,h2⟩:=hlim;⟨mc,nsK h1,h2⟩⟩
  have e0:Env0 P w K mg (Vc s₁.heap H) callerA [] s₁ H:=⟨rfl,hM,fun b o e=>a15 e,Nat.le_of_eq (cw _ _),trivial,fun b hb=>absurd (show b∈([]:List Addr) from hb) (by simp),hok,.of_eq hg⟩
  refine codeAny_mono ((F _ hKb (nsK hns)).run callerA [] s₁ H ⟨[.ref a],[]⟩ [.ref a] [.ref a] _ _ hr e0 (hbind s₁ (.ref a)) (.cons rfl .nil) (hsp H hO hS)) fun r s' h=>?_
  cases r with
  | error e=>exact (hCX H e s' h).elim
  | ok fl =>
   cases fl with
   | next=>exact False.elim h
   | brk=>exact False.elim h
   | cont=>exact False.elim h
   | ret u =>
    obtain ⟨v,H',os,bare,un,hok',r',q⟩:=h
    have q':v=.bl true:=q
    subst q'
    obtain rfl:u=Value.bool true:=r'
    refine ⟨rfl,OldK.of_keep fun b o e=>?_,os,bare⟩
    cases q:H b with
    | none=>exact un.keep b o e q (by intro z;exact absurd (show b∈([]:List Addr) from z) (by simp)) (by simp)
    | some u =>
     rcases hO b with z | ⟨ob,xs,z⟩
     ·rw [q] at z;cases z
     ·have z2:=un.frzs b ob _ z
      obtain ⟨e1,_⟩:=hok b _ z
      obtain ⟨e2,_⟩:=hok' b _ z2
      rw [e] at e1;cases e1
      exact e2
 cases hk:K.lookup a with
 | some o =>
  have e:=KX a o hk
  rw [ha] at e
  cases e
  refine core (fun _=>none) (fun _=>.inl rfl) (.inr ⟨_,vs.toArray,_,hk,rfl,rfl,rfl,by rw [List.size_toArray,lenV];exact hl,by simpa using rv⟩) (fun b u z=>by have z':(none:Option HO)=some u:=z;cases z') (fun b z=>absurd rfl z) fun z=>absurd rfl z
 | none =>
  refine core (fun b=>if b=a then some (.frz { cls:=.type "list",data:=.seq vs.toArray} (.lst (ns.map V.int))) else none) (fun b=>?_) (.inl (.inr ⟨{ cls:=.type "list",data:=.seq vs.toArray},if_pos rfl⟩)) (fun b u z=>?_) (fun b z=>?_) fun _=>hk
  ·by_cases hb:b=a
   ·exact .inr ⟨_,_,if_pos hb⟩
   ·exact .inl (if_neg hb)
  ·by_cases hb:b=a
   ·have z':=(if_pos hb).symm.trans z
    cases z'
    subst hb
    exact ⟨ha,by rw [List.length_map];exact hl,vs,_,rv,ha⟩
   ·have z':=(if_neg hb).symm.trans z
    cases z'
  ·by_cases hb:b=a
   ·exact hb
   ·exact absurd (if_neg hb) z
end L2
namespace L2
open PySem PySem.Spec PyProof.Rows
theorem walk_of {l:PySem.W.OpenLaw} {n k:Nat} {q:Program} {loose:List Str} {XP:(Str→Option Value)→Heap→Prop} {YP:World→Heap→Prop} {d:DefRec} {K:Params→PySem.W.Frag} {CX:World→CXT} {sp:World→Sp} {x:Str}
  (hn:l.most=some n) (hn2:n≤sizeLine) (hdf:d.params.defaults=[]) (hr:Room k callerA)
  (hY:∀ (w:World) (h:Heap),YP w h→(K w.params).In h)
  (F:∀ (w:World) (mg:Str→Option Value) (fa:Addr) (h:Heap),(K w.params).In h→h.Ns mainGlobals mg→mg d.name=some (.ref fa) →
   ∃ fd:FuncData,(∀ (s:Shared) (u:Value),BindsTo s fd ⟨[u],[]⟩ [(x,u)]) ∧
    ∀ base:Heap,(K w.params).In base→base.Ns mainGlobals mg→FnOk l.prog w (K w.params) mg base (CX w) k fa fd [x] (sp w))
  (hsp:∀ (w:World) (H:Hp) (a:Addr) (ns:List Int),ns.length≤n→aj9 H→SqL (K w.params) H a (ns.map V.int)→sp w [.ref a] H (fun v _=>v=.bl true) fun _ _ _=>False)
  (hCX:∀ (w:World) (H:Hp) (s:Shared) (e:Value) (s':Shared),CX w [] H s (fun _ _ _=>False) e s'→False) :
  PySem.W.WalkO q loose XP YP l.row.toRowW d [] (fun f vs=>PySem.call f vs):=by
 refine Att.attach_call hn hdf fun w s₀ s₁ mg mb fa o pm cd doc a vs ns G Y ho hd hcd hmg hobj hints hlen hg=>?_
 have KX:=hY w _ Y
 obtain ⟨fd,hb,hF⟩:=F w mg fa _ KX G.T.g hmg
 exact Be KX G.T.g G.T.b G.T.builtins G.T.nolimit hg hobj hints (Nat.le_trans hlen hn2) hr hF hb (fun H hO hS=>hsp w H a ns hlen hO hS) fun H e s'=>hCX w H s₁ e s'
end L2
namespace L2
open PySem PySem.Spec PyProof.Rows
noncomputable def defArgs (s:Stmt):Arguments:=match s with
 | .FunctionDef _ a _ _ _ _ _ _ _ _=>a
 | _=>{ posonlyargs:=[],args:=[],vararg:=none,kwonlyargs:=[],kw_defaults:=[],kwarg:=none,defaults:=[]}
noncomputable def defBody (s:Stmt):List Stmt:=match s with
 | .FunctionDef _ _ b _ _ _ _ _ _ _=>b
 | _=>[]
noncomputable def defScope (s:Stmt):Scope:=match s with
 | .FunctionDef _ _ _ _ _ _ sc _ _ _=>sc
 | _=>{ kind:=.function,names:=[],isGenerator:=false,isCoroutine:=false}
noncomputable abbrev CX0:CXT:=fun _ _ _ _ _ _=>False
noncomputable abbrev E0:XK:=fun _ _ _=>False
theorem a67 {X:Cx}:yu CX0 X E0:=fun _ _ _ _ _ _ _ h=>h.elim
structure Fun (K:PySem.W.Frag) (x qual:Str) (st:Stmt) (f:Addr) (fd:FuncData):Prop where
 ex:∃ (oc:Value) (od:Option Addr) (kV doc pm:Value) (an:Option Addr) (cdv ct:Value) (osl:Array (Option Value)),
  fd=PySem.W.fnOf x qual (defArgs st) (defBody st) (defScope st) .none kV doc pm an cdv ct∧K.lookup f=some ⟨oc,od,.func fd,osl⟩∧PySem.W.codeIn K cdv qual=true
 kp:PySem.W.keepIn K (.ref f)=true
section
variable {P:Program} {w:World} {K:PySem.W.Frag} {mg:Str→Option Value} {base:Heap}
theorem Fun.ok {x qual:Str} {st:Stmt} {f:Addr} {fd:FuncData} {N ps:List Str} {k:Nat} {sp:Sp} (F:Fun K x qual st f fd) (S:FnScope N ps (defScope st)) (len:∀ vs H Q E,sp vs H Q E→vs.length=ps.length)
  (hbody:∀ (cdv:Value) (A:Around) (outer:List Env) (s:Shared) (H:Hp) (vs:List V) (Q:VK) (E:XK),Room k (A.deeper (envOfC qual (defScope st) s.heap.objs.size f cdv))→sp vs H Q E →
   ∃ t,PSs (ub CX0 P w K mg base N qual (defScope st) f cdv A outer s H E).nox (defBody st) t∧t { nx:=fun _ H'=>Q .non H',rt:=Q} (start N vs) H):FnOk P w K mg base CX0 (k + 1) f fd ps sp:=by
 obtain ⟨oc,od,kV,doc,pm,an,cdv,ct,osl,rfl,lk,hcd⟩:=F.ex
 refine a83 lk hcd S len fun A outer s H vs Q E hr hsp=>?_
 obtain ⟨t,h,q⟩:=hbody cdv A outer s H vs Q E hr hsp
 exact ⟨t,h.nox,q⟩
theorem ar {x qual:Str} {st:Stmt} {f:Addr} {oc:Value} {od an:Option Addr} {osl:Array (Option Value)} {kV doc pm cdv ct:Value} (l:K.lookup f=some ⟨oc,od,.func (PySem.W.fnOf x qual (defArgs st) (defBody st) (defScope st) .none kV doc pm an cdv ct),osl⟩)
  (c:PySem.W.codeIn K cdv qual=true) (k:PySem.W.keepIn K (.ref f)=true):Fun K x qual st f (PySem.W.fnOf x qual (defArgs st) (defBody st) (defScope st) .none kV doc pm an cdv ct):=⟨⟨oc,od,kV,doc,pm,an,cdv,ct,osl,rfl,l,c⟩,k⟩
end
section
variable {X:Cx}
theorem pv (i:Nat) {x:Str} {pos:Pos} (hN:X.N[i]? =some x:=by rfl) (hv:Vis X.env.scope x:=by first | exact Or.inl rfl | exact Or.inr (Or.inl rfl) | exact Or.inr (Or.inr rfl)) (hd:(x == ("__debug__":Str))=false:=by decide)
  (hcd:(x == ("__classdict__":Str))=false:=by decide):PE X (.Name x pos) (aa5 i):=bn hN hv hd hcd
end
noncomputable def J4 (H H':Hp):Prop:=∀ b o,H b=some o→H' b=some o
theorem J4.refl (H:Hp):J4 H H:=fun _ _ h=>h
theorem J4.trans {H H1 H2:Hp} (a:J4 H H1) (b:J4 H1 H2):J4 H H2:=fun c o h=>b c o (a c o h)
theorem J4.seq {K:PySem.W.Frag} {H H':Hp} {a:Addr} {xs:List V} (e:J4 H H') (h:SqL K H a xs):SqL K H' a xs:=by
 rcases h with (h | ⟨o,h⟩) | h
 ·exact .inl (.inl (e _ _ h))
 ·exact .inl (.inr ⟨o,e _ _ h⟩)
 ·exact .inr h
end L2
set_option Elab.async false
set_option linter.all false
set_option maxRecDepth 100000
set_option maxHeartbeats 4000000
namespace M
open PySem PySem.Spec PyProof.Rows L2
noncomputable abbrev DK:=Sum Int (List Nat)
inductive D where
 | non | bl (b:Bool) | int (i:Int) | str (x:List Nat) | tup (xs:List D) | lst (xs:List D) | dic (ks:List DK) (vs:List D) | ref (k:Nat)
noncomputable def dk:DK→Key
 | .inl i=>.inl i
 | .inr x=>.inr ⟨x.toArray⟩
inductive Cell where
 | lst (ds:List D) | dic (ks:List DK) (vs:List D) | dead
 | exz (c:Str) | exn (c:Str) (j:Nat) | xdc (nm:Str) (d:D) | obj (c:Str) (ns:List Str) (ds:List D)
noncomputable abbrev Mu:=List Cell
structure Exc where
 c:Nat
 d:D
inductive Res (α:Type) where
 | ok (a:α) (μ:Mu)
 | exc (x:Exc) (μ:Mu)
 | bad
noncomputable def Res.bind {α β:Type}:Res α→(α→Mu→Res β)→Res β
 | .ok a μ,f=>f a μ
 | .exc x μ,_=>.exc x μ
 | .bad,_=>.bad
noncomputable def ofO {α:Type} (μ:Mu):Option α→Res α
 | some a=>.ok a μ
 | none=>.bad
@[simp] theorem bind_ok {α β:Type} (a:α) (μ:Mu) (f:α→Mu→Res β):(Res.ok a μ).bind f=f a μ:=rfl
@[simp] theorem bind_exc {α β:Type} (x:Exc) (μ:Mu) (f:α→Mu→Res β):(Res.exc x μ:Res α).bind f=.exc x μ:=rfl
@[simp] theorem bind_bad {α β:Type} (f:α→Mu→Res β):(Res.bad:Res α).bind f=.bad:=rfl
@[simp] theorem ofO_some {α:Type} (μ:Mu) (a:α):ofO μ (some a)=.ok a μ:=rfl
@[simp] theorem ofO_none {α:Type} (μ:Mu):ofO μ (none:Option α)=.bad:=rfl
noncomputable def j9 (μ:Mu):D→D
 | .ref k=>match μ[k]? with
  | some (.lst ds)=>.lst ds
  | some (.dic ks vs)=>.dic ks vs
  | _=>.ref k
 | d=>d
@[simp] theorem deref_non (μ:Mu):j9 μ .non=.non:=rfl
@[simp] theorem deref_bl (μ:Mu) (b:Bool):j9 μ (.bl b)=.bl b:=rfl
@[simp] theorem deref_int (μ:Mu) (i:Int):j9 μ (.int i)=.int i:=rfl
@[simp] theorem deref_str (μ:Mu) (x:List Nat):j9 μ (.str x)=.str x:=rfl
@[simp] theorem deref_tup (μ:Mu) (x:List D):j9 μ (.tup x)=.tup x:=rfl
@[simp] theorem deref_lst (μ:Mu) (x:List D):j9 μ (.lst x)=.lst x:=rfl
@[simp] theorem deref_dic (μ:Mu) (x:List DK) (y:List D):j9 μ (.dic x y)=.dic x y:=rfl
noncomputable abbrev En:=List (Option D)
noncomputable abbrev MX:=En→Mu→Res D
noncomputable abbrev MB:=En→Mu→Res Bool
noncomputable abbrev MAs:=En→Mu→Res (List D)
inductive Out where
 | nx (ρ:En) | rt (d:D) | bk (ρ:En) | ct (ρ:En)
noncomputable abbrev MSt:=En→Mu→Res Out
mutual
noncomputable def Rep (K:PySem.W.Frag) (F:Hp) (α:List Addr):D→V→Prop
 | .non,v=>v=.non
 | .bl b,v=>v=.bl b
 | .int i,v=>v=.int i
 | .str x,v=>v=.str ⟨x.toArray⟩
 | .tup ds,v=>∃ a vs,v=.ref a∧SqT K F a vs∧Reps K F α ds vs
 | .lst ds,v=>∃ a vs,v=.ref a∧SqL K F a vs∧Reps K F α ds vs
 | .dic ks ds,v=>∃ a vs,v=.ref a∧F a=some (.dK ((ks.map dk).zip vs))∧ks.length=ds.length∧Reps K F α ds vs
 | .ref k,v=>∃ a,α[k]? =some a∧v=.ref a
noncomputable def Reps (K:PySem.W.Frag) (F:Hp) (α:List Addr):List D→List V→Prop
 | [],vs=>vs=[]
 | d::ds,vs=>∃ v r,vs=v::r∧Rep K F α d v∧Reps K F α ds r
end
structure Ext (α:List Addr) (F:Hp) (α':List Addr) (F':Hp):Prop where
 fr:J4 F F'
 al:∀ (k:Nat) (a:Addr),α[k]? =some a→α'[k]? =some a
theorem Ext.refl (α:List Addr) (F:Hp):Ext α F α F:=⟨J4.refl F,fun _ _ h=>h⟩
theorem Ext.trans {α α1 α2:List Addr} {F F1 F2:Hp} (a:Ext α F α1 F1) (b:Ext α1 F1 α2 F2):Ext α F α2 F2:=⟨a.fr.trans b.fr,fun k x h=>b.al k x (a.al k x h)⟩
theorem J4.tup {K:PySem.W.Frag} {H H':Hp} {a:Addr} {xs:List V} (e:J4 H H') (h:SqT K H a xs):SqT K H' a xs:=by
 rcases h with (h | ⟨o,h⟩) | h
 ·exact .inl (.inl (e _ _ h))
 ·exact .inl (.inr ⟨o,e _ _ h⟩)
 ·exact .inr h
section
variable {K:PySem.W.Frag} {F F' H H':Hp} {α α':List Addr}
mutual
theorem Rep.mono (e:Ext α F α' F'):∀ {d:D} {v:V},Rep K F α d v→Rep K F' α' d v
 | .non,_,h=>h
 | .bl _,_,h=>h
 | .int _,_,h=>h
 | .str _,_,h=>h
 | .tup ds,v,h=>by
  unfold Rep at h ⊢
  obtain ⟨a,vs,hv,hs,hr⟩:=h
  exact ⟨a,vs,hv,J4.tup e.fr hs,Reps.mono e hr⟩
 | .lst ds,v,h=>by
  unfold Rep at h ⊢
  obtain ⟨a,vs,hv,hs,hr⟩:=h
  exact ⟨a,vs,hv,e.fr.seq hs,Reps.mono e hr⟩
 | .dic ks ds,v,h=>by
  unfold Rep at h ⊢
  obtain ⟨a,vs,hv,hs,hl,hr⟩:=h
  exact ⟨a,vs,hv,e.fr _ _ hs,hl,Reps.mono e hr⟩
 | .ref k,v,h=>by
  unfold Rep at h ⊢
  obtain ⟨a,ha,hv⟩:=h
  exact ⟨a,e.al k a ha,hv⟩
theorem Reps.mono (e:Ext α F α' F'):∀ {ds:List D} {vs:List V},Reps K F α ds vs→Reps K F' α' ds vs
 | [],_,h=>h
 | d::ds,vs,h=>by
  unfold Reps at h ⊢
  obtain ⟨v,r,hv,h1,h2⟩:=h
  exact ⟨v,r,hv,Rep.mono e h1,Reps.mono e h2⟩
end
theorem Reps.length:∀ {ds:List D} {vs:List V},Reps K F α ds vs→ds.length=vs.length
 | [],vs,h=>by unfold Reps at h;subst h;rfl
 | d::ds,vs,h=>by
  unfold Reps at h
  obtain ⟨v,r,hv,_,h2⟩:=h
  subst hv
  simp [Reps.length h2]
theorem Reps.get:∀ {ds:List D} {vs:List V} {i:Nat} {d:D},Reps K F α ds vs→ds[i]? =some d→∃ v,vs[i]? =some v∧Rep K F α d v
 | [],_,_,_,_,e=>by simp at e
 | d::ds,vs,0,d',h,e=>by
  unfold Reps at h
  obtain ⟨v,r,hv,h1,_⟩:=h
  subst hv
  simp at e
  subst e
  exact ⟨v,rfl,h1⟩
 | d::ds,vs,i + 1,d',h,e=>by
  unfold Reps at h
  obtain ⟨v,r,hv,_,h2⟩:=h
  subst hv
  obtain ⟨u,hu,hr⟩:=Reps.get (i:=i) (d:=d') h2 (by simpa using e)
  exact ⟨u,by simpa using hu,hr⟩
theorem Reps.append:∀ {ds es:List D} {vs us:List V},Reps K F α ds vs→Reps K F α es us→Reps K F α (ds++es) (vs++us)
 | [],_,_,_,h,h'=>by unfold Reps at h;subst h;exact h'
 | d::ds,es,vs,us,h,h'=>by
  unfold Reps at h
  obtain ⟨v,r,hv,h1,h2⟩:=h
  subst hv
  show Reps K F α (d::(ds++es)) (v::(r++us))
  unfold Reps
  exact ⟨v,_,rfl,h1,Reps.append h2 h'⟩
theorem jo:Reps K F α [] []:=by unfold Reps;rfl
theorem j6 {d:D} {ds:List D} {v:V} {vs:List V} (h:Rep K F α d v) (h':Reps K F α ds vs):Reps K F α (d::ds) (v::vs):=by unfold Reps;exact ⟨v,vs,rfl,h,h'⟩
theorem Reps.take:∀ {ds:List D} {vs:List V} (n:Nat),Reps K F α ds vs→Reps K F α (ds.take n) (vs.take n)
 | _,_,0,_=>by simp;exact jo
 | [],vs,n + 1,h=>by unfold Reps at h;subst h;exact jo
 | d::ds,vs,n + 1,h=>by
  unfold Reps at h
  obtain ⟨v,r,hv,h1,h2⟩:=h
  subst hv
  simp only [List.take_succ_cons]
  exact j6 h1 (Reps.take n h2)
theorem Reps.drop:∀ {ds:List D} {vs:List V} (n:Nat),Reps K F α ds vs→Reps K F α (ds.drop n) (vs.drop n)
 | _,_,0,h=>h
 | [],vs,n + 1,h=>by unfold Reps at h;subst h;exact jo
 | d::ds,vs,n + 1,h=>by
  unfold Reps at h
  obtain ⟨v,r,hv,h1,h2⟩:=h
  subst hv
  exact Reps.drop n h2
end
noncomputable def cA (K:PySem.W.Frag) (x:Str):Addr:=match PySem.W.nsIn K mainGlobals x with
 | some (some (.ref C))=>C
 | _=>0
theorem uy {K:PySem.W.Frag} {x:Str} {C:Addr} (h:PySem.W.nsIn K mainGlobals x=some (some (.ref C))):cA K x=C:=by unfold cA;rw [h]
noncomputable def U9 (a:Addr) (C:Value) (dx:Option Addr):Heap→Prop:=fun h=>∃ vs sl,h.get? a=some ⟨C,dx,.fields vs,sl⟩
noncomputable def Uh (K:PySem.W.Frag) (α:List Addr) (F H:Hp) (a:Addr):Cell→Prop
 | .lst ds=>F a=none∧∃ vs,H a=some (.lst vs)∧Reps K F α ds vs
 | .dic ks ds=>F a=none∧∃ vs,H a=some (.dK ((ks.map dk).zip vs))∧ks.length=ds.length∧Reps K F α ds vs
 | .dead=>True
 | .exn C j=>F a=none∧∃ dx,α[j]? =some dx∧H a=some (.ext (U9 a (.ref (cA K C)) (some dx)))
 | .exz C=>F a=none∧H a=some (.ext (U9 a (.ref (cA K C)) none))
 | .xdc nm d=>F a=none∧∃ v,H a=some (.xd [(nm,v)])∧Rep K F α d v
 | .obj C ns ds=>F a=none∧∃ dx vs,H a=some (.ins (cA K C) dx (ns.zip vs))∧ns.length=ds.length∧Reps K F α ds vs
theorem Uh.live {K:PySem.W.Frag} {α:List Addr} {F H:Hp} {a:Addr} {c:Cell} (h:Uh K α F H a c) (hd:c≠.dead):F a=none∧∃ o,H a=some o:=by
 cases c with
 | dead=>exact absurd rfl hd
 | lst ds=>exact ⟨h.1,let ⟨_,_,z,_⟩:=h;⟨_,z⟩⟩
 | dic ks ds=>exact ⟨h.1,let ⟨_,_,z,_⟩:=h;⟨_,z⟩⟩
 | exn C j=>exact ⟨h.1,let ⟨_,_,_,z⟩:=h;⟨_,z⟩⟩
 | exz C=>exact ⟨h.1,_,h.2⟩
 | xdc nm d=>exact ⟨h.1,let ⟨_,_,z,_⟩:=h;⟨_,z⟩⟩
 | obj C ns ds=>exact ⟨h.1,let ⟨_,_,_,z,_⟩:=h;⟨_,z⟩⟩
theorem Uh.go {K:PySem.W.Frag} {α α':List Addr} {F H F' H':Hp} {a:Addr} {c:Cell} (h:Uh K α F H a c) (e:Ext α F α' F') (hf:c≠.dead→F' a=F a) (hh:c≠.dead→H' a=H a):Uh K α' F' H' a c:=by
 cases c with
 | dead=>trivial
 | lst ds=>obtain ⟨h1,vs,h2,h3⟩:=h;exact ⟨by rw [hf (by simp)];exact h1,vs,by rw [hh (by simp)];exact h2,h3.mono e⟩
 | dic ks ds=>obtain ⟨h1,vs,h2,hl,h3⟩:=h;exact ⟨by rw [hf (by simp)];exact h1,vs,by rw [hh (by simp)];exact h2,hl,h3.mono e⟩
 | exn C j=>obtain ⟨h1,dx,h2,h3⟩:=h;exact ⟨by rw [hf (by simp)];exact h1,dx,e.al _ _ h2,by rw [hh (by simp)];exact h3⟩
 | exz C=>obtain ⟨h1,h2⟩:=h;exact ⟨by rw [hf (by simp)];exact h1,by rw [hh (by simp)];exact h2⟩
 | xdc nm d=>obtain ⟨h1,v,h2,h3⟩:=h;exact ⟨by rw [hf (by simp)];exact h1,v,by rw [hh (by simp)];exact h2,h3.mono e⟩
 | obj C ns ds=>obtain ⟨h1,dx,vs,h2,hl,h3⟩:=h;exact ⟨by rw [hf (by simp)];exact h1,dx,vs,by rw [hh (by simp)];exact h2,hl,h3.mono e⟩
structure ZS where
 z:Hp
 a0:List Addr
 f0:Hp
noncomputable def ZS.up (Z:ZS) (p:Addr) (o:HO):ZS:={ Z with z:=upd Z.z p o}
theorem Uq {Z:ZS} {p b:Addr} {o:HO} (h:b≠p):(Z.up p o).z b=Z.z b:=jw h
theorem uo {Z:ZS} {p:Addr} {o:HO}:(Z.up p o).z p=some o:=jt
structure RH (K:PySem.W.Frag) (Z:ZS) (α:List Addr) (F H:Hp) (μ:Mu):Prop where
 sub:J4 F H
 len:α.length=μ.length
 cell:∀ (k:Nat) (a:Addr) (c:Cell),α[k]? =some a→μ[k]? =some c→Uh K α F H a c
 zs:J4 Z.z H
 zf:∀ (a:Addr) (o:HO),Z.z a=some o→F a=none
 zc:∀ (k:Nat) (a:Addr) (c:Cell),α[k]? =some a→μ[k]? =some c→c≠.dead→Z.z a=none
 dis:∀ (j k:Nat) (a:Addr) (c c':Cell),α[j]? =some a→α[k]? =some a→μ[j]? =some c→μ[k]? =some c'→c≠.dead→c'≠.dead→j=k
 ext:Ext Z.a0 Z.f0 α F
structure RS (K:PySem.W.Frag) (Z:ZS) (α:List Addr) (F H:Hp) (σ:L2.St) (ρ:En) (μ:Mu):Prop where
 hp:RH K Z α F H μ
 len:ρ.length=σ.length
 sl:∀ (i:Nat) (d:D),ρ[i]? =some (some d)→∃ v,σ[i]? =some (some v)∧Rep K F α d v
theorem RS.to {K:PySem.W.Frag} {Z:ZS} {α α':List Addr} {F H F' H':Hp} {σ:L2.St} {ρ:En} {μ μ':Mu} (r:RS K Z α F H σ ρ μ) (h:RH K Z α' F' H' μ') (e:Ext α F α' F'):RS K Z α' F' H' σ ρ μ' :=
 ⟨h,r.len,fun i d hd=>let ⟨v,h1,h2⟩:=r.sl i d hd;⟨v,h1,h2.mono e⟩⟩
theorem Zi {F H:Hp} {p:Addr} {o:HO} (hs:J4 F H) (hp:H p=none):J4 F (upd F p o):=fun b u e=>by
 have:b≠p:=fun z=>by subst z;rw [hs _ _ e] at hp;cases hp
 rw [jw this];exact e
theorem RH.lay {K:PySem.W.Frag} {Z:ZS} {α:List Addr} {F H:Hp} {μ:Mu} {p:Addr} (o:HO) (r:RH K Z α F H μ) (hp:H p=none):RH K Z α (upd F p o) (upd H p o) μ:=by
 have sF:=Zi (o:=o) r.sub hp
 have ex:Ext α F α (upd F p o):=⟨sF,fun _ _ h=>h⟩
 refine ⟨fun b u e=>?_,r.len,fun k a c ha hc=>?_,fun b u e=>?_,fun b u e=>?_,r.zc,r.dis,r.ext.trans ex⟩
 ·by_cases hb:b=p
  ·subst hb;rw [jt] at e ⊢;exact e
  ·rw [jw hb] at e ⊢;exact r.sub b u e
 ·have h:=r.cell k a c ha hc
  have ne:c≠.dead→a≠p:=fun hd=>let ⟨_,_,z⟩:=h.live hd;jj z hp
  exact h.go ex (fun hd=>jw (ne hd)) fun hd=>jw (ne hd)
 ·rw [jw (jj (r.zs b u e) hp)];exact r.zs b u e
 ·rw [jw (jj (r.zs b u e) hp)];exact r.zf b u e
theorem RH.layExt {K:PySem.W.Frag} {Z:ZS} {α:List Addr} {F H:Hp} {μ:Mu} {p:Addr} (o:HO) (r:RH K Z α F H μ) (hp:H p=none):Ext α F α (upd F p o):=⟨Zi r.sub hp,fun _ _ h=>h⟩
noncomputable def Pk (K:PySem.W.Frag) (α:List Addr) (F H:Hp):D→V→Prop
 | .lst ds,v=>∃ a vs,v=.ref a∧SqL K H a vs∧Reps K F α ds vs
 | .dic ks ds,v=>∃ a vs,v=.ref a∧H a=some (.dK ((ks.map dk).zip vs))∧ks.length=ds.length∧Reps K F α ds vs
 | d,v=>Rep K F α d v
theorem RH.pk {K:PySem.W.Frag} {Z:ZS} {α:List Addr} {F H:Hp} {μ:Mu} {d:D} {v:V} (r:RH K Z α F H μ) (h:Rep K F α d v):Pk K α F H (j9 μ d) v:=by
 cases d with
 | non=>exact h
 | bl b=>exact h
 | int i=>exact h
 | str x=>exact h
 | tup ds=>exact h
 | lst ds =>
  unfold Rep at h
  obtain ⟨a,vs,hv,hs,hr⟩:=h
  exact ⟨a,vs,hv,r.sub.seq hs,hr⟩
 | dic ks ds =>
  unfold Rep at h
  obtain ⟨a,vs,hv,hs,hl,hr⟩:=h
  exact ⟨a,vs,hv,r.sub _ _ hs,hl,hr⟩
 | ref k =>
  have h0:=h
  unfold Rep at h
  obtain ⟨a,ha,hv⟩:=h
  cases e:μ[k]? with
  | none=>rw [show j9 μ (.ref k)=.ref k by simp only [j9,e]];exact h0
  | some c =>
   have hc:=r.cell k a c ha e
   cases c with
   | lst ds =>
    obtain ⟨_,vs,h2,h3⟩:=hc
    rw [show j9 μ (.ref k)=.lst ds by simp only [j9,e]]
    exact ⟨a,vs,hv,SqL.of h2,h3⟩
   | dic ks ds =>
    obtain ⟨_,vs,h2,hl,h3⟩:=hc
    rw [show j9 μ (.ref k)=.dic ks ds by simp only [j9,e]]
    exact ⟨a,vs,hv,h2,hl,h3⟩
   | _=>rw [show j9 μ (.ref k)=.ref k by simp only [j9,e]];exact h0
structure EXT where
 P:ZS→Exc→Mu→Prop
 mono:∀ (Z:ZS) (p:Addr) (o:HO) (x:Exc) (μ:Mu),Z.z p=none→P Z x μ→P (Z.up p o) x μ
noncomputable def GE (K:PySem.W.Frag) (EX:EXT) (Z:ZS) (α:List Addr) (F:Hp) (Q:VK):Res D→Prop
 | .ok d μ'=>∀ v α' F' H',RH K Z α' F' H' μ'→Ext α F α' F'→Rep K F' α' d v→Q v H'
 | .exc x μ'=>EX.P Z x μ'
 | .bad=>False
noncomputable def GB (K:PySem.W.Frag) (EX:EXT) (Z:ZS) (α:List Addr) (F:Hp) (Q:Bool→Hp→Prop):Res Bool→Prop
 | .ok b μ'=>∀ α' F' H',RH K Z α' F' H' μ'→Ext α F α' F'→Q b H'
 | .exc x μ'=>EX.P Z x μ'
 | .bad=>False
noncomputable def GA (K:PySem.W.Frag) (EX:EXT) (Z:ZS) (α:List Addr) (F:Hp) (Q:List V→Hp→Prop):Res (List D)→Prop
 | .ok ds μ'=>∀ vs α' F' H',RH K Z α' F' H' μ'→Ext α F α' F'→Reps K F' α' ds vs→Q vs H'
 | .exc x μ'=>EX.P Z x μ'
 | .bad=>False
noncomputable def GS (K:PySem.W.Frag) (EX:EXT) (Z:ZS) (α:List Addr) (F:Hp) (N:Ends):Res Out→Prop
 | .ok (.nx ρ') μ'=>∀ σ' α' F' H',RS K Z α' F' H' σ' ρ' μ'→Ext α F α' F'→N.nx σ' H'
 | .ok (.bk ρ') μ'=>∀ σ' α' F' H',RS K Z α' F' H' σ' ρ' μ'→Ext α F α' F'→N.bk σ' H'
 | .ok (.ct ρ') μ'=>∀ σ' α' F' H',RS K Z α' F' H' σ' ρ' μ'→Ext α F α' F'→N.ct σ' H'
 | .ok (.rt d) μ'=>∀ v α' F' H',RH K Z α' F' H' μ'→Ext α F α' F'→Rep K F' α' d v→N.rt v H'
 | .exc x μ'=>EX.P Z x μ'
 | .bad=>False
noncomputable def ME (X:Cx) (EX:EXT) (e:Expr) (m:MX):Prop:=∃ t:TE,PE X e t∧∀ Z α F H σ ρ μ Q,RS X.K Z α F H σ ρ μ→GE X.K EX Z α F Q (m ρ μ)→t σ H Q
noncomputable def MT (X:Cx) (EX:EXT) (e:Expr) (m:MB):Prop:=∃ t:TT,PT X e t∧∀ Z α F H σ ρ μ Q,RS X.K Z α F H σ ρ μ→GB X.K EX Z α F Q (m ρ μ)→t σ H Q
noncomputable def MW (X:Cx) (EX:EXT) (e:Expr) (m:MB):Prop:=∃ t:TT,PW X e t∧∀ Z α F H σ ρ μ Q,RS X.K Z α F H σ ρ μ→GB X.K EX Z α F Q (m ρ μ)→t σ H Q
noncomputable def MA (X:Cx) (EX:EXT) (es:List Expr) (m:MAs):Prop:=∃ t:TA,PA X es t∧(∀ Z α F H σ ρ μ Q,RS X.K Z α F H σ ρ μ→GA X.K EX Z α F Q (m ρ μ)→t σ H Q)∧∀ ρ μ ds μ',m ρ μ=.ok ds μ'→ds.length=es.length
noncomputable def MS (X:Cx) (EX:EXT) (st:Stmt) (m:MSt):Prop:=∃ t:TS,PS X st t∧∀ Z α F H σ ρ μ N,RS X.K Z α F H σ ρ μ→GS X.K EX Z α F N (m ρ μ)→t N σ H
noncomputable def MSs (X:Cx) (EX:EXT) (st:List Stmt) (m:MSt):Prop:=∃ t:TS,PSs X st t∧∀ Z α F H σ ρ μ N,RS X.K Z α F H σ ρ μ→GS X.K EX Z α F N (m ρ μ)→t N σ H
theorem GE.ext {K:PySem.W.Frag} {EX:EXT} {Z:ZS} {α α1:List Addr} {F F1:Hp} {Q:VK} {r:Res D} (e:Ext α F α1 F1) (h:GE K EX Z α F Q r):GE K EX Z α1 F1 Q r:=by
 cases r with
 | ok d μ=>exact fun v α' F' H' R e' q=>h v α' F' H' R (e.trans e') q
 | exc x μ=>exact h
 | bad=>exact h
theorem GB.ext {K:PySem.W.Frag} {EX:EXT} {Z:ZS} {α α1:List Addr} {F F1:Hp} {Q:Bool→Hp→Prop} {r:Res Bool} (e:Ext α F α1 F1) (h:GB K EX Z α F Q r):GB K EX Z α1 F1 Q r:=by
 cases r with
 | ok d μ=>exact fun α' F' H' R e'=>h α' F' H' R (e.trans e')
 | exc x μ=>exact h
 | bad=>exact h
theorem GS.ext {K:PySem.W.Frag} {EX:EXT} {Z:ZS} {α α1:List Addr} {F F1:Hp} {N:Ends} {r:Res Out} (e:Ext α F α1 F1) (h:GS K EX Z α F N r):GS K EX Z α1 F1 N r:=by
 cases r with
 | ok o μ =>
  cases o with
  | nx ρ=>exact fun σ' α' F' H' R e'=>h σ' α' F' H' R (e.trans e')
  | bk ρ=>exact fun σ' α' F' H' R e'=>h σ' α' F' H' R (e.trans e')
  | ct ρ=>exact fun σ' α' F' H' R e'=>h σ' α' F' H' R (e.trans e')
  | rt d=>exact fun v α' F' H' R e' q=>h v α' F' H' R (e.trans e') q
 | exc x μ=>exact h
 | bad=>exact h
theorem GE.step {K:PySem.W.Frag} {EX:EXT} {Z:ZS} {α:List Addr} {F:Hp} {r:Res D} {β:Type} {f:D→Mu→Res β} {G:Res β→Prop} {Q:VK} (h:G (r.bind f)) (hx:∀ x μ,G (.exc x μ)→EX.P Z x μ) (hb:¬ G .bad)
  (hk:∀ d μ' v α' F' H',RH K Z α' F' H' μ'→Ext α F α' F'→Rep K F' α' d v→G (f d μ')→Q v H'):GE K EX Z α F Q r:=by
 cases r with
 | ok d μ=>exact fun v α' F' H' R e q=>hk d μ v α' F' H' R e q h
 | exc x μ=>exact hx _ _ h
 | bad=>exact hb h
theorem GB.step {K:PySem.W.Frag} {EX:EXT} {Z:ZS} {α:List Addr} {F:Hp} {r:Res Bool} {β:Type} {f:Bool→Mu→Res β} {G:Res β→Prop} {Q:Bool→Hp→Prop} (h:G (r.bind f)) (hx:∀ x μ,G (.exc x μ)→EX.P Z x μ) (hb:¬ G .bad)
  (hk:∀ d μ' α' F' H',RH K Z α' F' H' μ'→Ext α F α' F'→G (f d μ')→Q d H'):GB K EX Z α F Q r:=by
 cases r with
 | ok d μ=>exact fun α' F' H' R e=>hk d μ α' F' H' R e h
 | exc x μ=>exact hx _ _ h
 | bad=>exact hb h
theorem GA.step {K:PySem.W.Frag} {EX:EXT} {Z:ZS} {α:List Addr} {F:Hp} {r:Res (List D)} {β:Type} {f:List D→Mu→Res β} {G:Res β→Prop} {Q:List V→Hp→Prop} (h:G (r.bind f)) (hx:∀ x μ,G (.exc x μ)→EX.P Z x μ) (hb:¬ G .bad)
  (hk:∀ d μ' v α' F' H',RH K Z α' F' H' μ'→Ext α F α' F'→Reps K F' α' d v→G (f d μ')→Q v H'):GA K EX Z α F Q r:=by
 cases r with
 | ok d μ=>exact fun v α' F' H' R e q=>hk d μ v α' F' H' R e q h
 | exc x μ=>exact hx _ _ h
 | bad=>exact hb h
theorem GA.stepE {K:PySem.W.Frag} {EX:EXT} {Z:ZS} {α:List Addr} {F:Hp} {r:Res (List D)} {β:Type} {f:List D→Mu→Res β} {G:Res β→Prop} {Q:List V→Hp→Prop} (h:G (r.bind f)) (hx:∀ x μ,G (.exc x μ)→EX.P Z x μ) (hb:¬ G .bad)
  (hk:∀ d μ' v α' F' H',r=.ok d μ'→RH K Z α' F' H' μ'→Ext α F α' F'→Reps K F' α' d v→G (f d μ')→Q v H'):GA K EX Z α F Q r:=by
 cases r with
 | ok d μ=>exact fun v α' F' H' R e q=>hk d μ v α' F' H' rfl R e q h
 | exc x μ=>exact hx _ _ h
 | bad=>exact hb h
end M
set_option Elab.async false
set_option linter.all false
set_option maxRecDepth 100000
set_option maxHeartbeats 4000000
namespace M
open PySem PySem.Spec PyProof.Rows L2
section
variable {X:Cx} {EX:EXT} {e a b c:Expr} {pos:Pos} {m ma mb mc:MX} {es rest:List Expr}
noncomputable def mVar (i:Nat):MX:=fun ρ μ=>match ρ[i]? with
 | some (some d)=>.ok d μ
 | _=>.bad
noncomputable def mC (d:D):MX:=fun _ μ=>.ok d μ
theorem ff {i:Nat} {x:Str} (hN:X.N[i]? =some x) (hv:Vis X.env.scope x) (hd:(x == ("__debug__":Str))=false) (hcd:(x == ("__classdict__":Str))=false):ME X EX (.Name x pos) (mVar i):=by
 refine ⟨aa5 i,bn hN hv hd hcd,fun Z α F H σ ρ μ Q R g=>?_⟩
 unfold mVar at g
 cases e:ρ[i]? with
 | none=>rw [e] at g;exact g.elim
 | some o =>
  cases o with
  | none=>rw [e] at g;exact g.elim
  | some d =>
   rw [e] at g
   obtain ⟨v,h1,h2⟩:=R.sl i d e
   exact ⟨v,h1,g v α F H R.hp (Ext.refl _ _) h2⟩
theorem a25 {v:V} {d:D} (h:PE X e (tC v)) (r:∀ (F:Hp) (α:List Addr),Rep X.K F α d v):ME X EX e (mC d) :=
 ⟨_,h,fun Z α F H σ ρ μ Q R g=>g v α F H R.hp (Ext.refl _ _) (r F α)⟩
theorem me_int {i j}:ME X EX (.Constant (.int i) j pos) (mC (.int i)):=a25 ad3 fun _ _=>by unfold Rep;rfl
theorem yz {j}:ME X EX (.Constant .none j pos) (mC .non):=a25 ad2 fun _ _=>by unfold Rep;rfl
theorem me_str {x:Str} {cs:List Nat} {j} (h:x=⟨cs.toArray⟩):ME X EX (.Constant (.str x) j pos) (mC (.str cs)):=a25 bj fun _ _=>by unfold Rep;rw [h]
noncomputable abbrev G2:=D→D→Option D
noncomputable def mBin (g:G2) (ma mb:MX):MX:=fun ρ μ=>(ma ρ μ).bind fun x μ1=>(mb ρ μ1).bind fun y μ2=>ofO μ2 (g (j9 μ2 x) (j9 μ2 y))
noncomputable def Ut (K:PySem.W.Frag) (r:R2) (g:G2):Prop:=∀ Z α F H μ a b c x y Q,RH K Z α F H μ→Pk K α F H a x→Pk K α F H b y→g a b=some c →
 (∀ v F' H',RH K Z α F' H' μ→J4 F F'→Rep K F' α c v→Q v H')→r x y H Q
noncomputable def OpM (X:Cx) (f:Value→Value→Sem Value) (g:G2):Prop:=∃ r,OpR X f r∧Ut X.K r g
noncomputable def Fk (X:Cx) (EX:EXT) (t:TE) (m:MX):Prop:=∀ Z α F H σ ρ μ Q,RS X.K Z α F H σ ρ μ→GE X.K EX Z α F Q (m ρ μ)→t σ H Q
theorem Y3 {ta tb:TE} {r:R2} {g:G2} (sa:Fk X EX ta ma) (sb:Fk X EX tb mb) (ho:Ut X.K r g):Fk X EX (tOp r ta tb) (mBin g ma mb):=by
 intro Z α F H σ ρ μ Q R gd
 refine sa Z α F H σ ρ μ _ R (GE.step (G:=GE X.K EX Z α F Q) gd (fun _ _ h=>h) (fun h=>h) fun d1 μ1 v1 α1 F1 H1 R1 e1 p1 g1=>?_)
 refine sb Z α1 F1 H1 σ ρ μ1 _ (R.to R1 e1) (GE.step (G:=GE X.K EX Z α F Q) g1 (fun _ _ h=>h) (fun h=>h) fun d2 μ2 v2 α2 F2 H2 R2 e2 p2 g2=>?_)
 cases hg:g (j9 μ2 d1) (j9 μ2 d2) with
 | none=>rw [hg] at g2;exact g2.elim
 | some c =>
  rw [hg] at g2
  exact ho Z α2 F2 H2 μ2 _ _ c v1 v2 Q R2 (R2.pk (p1.mono e2)) (R2.pk p2) hg fun v F' H' R' sf rp=>g2 v α2 F' H' R' (e1.trans (e2.trans ⟨sf,fun _ _ h=>h⟩)) rp
theorem me_bin {op:Operator} {g:G2} (ho:OpM X (binaryOp op) g) (ha:ME X EX a ma) (hb:ME X EX b mb):ME X EX (.BinOp a op b pos) (mBin g ma mb):=by
 obtain ⟨r,h1,h2⟩:=ho
 obtain ⟨ta,pa,sa⟩:=ha
 obtain ⟨tb,pb,sb⟩:=hb
 exact ⟨_,ao2 h1 pa pb,Y3 sa sb h2⟩
theorem uk {op:CmpOp} {g:G2} (ho:OpM X (compareOp op) g) (ha:ME X EX a ma) (hb:ME X EX b mb) (hm:behindInMarks op b=false):ME X EX (.Compare a [op] [b] pos) (mBin g ma mb):=by
 obtain ⟨r,h1,h2⟩:=ho
 obtain ⟨ta,pa,sa⟩:=ha
 obtain ⟨tb,pb,sb⟩:=hb
 exact ⟨_,Ab h1 pa pb hm,Y3 sa sb h2⟩
noncomputable def asB (d:D):Option Bool:=match d with
 | .bl b=>some b
 | _=>none
noncomputable def j5 (m:MX):MB:=fun ρ μ=>(m ρ μ).bind fun d μ1=>ofO μ1 (asB d)
noncomputable def as6 (X:Cx) (EX:EXT) (t:TT) (m:MB):Prop:=∀ Z α F H σ ρ μ Q,RS X.K Z α F H σ ρ μ→GB X.K EX Z α F Q (m ρ μ)→t σ H Q
theorem Qt {t:TE} (h:Fk X EX t m):as6 X EX (fun σ H Q=>t σ H fun x H'=>∃ k,x=.bl k∧Q k H') (j5 m):=by
 intro Z α F H σ ρ μ Q R g
 refine h Z α F H σ ρ μ _ R (GE.step (G:=GB X.K EX Z α F Q) g (fun _ _ h=>h) (fun h=>h) fun d μ1 v α1 F1 H1 R1 e1 p g1=>?_)
 cases d with
 | bl k=>unfold Rep at p;exact ⟨k,p,g1 α1 F1 H1 R1 e1⟩
 | _=>exact g1.elim
theorem j8 {op:CmpOp} {g:G2} (ho:OpM X (compareOp op) g) (ha:ME X EX a ma) (hb:ME X EX b mb) (hm:behindInMarks op b=false):MT X EX (.Compare a [op] [b] pos) (j5 (mBin g ma mb)):=by
 obtain ⟨r,h1,h2⟩:=ho
 obtain ⟨ta,pa,sa⟩:=ha
 obtain ⟨tb,pb,sb⟩:=hb
 exact ⟨_,Am h1 pa pb hm,Qt (Y3 sa sb h2)⟩
noncomputable def ag9 (g g':G2) (ma mb mc:MX):MX:=fun ρ μ=>(ma ρ μ).bind fun x μ1=>(mb ρ μ1).bind fun y μ2=>(ofO μ2 ((g (j9 μ2 x) (j9 μ2 y)).bind asB)).bind fun k μ3 =>
 match k with
 | true=>(mc ρ μ3).bind fun z μ4=>ofO μ4 (g' (j9 μ4 y) (j9 μ4 z))
 | false=>.ok (.bl false) μ3
noncomputable def isN (d:D):Bool:=match d with
 | .non=>true
 | _=>false
noncomputable def Yo (m:MX):MX:=fun ρ μ=>(m ρ μ).bind fun d μ1=>.ok (.bl (isN d)) μ1
noncomputable def ap4 (m:MX):MX:=fun ρ μ=>(m ρ μ).bind fun d μ1=>.ok (.bl (!isN d)) μ1
theorem a35 {K:PySem.W.Frag} {F:Hp} {α:List Addr} {d:D} {v:V} (h:Rep K F α d v):decide (v=.non)=isN d:=by
 cases d with
 | non=>unfold Rep at h;subst h;rfl
 | bl _=>unfold Rep at h;subst h;rfl
 | int _=>unfold Rep at h;subst h;rfl
 | str _=>unfold Rep at h;subst h;rfl
 | tup _=>unfold Rep at h;obtain ⟨a,vs,h,_⟩:=h;subst h;rfl
 | lst _=>unfold Rep at h;obtain ⟨a,vs,h,_⟩:=h;subst h;rfl
 | dic _ _=>unfold Rep at h;obtain ⟨a,vs,h,_⟩:=h;subst h;rfl
 | ref _=>unfold Rep at h;obtain ⟨a,_,h⟩:=h;subst h;rfl
theorem G3 {t:TE} (h:Fk X EX t m):Fk X EX (al6 t) (Yo m):=by
 intro Z α F H σ ρ μ Q R g
 refine h Z α F H σ ρ μ _ R (GE.step (G:=GE X.K EX Z α F Q) g (fun _ _ h=>h) (fun h=>h) fun d μ1 v α1 F1 H1 R1 e1 p g1=>?_)
 rw [a35 p]
 exact g1 _ α1 F1 H1 R1 e1 (by unfold Rep;rfl)
theorem ag5 {j pos'} (ha:ME X EX a m):ME X EX (.Compare a [.Is] [.Constant .none j pos'] pos) (Yo m):=by
 obtain ⟨t,p,s⟩:=ha
 exact ⟨_,ad5 (bc p) rfl,G3 s⟩
theorem Z8 {j pos'} (ha:ME X EX a m):MT X EX (.Compare a [.Is] [.Constant .none j pos'] pos) (j5 (Yo m)):=by
 obtain ⟨t,p,s⟩:=ha
 exact ⟨_,bu (bc p) rfl,Qt (G3 s)⟩
noncomputable def Xs (d:D):Option Bool:=match d with
 | .non=>some false
 | .bl b=>some b
 | .int i=>some (i != 0)
 | .str x=>if x.length≤16777216 then some (!x.isEmpty) else none
 | .tup xs=>some (!xs.isEmpty)
 | .lst xs=>some (!xs.isEmpty)
 | .dic ks vs=>some (!vs.isEmpty)
 | .ref _=>none
noncomputable def Vh (m:MX):MB:=fun ρ μ=>(m ρ μ).bind fun d μ1=>ofO μ1 (Xs (j9 μ1 d))
theorem z8 {β γ:Type} {l:List β} {r:List γ} (h:l.length=r.length):l.isEmpty=r.isEmpty:=by
 cases l <;> cases r <;> simp_all
theorem aa3 {K:PySem.W.Frag} {α:List Addr} {F H:Hp} {d:D} {v:V} {k:Bool} (sub:J4 F H) (h:Pk K α F H d v) (e:Xs d=some k):aj8 K v H k:=by
 cases d with
 | non=>unfold Pk Rep at h;subst h;cases e;rfl
 | bl _=>unfold Pk Rep at h;subst h;cases e;rfl
 | int _=>unfold Pk Rep at h;subst h;cases e;rfl
 | str x =>
  unfold Pk Rep at h
  subst h
  unfold Xs at e
  simp only at e
  split at e
  ·rename_i hl
   cases e
   refine ⟨?_,?_⟩
   ·rw [sizeLine_eq];simpa [Str.length] using hl
   ·cases x with
    | nil=>rfl
    | cons c r=>simp [Str.length];omega
  ·cases e
 | tup xs =>
  unfold Pk Rep at h
  obtain ⟨a,vs,rfl,hs,hr⟩:=h
  cases e
  exact .inr (.inl ⟨vs,J4.tup sub hs,by rw [z8 hr.length]⟩)
 | lst xs =>
  unfold Pk at h
  obtain ⟨a,vs,rfl,hs,hr⟩:=h
  cases e
  exact .inl ⟨vs,hs,by rw [z8 hr.length]⟩
 | dic ks xs =>
  unfold Pk at h
  obtain ⟨a,vs,rfl,hs,hl,hr⟩:=h
  cases e
  refine .inr (.inr ⟨_,hs,?_⟩)
  congr 1
  refine z8 ?_
  have:=hr.length
  simp
  omega
 | ref _=>cases e
theorem Yd (ha:ME X EX a m) (he:∀ whole,isTrue a X.env whole=(do let v ← whole;standAt a.pos;holding [v] (truthy v))):MT X EX a (Vh m):=by
 obtain ⟨t,p,s⟩:=ha
 refine ⟨_,bv p he,fun Z α F H σ ρ μ Q R g=>?_⟩
 refine s Z α F H σ ρ μ _ R (GE.step (G:=GB X.K EX Z α F Q) g (fun _ _ h=>h) (fun h=>h) fun d μ1 v α1 F1 H1 R1 e1 p g1=>?_)
 cases hk:Xs (j9 μ1 d) with
 | none=>rw [hk] at g1;exact g1.elim
 | some k=>rw [hk] at g1;exact ⟨k,aa3 R1.sub (R1.pk p) hk,g1 α1 F1 H1 R1 e1⟩
variable {n na nb:MB}
noncomputable def w9 (m n:MB):MB:=fun ρ μ=>(m ρ μ).bind fun k μ1=>match k with
 | true=>n ρ μ1
 | false=>.ok false μ1
noncomputable def mOr (m n:MB):MB:=fun ρ μ=>(m ρ μ).bind fun k μ1=>match k with
 | true=>.ok true μ1
 | false=>n ρ μ1
noncomputable def mNot (m:MB):MB:=fun ρ μ=>(m ρ μ).bind fun k μ1=>.ok (!k) μ1
theorem MW.t (h:MW X EX e n):MT X EX e n:=let ⟨t,p,s⟩:=h;⟨t,p.pt,s⟩
theorem Ev (ha:MT X EX a na):MW X EX (.BoolOp .And [a] pos) na:=let ⟨t,p,s⟩:=ha;⟨t,An p,s⟩
theorem Bu (ha:MT X EX a na):MW X EX (.BoolOp .Or [a] pos) na:=let ⟨t,p,s⟩:=ha;⟨t,ac2 p,s⟩
theorem Bt (ha:MT X EX a na) (hb:MW X EX (.BoolOp .And (b::rest) pos) nb):MW X EX (.BoolOp .And (a::b::rest) pos) (w9 na nb):=by
 obtain ⟨ta,pa,sa⟩:=ha
 obtain ⟨tb,pb,sb⟩:=hb
 refine ⟨_,ac3 pa pb,fun Z α F H σ ρ μ Q R g=>?_⟩
 refine sa Z α F H σ ρ μ _ R (GB.step (G:=GB X.K EX Z α F Q) g (fun _ _ h=>h) (fun h=>h) fun k μ1 α1 F1 H1 R1 e1 g1=>?_)
 cases k with
 | true=>exact (if_pos rfl).mpr (sb Z α1 F1 H1 σ ρ μ1 Q (R.to R1 e1) (GB.ext e1 g1))
 | false=>exact g1 α1 F1 H1 R1 e1
theorem a68 (ha:MT X EX a na) (hb:MW X EX (.BoolOp .Or (b::rest) pos) nb):MW X EX (.BoolOp .Or (a::b::rest) pos) (mOr na nb):=by
 obtain ⟨ta,pa,sa⟩:=ha
 obtain ⟨tb,pb,sb⟩:=hb
 refine ⟨_,an4 pa pb,fun Z α F H σ ρ μ Q R g=>?_⟩
 refine sa Z α F H σ ρ μ _ R (GB.step (G:=GB X.K EX Z α F Q) g (fun _ _ h=>h) (fun h=>h) fun k μ1 α1 F1 H1 R1 e1 g1=>?_)
 cases k with
 | true=>exact g1 α1 F1 H1 R1 e1
 | false=>exact sb Z α1 F1 H1 σ ρ μ1 Q (R.to R1 e1) (GB.ext e1 g1)
noncomputable def Z0 (ma mb:MX):MX:=fun ρ μ=>(ma ρ μ).bind fun x μ1=>match x with
 | .bl true=>mb ρ μ1
 | .bl false=>.ok (.bl false) μ1
 | _=>.bad
noncomputable def mOrV (ma mb:MX):MX:=fun ρ μ=>(ma ρ μ).bind fun x μ1=>match x with
 | .bl true=>.ok (.bl true) μ1
 | .bl false=>mb ρ μ1
 | _=>.bad
noncomputable def vq (ma:MX):MX:=fun ρ μ=>(ma ρ μ).bind fun x μ1=>match x with
 | .bl k=>.ok (.bl (!k)) μ1
 | _=>.bad
theorem Bm {op} (h:ME X EX a m):ME X EX (.BoolOp op [a] pos) m:=let ⟨t,p,s⟩:=h;⟨t,ad0 p,s⟩
theorem fc (ha:ME X EX a ma) (hb:ME X EX (.BoolOp .And (b::rest) pos) mb):ME X EX (.BoolOp .And (a::b::rest) pos) (Z0 ma mb):=by
 obtain ⟨ta,pa,sa⟩:=ha
 obtain ⟨tb,pb,sb⟩:=hb
 refine ⟨_,ad7 pa pb,fun Z α F H σ ρ μ Q R g=>?_⟩
 refine sa Z α F H σ ρ μ _ R (GE.step (G:=GE X.K EX Z α F Q) g (fun _ _ h=>h) (fun h=>h) fun d μ1 v α1 F1 H1 R1 e1 p g1=>?_)
 cases d with
 | bl k =>
  unfold Rep at p
  refine ⟨k,p,?_⟩
  cases k with
  | true=>exact sb Z α1 F1 H1 σ ρ μ1 Q (R.to R1 e1) (GE.ext e1 g1)
  | false=>exact g1 _ α1 F1 H1 R1 e1 (by unfold Rep;rfl)
 | _=>exact g1.elim
theorem ag3 (ha:ME X EX a ma):ME X EX (.UnaryOp .Not a pos) (vq ma):=by
 obtain ⟨ta,pa,sa⟩:=ha
 refine ⟨_,ad1 pa,fun Z α F H σ ρ μ Q R g=>?_⟩
 refine sa Z α F H σ ρ μ _ R (GE.step (G:=GE X.K EX Z α F Q) g (fun _ _ h=>h) (fun h=>h) fun d μ1 v α1 F1 H1 R1 e1 p g1=>?_)
 cases d with
 | bl k=>unfold Rep at p;exact ⟨k,p,g1 _ α1 F1 H1 R1 e1 (by unfold Rep;rfl)⟩
 | _=>exact g1.elim
noncomputable def mIf (n:MB) (ma mb:MX):MX:=fun ρ μ=>(n ρ μ).bind fun k μ1=>match k with
 | true=>ma ρ μ1
 | false=>mb ρ μ1
theorem Y0 (hc:MT X EX c n) (ha:ME X EX a ma) (hb:ME X EX b mb):ME X EX (.IfExp c a b pos) (mIf n ma mb):=by
 obtain ⟨tc,pc,sc⟩:=hc
 obtain ⟨ta,pa,sa⟩:=ha
 obtain ⟨tb,pb,sb⟩:=hb
 refine ⟨_,be pc pa pb,fun Z α F H σ ρ μ Q R g=>?_⟩
 refine sc Z α F H σ ρ μ _ R (GB.step (G:=GE X.K EX Z α F Q) g (fun _ _ h=>h) (fun h=>h) fun k μ1 α1 F1 H1 R1 e1 g1=>?_)
 cases k with
 | true=>exact sa Z α1 F1 H1 σ ρ μ1 Q (R.to R1 e1) (GE.ext e1 g1)
 | false=>exact sb Z α1 F1 H1 σ ρ μ1 Q (R.to R1 e1) (GE.ext e1 g1)
variable {ms:MAs}
noncomputable def mNil:MAs:=fun _ μ=>.ok [] μ
noncomputable def mCons (m:MX) (ms:MAs):MAs:=fun ρ μ=>(m ρ μ).bind fun d μ1=>(ms ρ μ1).bind fun ds μ2=>.ok (d::ds) μ2
theorem ma_nil:MA X EX [] mNil:=⟨_,fo,fun Z α F H σ ρ μ Q R g=>g [] α F H R.hp (Ext.refl _ _) jo,fun ρ μ ds μ' h=>by cases h;rfl⟩
theorem ma_cons (ha:ME X EX e m) (hr:MA X EX es ms) (hs:starEach (e::es) X.env=(false,eval e X.env)::starEach es X.env):MA X EX (e::es) (mCons m ms):=by
 obtain ⟨ta,pa,sa⟩:=ha
 obtain ⟨tr,pr,sr,lr⟩:=hr
 refine ⟨_,xm pa pr hs,fun Z α F H σ ρ μ Q R g=>?_,fun ρ μ ds μ' h=>?_⟩
 rotate_left
 ·unfold mCons at h
  cases e1:m ρ μ with
  | ok d μ1 =>
   rw [e1] at h
   simp only [bind_ok] at h
   cases e2:ms ρ μ1 with
   | ok dr μ2 =>
    rw [e2] at h
    simp only [bind_ok] at h
    cases h
    simp [lr _ _ _ _ e2]
   | exc x μ2=>rw [e2] at h;cases h
   | bad=>rw [e2] at h;cases h
  | exc x μ1=>rw [e1] at h;cases h
  | bad=>rw [e1] at h;cases h
 refine sa Z α F H σ ρ μ _ R (GE.step (G:=GA X.K EX Z α F Q) g (fun _ _ h=>h) (fun h=>h) fun d μ1 v α1 F1 H1 R1 e1 p g1=>?_)
 refine sr Z α1 F1 H1 σ ρ μ1 _ (R.to R1 e1) (GA.step (G:=GA X.K EX Z α F Q) g1 (fun _ _ h=>h) (fun h=>h) fun ds μ2 vs α2 F2 H2 R2 e2 p2 g2=>?_)
 exact g2 (v::vs) α2 F2 H2 R2 (e1.trans e2) (j6 (p.mono e2) p2)
noncomputable def jf (ms:MAs):MX:=fun ρ μ=>(ms ρ μ).bind fun ds μ1=>.ok (.tup ds) μ1
noncomputable def yt (ms:MAs):MX:=fun ρ μ=>(ms ρ μ).bind fun ds μ1=>.ok (.lst ds) μ1
theorem Vg {K:PySem.W.Frag} {Z:ZS} {F H:Hp} {α:List Addr} {μ:Mu} {ds:List D} {vs:List V} {p:Addr} (R:RH K Z α F H μ) (r:Reps K F α ds vs) (hp:H p=none) :
  RH K Z α (upd F p (.tup vs)) (upd H p (.tup vs)) μ∧J4 F (upd F p (.tup vs))∧Rep K (upd F p (.tup vs)) α (.tup ds) (.ref p) :=
 ⟨R.lay _ hp,Zi R.sub hp,by unfold Rep;exact ⟨p,vs,rfl,SqT.of jt,r.mono (R.layExt _ hp)⟩⟩
theorem xk {K:PySem.W.Frag} {Z:ZS} {F H:Hp} {α:List Addr} {μ:Mu} {ds:List D} {vs:List V} {p:Addr} (R:RH K Z α F H μ) (r:Reps K F α ds vs) (hp:H p=none) :
  RH K Z α (upd F p (.lst vs)) (upd H p (.lst vs)) μ∧J4 F (upd F p (.lst vs))∧Rep K (upd F p (.lst vs)) α (.lst ds) (.ref p) :=
 ⟨R.lay _ hp,Zi R.sub hp,by unfold Rep;exact ⟨p,vs,rfl,SqL.of jt,r.mono (R.layExt _ hp)⟩⟩
theorem jv {x1} (h:MA X EX es ms) (hl:es.length≤16777216:=by decide):ME X EX (.Tuple es x1 pos) (jf ms):=by
 obtain ⟨t,p,s,l⟩:=h
 refine ⟨_,ac9 p,fun Z α F H σ ρ μ Q R g=>?_⟩
 refine s Z α F H σ ρ μ _ R (GA.stepE (G:=GE X.K EX Z α F Q) g (fun _ _ h=>h) (fun h=>h) fun ds μ1 vs α1 F1 H1 hm R1 e1 p1 g1=>?_)
 refine ⟨by rw [← p1.length,sizeLine_eq,l _ _ _ _ hm];exact hl,fun q hq=>?_⟩
 obtain ⟨a1,a2,a3⟩:=Vg R1 p1 hq
 exact g1 _ α1 _ _ a1 (e1.trans ⟨a2,fun _ _ h=>h⟩) a3
theorem Uj (h:MA X EX es ms) (hl:es.length≤16777216:=by decide):ME X EX (.List es pos) (yt ms):=by
 obtain ⟨t,p,s,l⟩:=h
 refine ⟨_,bf p,fun Z α F H σ ρ μ Q R g=>?_⟩
 refine s Z α F H σ ρ μ _ R (GA.stepE (G:=GE X.K EX Z α F Q) g (fun _ _ h=>h) (fun h=>h) fun ds μ1 vs α1 F1 H1 hm R1 e1 p1 g1=>?_)
 refine ⟨by rw [← p1.length,sizeLine_eq,l _ _ _ _ hm];exact hl,fun q hq=>?_⟩
 obtain ⟨a1,a2,a3⟩:=xk R1 p1 hq
 exact g1 _ α1 _ _ a1 (e1.trans ⟨a2,fun _ _ h=>h⟩) a3
noncomputable def gIdx:G2:=fun a b=>match a,b with
 | .lst ds,.int i=>atI ds i
 | .tup ds,.int i=>atI ds i
 | .str cs,.int i=>if cs.length≤16777216 then (atI cs i).map fun c=>.str [c] else none
 | _,_=>none
theorem Kb {K:PySem.W.Frag} {F:Hp} {α:List Addr} {ds:List D} {vs:List V} {i:Int} {d:D} (r:Reps K F α ds vs) (h:atI ds i=some d):∃ v,atI vs i=some v∧Rep K F α d v:=by
 unfold atI at h ⊢
 rw [← r.length]
 cases e:ixN ds.length i with
 | none=>rw [e] at h;cases h
 | some j=>rw [e] at h;exact r.get h
theorem fv {K:PySem.W.Frag}:Ut K (rIx K) gIdx:=by
 intro Z α F H μ a b c x y Q R ha hb hg k
 cases b with
 | int i =>
  unfold Pk Rep at hb
  subst hb
  cases a with
  | lst ds =>
   obtain ⟨p,vs,rfl,hs,hr⟩:=ha
   obtain ⟨v,h1,h2⟩:=Kb hr hg
   exact .inl ⟨p,vs,i,v,rfl,rfl,hs,h1,k v F H R (J4.refl _) h2⟩
  | tup ds =>
   unfold Pk Rep at ha
   obtain ⟨p,vs,rfl,hs,hr⟩:=ha
   obtain ⟨v,h1,h2⟩:=Kb hr hg
   exact .inr (.inl ⟨p,vs,i,v,rfl,rfl,J4.tup R.sub hs,h1,k v F H R (J4.refl _) h2⟩)
  | str cs =>
   unfold Pk Rep at ha
   subst ha
   simp only [gIdx] at hg
   split at hg
   ·rename_i hl
    cases e:atI cs i with
    | none=>rw [e] at hg;cases hg
    | some c' =>
     rw [e] at hg
     cases hg
     exact .inr (.inr ⟨_,i,c',rfl,rfl,by rw [sizeLine_eq];simpa [Str.length] using hl,by simpa using e,k _ F H R (J4.refl _) (by unfold Rep;rfl)⟩)
   ·cases hg
  | _=>cases hg
 | _=>cases a <;> cases hg
theorem me_idx (ha:ME X EX a ma) (hb:ME X EX b mb) (hs:D9 b):ME X EX (.Subscript a b pos) (mBin gIdx ma mb):=by
 obtain ⟨ta,pa,sa⟩:=ha
 obtain ⟨tb,pb,sb⟩:=hb
 exact ⟨_,ao3 ah8 pa pb hs,Y3 sa sb fv⟩
end
end M
set_option Elab.async false
set_option linter.all false
set_option maxRecDepth 100000
set_option maxHeartbeats 4000000
namespace M
open PySem PySem.Spec PyProof.Rows L2
theorem u7 {K:PySem.W.Frag} {F:Hp} {α:List Addr} (i:Int):Rep K F α (.int i) (.int i):=by unfold Rep;rfl
theorem Yh {K:PySem.W.Frag} {F:Hp} {α:List Addr} (i:Bool):Rep K F α (.bl i) (.bl i):=by unfold Rep;rfl
theorem Zd {K:PySem.W.Frag} {F:Hp} {α:List Addr}:Rep K F α .non .non:=by unfold Rep;rfl
theorem Av {K:PySem.W.Frag} {F:Hp} {α:List Addr} (x:List Nat):Rep K F α (.str x) (.str ⟨x.toArray⟩):=by unfold Rep;rfl
theorem Uk {K:PySem.W.Frag} {F H:Hp} {α:List Addr} {i:Int} {v:V} (h:Pk K α F H (.int i) v):v=.int i:=by unfold Pk Rep at h;exact h
theorem ao0 {K:PySem.W.Frag} {F H:Hp} {α:List Addr} {i:Bool} {v:V} (h:Pk K α F H (.bl i) v):v=.bl i:=by unfold Pk Rep at h;exact h
theorem Vu {K:PySem.W.Frag} {F H:Hp} {α:List Addr} {x:List Nat} {v:V} (h:Pk K α F H (.str x) v):v=.str ⟨x.toArray⟩:=by unfold Pk Rep at h;exact h
noncomputable def yi (h:Int→Int→Option Int):G2:=fun a b=>match a,b with
 | .int i,.int j=>(h i j).map .int
 | _,_=>none
noncomputable def G6 (h:Int→Int→Bool):G2:=fun a b=>match a,b with
 | .int i,.int j=>some (.bl (h i j))
 | _,_=>none
section
variable {X:Cx} {EX:EXT}
theorem Xq {K:PySem.W.Frag} {C:Int→Int→Prop} [inst:∀ i j,Decidable (C i j)] {h:Int→Int→Int}:Ut K (rI C fun i j=>.int (h i j)) (yi fun i j=>if C i j then some (h i j) else none):=by
 intro Z α F H μ a b c x y Q R ha hb hg k
 cases a with
 | int i =>
  cases b with
  | int j =>
   have ha:=Uk ha
   have hb:=Uk hb
   simp only [yi] at hg
   by_cases hc:C i j
   ·rw [if_pos hc] at hg
    cases hg
    exact ⟨i,j,ha,hb,hc,k _ F H R (J4.refl _) (u7 _)⟩
   ·rw [if_neg hc] at hg;cases hg
  | _=>cases hg
 | _=>cases hg
theorem Zk {K:PySem.W.Frag} {h:Int→Int→Int}:Ut K (rI0 fun i j=>.int (h i j)) (yi fun i j=>some (h i j)):=by
 intro Z α F H μ a b c x y Q R ha hb hg k
 cases a with
 | int i =>
  cases b with
  | int j =>
   have ha:=Uk ha
   have hb:=Uk hb
   cases hg
   exact ⟨i,j,ha,hb,k _ F H R (J4.refl _) (u7 _)⟩
  | _=>cases hg
 | _=>cases hg
theorem xr {K:PySem.W.Frag} {h:Int→Int→Bool}:Ut K (rI0 fun i j=>.bl (h i j)) (G6 h):=by
 intro Z α F H μ a b c x y Q R ha hb hg k
 cases a with
 | int i =>
  cases b with
  | int j =>
   have ha:=Uk ha
   have hb:=Uk hb
   cases hg
   exact ⟨i,j,ha,hb,k _ F H R (J4.refl _) (Yh _)⟩
  | _=>cases hg
 | _=>cases hg
noncomputable def gOr (g h:G2):G2:=fun a b=>match g a b with
 | some c=>some c
 | none=>h a b
theorem Ut.or {K:PySem.W.Frag} {r r':R2} {g g':G2} (h:Ut K r g) (h':Ut K r' g'):Ut K (fun x y H Q=>r x y H Q∨r' x y H Q) (gOr g g'):=by
 intro Z α F H μ a b c x y Q R ha hb hg k
 unfold gOr at hg
 cases e:g a b with
 | some d=>rw [e] at hg;have hg:d=c:=Option.some.inj hg;subst hg;exact .inl (h Z α F H μ a b _ x y Q R ha hb e k)
 | none=>rw [e] at hg;exact .inr (h' Z α F H μ a b c x y Q R ha hb hg k)
theorem OpM.or {f:Value→Value→Sem Value} {g g':G2} (h:OpM X f g) (h':OpM X f g'):OpM X f (gOr g g'):=by
 obtain ⟨r,a,b⟩:=h
 obtain ⟨r',a',b'⟩:=h'
 exact ⟨_,a.or a',b.or b'⟩
theorem OpM.as {f:Value→Value→Sem Value} {g g':G2} (h:OpM X f g) (e:∀ a b c,g' a b=some c→g a b=some c):OpM X f g':=by
 obtain ⟨r,a,b⟩:=h
 exact ⟨r,a,fun Z α F H μ p q c x y Q R ha hb hg k=>b Z α F H μ p q c x y Q R ha hb (e p q c hg) k⟩
noncomputable def Eb:G2:=fun a b=>match a,b with
 | .tup xs,.tup ys=>if decide (xs.length + ys.length≤16777216) && !xs.isEmpty then some (.tup (xs++ys)) else none
 | _,_=>none
noncomputable def au:G2:=fun a b=>match a,b with
 | .tup [],.tup ys=>some (.tup ys)
 | _,_=>none
noncomputable def a81:G2:=fun a b=>match a,b with
 | .lst xs,.lst ys=>if xs.length + ys.length≤16777216 then some (.lst (xs++ys)) else none
 | _,_=>none
noncomputable def Ea:G2:=fun a b=>match a,b with
 | .str xs,.str ys=>if xs.length + ys.length≤16777216 then some (.str (xs++ys)) else none
 | _,_=>none
noncomputable def uc:G2:=fun a b=>match a,b with
 | .int i,.int j=>some (.int (i + j))
 | .str xs,.str ys=>if xs.length + ys.length≤16777216 then some (.str (xs++ys)) else none
 | .tup xs,.tup ys=>if xs.length + ys.length≤16777216 then some (.tup (xs++ys)) else none
 | .lst xs,.lst ys=>if xs.length + ys.length≤16777216 then some (.lst (xs++ys)) else none
 | _,_=>none
theorem fy (x y:List Nat):(⟨x.toArray⟩:Str)++(⟨y.toArray⟩:Str)=⟨(x++y).toArray⟩:=by
 show Str.append _ _=_
 unfold Str.append
 simp
theorem a09:OpM X (binaryOp .Add) Ea:=by
 refine ⟨_,fk,fun Z α F H μ a b c x y Q R ha hb hg k=>?_⟩
 cases a with
 | str i =>
  cases b with
  | str j =>
   have ha:=Vu ha
   have hb:=Vu hb
   simp only [Ea] at hg
   split at hg
   ·rename_i hl
    cases hg
    refine ⟨_,_,ha,hb,by rw [sizeLine_eq];simpa [Str.length] using hl,?_⟩
    rw [fy]
    exact k _ F H R (J4.refl _) (Av _)
   ·cases hg
  | _=>cases hg
 | _=>cases hg
theorem a08:OpM X (binaryOp .Add) Eb:=by
 refine ⟨_,a04,fun Z α F H μ a b c x y Q R ha hb hg k=>?_⟩
 cases a with
 | tup i =>
  cases b with
  | tup j =>
   have ha0:=ha
   unfold Pk Rep at ha hb
   obtain ⟨p,vs,rfl,hs,hr⟩:=ha
   obtain ⟨p',vs',rfl,hs',hr'⟩:=hb
   simp only [Eb] at hg
   split at hg
   ·rename_i hl
    cases hg
    rw [Bool.and_eq_true] at hl
    have h1:=of_decide_eq_true hl.1
    refine ⟨p,p',vs,vs',rfl,rfl,J4.tup R.sub hs,J4.tup R.sub hs',?_,by rw [sizeLine_eq,← hr.length,← hr'.length];exact h1,fun he=>?_,fun _ q hq=>?_⟩
    ·intro he
     subst he
     have:=hr.length
     cases i with
     | nil=>simp at hl
     | cons _ _=>simp at this
    ·subst he
     have:=hr'.length
     cases j with
     | nil=>rw [List.append_nil] at k;exact k _ F H R (J4.refl _) ha0
     | cons _ _=>simp at this
    ·obtain ⟨a1,a2,a3⟩:=Vg R (hr.append hr') hq
     exact k _ _ _ a1 a2 a3
   ·cases hg
  | _=>cases hg
 | _=>cases hg
noncomputable def an3 (K:PySem.W.Frag):R2:=fun x y H Q=>∃ l b xs zs,x=.ref l∧y=.ref b∧SqL K H l xs∧SqL K H b zs∧xs.length + zs.length≤sizeLine∧∀ p,H p=none→Q (.ref p) (upd H p (.lst (xs++zs)))
theorem a05:OpR X (binaryOp .Add) (an3 X.K):=by
 intro pins s σ H x y v u Q I rx ry h
 obtain ⟨l,b,xs,zs,rfl,rfl,hH,hB,hz,q⟩:=h
 cases rx
 cases ry
 obtain ⟨its,r,pl,_⟩:=I.list hH
 obtain ⟨its2,r2,pl2,_⟩:=I.list hB
 obtain ⟨m,F⟩:=I.fr
 have e1:=r.length
 have e2:=r2.length
 obtain ⟨⟨cls,dd,data,sl⟩,n,ho,hc,hd,hs⟩:=pl
 obtain ⟨⟨cls2,dd2,data2,sl2⟩,n2,ho2,hc2,hd2,hs2⟩:=pl2
 simp only at hc hd hs hc2 hd2 hs2
 subst hc hd hs hc2 hd2 hs2
 have ea:its.toArray++its2.toArray=(its++its2).toArray:=by simp
 refine concat_meets ⟨_,ho,rfl⟩ ⟨_,ho2,rfl⟩ noFill_list_add seq_list_add PySem.F.slot_list_add PySem.F.entry_list_add (PySem.F.args_list_add_2 _ _) (list_addW l b its.toArray its2.toArray n n2 _ _ sl sl2 (by simp only [List.size_toArray];omega)) ⟨ho,ho2,?_⟩
 rw [ea]
 exact ⟨.ref _,_,I.lnew (t':=s.toks) (r.append r2) (by rw [List.length_append];omega),rfl,q _ I.fresh⟩
theorem B4:OpR X (binaryOp .Add) (fun x y H Q=>∃ a b ys,x=.ref a∧y=.ref b∧SqT X.K H a []∧SqT X.K H b ys∧Q (.ref b) H):=by
 intro pins s σ H x y v u Q I rx ry h
 obtain ⟨a,b,ys,rfl,rfl,ha,hb,q⟩:=h
 cases rx
 cases ry
 obtain ⟨its,r1,p1,_⟩:=I.tuple ha
 obtain ⟨its2,r2,p2,_⟩:=I.tuple hb
 have e1:its.length=0:=r1.length.symm
 obtain rfl:=List.length_eq_zero_iff.mp e1
 obtain ⟨o1,g1,c1,n1,d1⟩:=p1
 obtain ⟨o2,g2,c2,n2,d2⟩:=p2
 obtain ⟨k1,f1,w1,z1⟩:=o1
 obtain ⟨k2,f2,w2,z2⟩:=o2
 dsimp only at c1 d1 c2 d2
 subst c1 d1 c2 d2
 exact concat_meets ⟨_,g1,rfl⟩ ⟨_,g2,rfl⟩ noFill_tuple_add seq_tuple_add PySem.F.slot_tuple_add PySem.F.entry_tuple_add (PySem.F.args_tuple_add_2 _ _)
  (tuple_addW0 a b #[] its2.toArray n1 n2 f1 f2 z1 z2 rfl) ⟨g1,g2,.ref b,H,I,rfl,q⟩
theorem B7:OpM X (binaryOp .Add) au:=by
 refine ⟨_,B4,fun Z α F H μ a b c x y Q R ha hb hg k=>?_⟩
 cases a with
 | tup i =>
  cases i with
  | nil =>
   cases b with
   | tup j =>
    have hb0:=hb
    unfold Pk Rep at ha hb
    obtain ⟨p,vs,rfl,hs,hr⟩:=ha
    obtain ⟨p',vs',rfl,hs',hr'⟩:=hb
    cases hg
    have:=hr.length
    cases vs with
    | nil=>exact ⟨p,p',vs',rfl,rfl,J4.tup R.sub hs,J4.tup R.sub hs',k _ F H R (J4.refl _) hb0⟩
    | cons _ _=>simp at this
   | _=>cases hg
  | cons _ _=>cases b <;> cases hg
 | _=>cases hg
theorem a10:OpM X (binaryOp .Add) a81:=by
 refine ⟨_,a05,fun Z α F H μ a b c x y Q R ha hb hg k=>?_⟩
 cases a with
 | lst i =>
  cases b with
  | lst j =>
   unfold Pk at ha hb
   obtain ⟨p,vs,rfl,hs,hr⟩:=ha
   obtain ⟨p',vs',rfl,hs',hr'⟩:=hb
   simp only [a81] at hg
   split at hg
   ·rename_i hl
    cases hg
    refine ⟨p,p',vs,vs',rfl,rfl,hs,hs',by rw [sizeLine_eq,← hr.length,← hr'.length];exact hl,fun q hq=>?_⟩
    obtain ⟨a1,a2,a3⟩:=xk R (hr.append hr') hq
    exact k _ _ _ a1 a2 a3
   ·cases hg
  | _=>cases hg
 | _=>cases hg
theorem om_add:OpM X (binaryOp .Add) uc:=by
 have h0:OpM X (binaryOp .Add) (yi fun i j=>some (i + j)):=⟨_,af4,Zk⟩
 refine OpM.as (OpM.or h0 (OpM.or a09 (OpM.or B7 (OpM.or a08 a10)))) fun a b c h=>?_
 cases a with
 | int i=>cases b with
  | int j=>exact h
  | _=>cases h
 | str i=>cases b with
  | str j=>have h:Ea (.str i) (.str j)=some c:=h;simp only [gOr,yi,h]
  | _=>cases h
 | tup i=>cases b with
  | tup j =>
   cases i with
   | nil =>
    simp only [uc] at h
    split at h
    ·cases h;rfl
    ·cases h
   | cons i0 ir =>
    simp only [uc] at h
    split at h
    ·rename_i hl
     cases h
     have e:Eb (.tup (i0::ir)) (.tup j)=some (.tup (i0::ir++j)):=by
      simp only [Eb,List.isEmpty_cons,Bool.not_false,Bool.and_true]
      rw [if_pos (by simpa using hl)]
     simp only [gOr,yi,Ea,au,e]
    ·cases h
  | _=>cases h
 | lst i=>cases b with
  | lst j=>exact h
  | _=>cases h
 | _=>cases h
noncomputable def zx:G2:=yi fun i j=>some (i - j)
theorem Yx:OpM X (binaryOp .Sub) zx:=⟨_,ae3,Zk⟩
instance (i j:Int):Decidable (Cv i j):=by unfold Cv;infer_instance
instance (i j:Int):Decidable (a58 i j):=by unfold a58;infer_instance
noncomputable def yr:G2:=yi fun i j=>if Cv i j then some (i * j) else none
theorem om_mul:OpM X (binaryOp .Mult) yr:=⟨_,ae7,Xq⟩
noncomputable def CDv (i j:Int):Prop:=0 < j∧j < 18446744073709551616
instance (i j:Int):Decidable (CDv i j):=by unfold CDv;infer_instance
theorem af2:OpR X (binaryOp .FloorDiv) (rI CDv fun i j=>.int (i / j)):=opI fun i j _ _ _ _ _ hc q=>by
 have h1:(0:Int) < j:=hc.1
 have h2:j < 18446744073709551616:=hc.2
 refine floordiv_int (by omega) (by rw [Int.fdiv_eq_ediv_of_nonneg i (by omega)];exact q) (.inl (PyProof.noPylong_of_log2 ?_))
 have h3:j.natAbs < 2 ^ 64:=by omega
 have h4:j.natAbs≠0:=by omega
 have:=(Nat.log2_lt h4).mpr h3
 omega
noncomputable def Ul:G2:=yi fun i j=>if CDv i j then some (i / j) else none
theorem om_div:OpM X (binaryOp .FloorDiv) Ul:=⟨_,af2,Xq⟩
noncomputable def ux:G2:=yi fun i j=>if 0 < j then some (i % j) else none
theorem om_mod:OpM X (binaryOp .Mod) ux:=⟨_,ae8,Xq⟩
noncomputable def a43:G2:=yi fun i j=>some (Builtin.bitAnd i j)
theorem Ey:OpM X (binaryOp .BitAnd) a43:=⟨_,af3,Zk⟩
noncomputable def ai3:G2:=yi fun i j=>some (Builtin.bitOr i j)
theorem af7:OpM X (binaryOp .BitOr) ai3:=⟨_,ao6,Zk⟩
noncomputable def ai1:G2:=yi fun i j=>some (Builtin.bitXor i j)
theorem a07:OpM X (binaryOp .BitXor) ai1:=⟨_,ae2,Zk⟩
noncomputable def a41:G2:=yi fun i j=>if a58 i j then some (i * 2 ^ j.toNat) else none
theorem af6:OpM X (binaryOp .LShift) a41:=⟨_,ae5,Xq⟩
noncomputable def a40:G2:=yi fun i j=>if 0≤j then some (i / 2 ^ j.toNat) else none
theorem af5:OpM X (binaryOp .RShift) a40:=⟨_,ae4,Xq⟩
noncomputable def gLt:G2:=G6 fun i j=>decide (i < j)
noncomputable def gLe:G2:=G6 fun i j=>decide (i≤j)
noncomputable def gGt:G2:=G6 fun i j=>decide (j < i)
noncomputable def gGe:G2:=G6 fun i j=>decide (j≤i)
theorem Ez:OpM X (compareOp .Lt) gLt:=⟨_,ao7,xr⟩
theorem ap1:OpM X (compareOp .LtE) gLe:=⟨_,ao8,xr⟩
theorem v9:OpM X (compareOp .Gt) gGt:=⟨_,ao9,xr⟩
theorem gx:OpM X (compareOp .GtE) gGe:=⟨_,ap0,xr⟩
end
mutual
noncomputable def jn:D→Bool
 | .non=>true
 | .bl _=>true
 | .int _=>true
 | .str x=>x.all (· < 0x110000)
 | .tup xs=>plainDs xs
 | .lst xs=>plainDs xs
 | .dic _ _=>false
 | .ref _=>false
noncomputable def plainDs:List D→Bool
 | []=>true
 | d::ds=>jn d && plainDs ds
end
mutual
noncomputable def dpt:D→Nat
 | .tup xs=>dpts xs + 1
 | .lst xs=>dpts xs + 1
 | _=>0
noncomputable def dpts:List D→Nat
 | []=>0
 | d::ds=>max (dpt d) (dpts ds)
end
mutual
noncomputable def Jd:D→PyData
 | .non=>.none
 | .bl b=>.bool b
 | .int i=>.int i
 | .str x=>.str ⟨x.toArray⟩
 | .tup xs=>.tuple (toPys xs)
 | .lst xs=>.list (toPys xs)
 | .dic _ _=>.none
 | .ref _=>.none
noncomputable def toPys:List D→List PyData
 | []=>[]
 | d::ds=>Jd d::toPys ds
end
mutual
noncomputable def eqD:D→D→Bool
 | .non,b=>match b with
  | .non=>true
  | _=>false
 | .bl a,b=>match b with
  | .bl c=>a == c
  | .int j=>(if a then 1 else 0) == j
  | _=>false
 | .int i,b=>match b with
  | .int j=>i == j
  | .bl c=>i == (if c then 1 else 0)
  | _=>false
 | .str x,b=>match b with
  | .str y=>x == y
  | _=>false
 | .tup xs,b=>match b with
  | .tup ys=>eqDs xs ys
  | _=>false
 | .lst xs,b=>match b with
  | .lst ys=>eqDs xs ys
  | _=>false
 | .dic _ _,_=>false
 | .ref _,_=>false
noncomputable def eqDs:List D→List D→Bool
 | [],b=>b.isEmpty
 | x::xs,b=>match b with
  | []=>false
  | y::ys=>eqD x y && eqDs xs ys
end
theorem fz (x y:List Nat):((⟨x.toArray⟩:Str) == (⟨y.toArray⟩:Str))=(x == y):=by
 rw [Bool.eq_iff_iff]
 simp
mutual
theorem Y5:∀ (a b:D),jn a=true→jn b=true→PyData.eqv (Jd a) (Jd b)=eqD a b
 | .non,b,_,hb=>by cases b <;> first | (simp [jn] at hb;done) | (simp [Jd,eqD,PyData.eqv];done)
 | .bl a,b,_,hb=>by cases b <;> first | (simp [jn] at hb;done) | (simp [Jd,eqD,PyData.eqv];done)
 | .int a,b,_,hb=>by cases b <;> first | (simp [jn] at hb;done) | (simp [Jd,eqD,PyData.eqv];done)
 | .str a,b,_,hb=>by
  cases b with
  | str y=>simp only [Jd,eqD,PyData.eqv];exact fz _ _
  | dic _ _=>simp [jn] at hb
  | ref _=>simp [jn] at hb
  | _=>simp [Jd,eqD,PyData.eqv]
 | .tup a,b,ha,hb=>by
  cases b with
  | tup b=>simp only [Jd,eqD,PyData.eqv];exact eqvs_toPys a b (by simpa [jn] using ha) (by simpa [jn] using hb)
  | dic _ _=>simp [jn] at hb
  | ref _=>simp [jn] at hb
  | _=>simp [Jd,eqD,PyData.eqv]
 | .lst a,b,ha,hb=>by
  cases b with
  | lst b=>simp only [Jd,eqD,PyData.eqv];exact eqvs_toPys a b (by simpa [jn] using ha) (by simpa [jn] using hb)
  | dic _ _=>simp [jn] at hb
  | ref _=>simp [jn] at hb
  | _=>simp [Jd,eqD,PyData.eqv]
 | .dic _ _,_,ha,_=>by simp [jn] at ha
 | .ref _,_,ha,_=>by simp [jn] at ha
theorem eqvs_toPys:∀ (a b:List D),plainDs a=true→plainDs b=true→PyData.eqvAll (toPys a) (toPys b)=eqDs a b
 | [],[],_,_=>by simp [toPys,eqDs,PyData.eqvAll]
 | [],_::_,_,_=>by simp [toPys,eqDs,PyData.eqvAll]
 | _::_,[],_,_=>by simp [toPys,eqDs,PyData.eqvAll]
 | x::xs,y::ys,ha,hb=>by
  simp only [plainDs,Bool.and_eq_true] at ha hb
  simp only [toPys,eqDs,PyData.eqvAll]
  rw [Y5 x y ha.1 hb.1,eqvs_toPys xs ys ha.2 hb.2]
end
mutual
theorem u5:∀ (a:D),jn a=true→(Jd a).canLay0=true
 | .non,_=>by simp [Jd,PyData.canLay0]
 | .bl _,_=>by simp [Jd,PyData.canLay0]
 | .int _,_=>by simp [Jd,PyData.canLay0]
 | .str x,h=>by simp only [Jd,PyData.canLay0,PyData.strOk];simpa [jn] using h
 | .tup xs,h=>by simp only [Jd,PyData.canLay0];exact canLays_toPy xs (by simpa [jn] using h)
 | .lst xs,h=>by simp only [Jd,PyData.canLay0];exact canLays_toPy xs (by simpa [jn] using h)
 | .dic _ _,h=>by simp [jn] at h
 | .ref _,h=>by simp [jn] at h
theorem canLays_toPy:∀ (a:List D),plainDs a=true→PyData.canLayAll0 (toPys a)=true
 | [],_=>by simp [toPys,PyData.canLayAll0]
 | x::xs,h=>by
  simp only [plainDs,Bool.and_eq_true] at h
  simp only [toPys,PyData.canLayAll0,u5 x h.1,canLays_toPy xs h.2,Bool.and_self]
end
mutual
theorem yw:∀ (a:D),(Jd a).depth=dpt a
 | .non=>by simp [Jd,PyData.depth,dpt]
 | .bl _=>by simp [Jd,PyData.depth,dpt]
 | .int _=>by simp [Jd,PyData.depth,dpt]
 | .str x=>by simp [Jd,PyData.depth,dpt]
 | .tup xs=>by simp only [Jd,PyData.depth,dpt];rw [depths_toPys xs]
 | .lst xs=>by simp only [Jd,PyData.depth,dpt];rw [depths_toPys xs]
 | .dic _ _=>by simp [Jd,PyData.depth,dpt]
 | .ref _=>by simp [Jd,PyData.depth,dpt]
theorem depths_toPys:∀ (a:List D),PyData.depthAll (toPys a)=dpts a
 | []=>by simp [toPys,PyData.depthAll,dpts]
 | x::xs=>by simp only [toPys,PyData.depthAll,dpts];rw [yw x,depths_toPys xs]
end
section
variable {X:Cx} {EX:EXT}
mutual
theorem Xj {pins:List (Addr×Obj)} {σ:L2.St} {H F:Hp} {s:Shared} {α:List Addr} (I:Inv X pins σ H s) (sub:J4 F H):∀ (d:D) (v:V) (u:Value),jn d=true→Rep X.K F α d v→J3 v u→∃ as,Reads s.heap u (Jd d) as
 | .non,v,u,_,h,r=>by unfold Rep at h;subst h;cases r;exact ⟨_,by rw [Jd];exact .none⟩
 | .bl b,v,u,_,h,r=>by unfold Rep at h;subst h;cases r;exact ⟨_,by rw [Jd];exact .bool b⟩
 | .int b,v,u,_,h,r=>by unfold Rep at h;subst h;obtain ⟨t,rfl⟩:=r;exact ⟨_,by rw [Jd];exact .int b t⟩
 | .str b,v,u,_,h,r=>by unfold Rep at h;subst h;obtain ⟨t,rfl⟩:=r;exact ⟨_,by rw [Jd];exact .str _ t⟩
 | .tup ds,v,u,hp,h,r=>by
  unfold Rep at h
  obtain ⟨a,vs,rfl,hs,hr⟩:=h
  cases r
  obtain ⟨its,rv,⟨o,e1,e2,n,e3⟩,_⟩:=I.tuple (J4.tup sub hs)
  obtain ⟨as,q⟩:=readsAll_of I sub ds vs its (by simpa [jn] using hp) hr rv
  exact ⟨_,by rw [Jd];exact .tuple e1 e2 e3 (by simpa using q)⟩
 | .lst ds,v,u,hp,h,r=>by
  unfold Rep at h
  obtain ⟨a,vs,rfl,hs,hr⟩:=h
  cases r
  obtain ⟨its,rv,⟨o,n,e1,e2,_,e3⟩,_⟩:=I.list (sub.seq hs)
  obtain ⟨as,q⟩:=readsAll_of I sub ds vs its (by simpa [jn] using hp) hr rv
  exact ⟨_,by rw [Jd];exact .list e1 e2 e3 (by simpa using q)⟩
 | .dic _ _,_,_,hp,_,_=>by simp [jn] at hp
 | .ref _,_,_,hp,_,_=>by simp [jn] at hp
theorem readsAll_of {pins:List (Addr×Obj)} {σ:L2.St} {H F:Hp} {s:Shared} {α:List Addr} (I:Inv X pins σ H s) (sub:J4 F H):∀ (ds:List D) (vs:List V) (us:List Value),plainDs ds=true→Reps X.K F α ds vs→J7 vs us→∃ as,ReadsAll s.heap us (toPys ds) as
 | [],vs,us,_,h,r=>by unfold Reps at h;subst h;cases r;exact ⟨_,by rw [toPys];exact .nil⟩
 | d::ds,vs,us,hp,h,r=>by
  unfold Reps at h
  obtain ⟨v,vr,rfl,h1,h2⟩:=h
  cases r with
  | cons r1 r2 =>
   simp only [plainDs,Bool.and_eq_true] at hp
   obtain ⟨as,q1⟩:=Xj I sub d v _ hp.1 h1 r1
   obtain ⟨bs,q2⟩:=readsAll_of I sub ds vr _ hp.2 h2 r2
   exact ⟨_,by rw [toPys];exact .cons q1 q2⟩
end
theorem Yg {pins:List (Addr×Obj)} {σ:L2.St} {H F:Hp} {s:Shared} {α:List Addr} (I:Inv X pins σ H s) (sub:J4 F H) {d:D} {v:V} {u:Value} (hp:jn d=true) (h:Pk X.K α F H d v) (r:J3 v u):∃ as,Reads s.heap u (Jd d) as:=by
 cases d with
 | lst ds =>
  obtain ⟨a,vs,rfl,hs,hr⟩:=h
  cases r
  obtain ⟨its,rv,⟨o,n,e1,e2,_,e3⟩,_⟩:=I.list hs
  obtain ⟨as,q⟩:=readsAll_of I sub ds vs its (by simpa [jn] using hp) hr rv
  exact ⟨_,by rw [Jd];exact .list e1 e2 e3 (by simpa using q)⟩
 | dic _ _=>simp [jn] at hp
 | _=>exact Xj (α:=α) I sub _ v u hp h r
noncomputable def qh (a b:D):Bool:=jn a && jn b && decide (min (dpt a) (dpt b)≤100)
noncomputable def gEq:G2:=fun a b=>if qh a b then some (.bl (eqD a b)) else none
noncomputable def gNe:G2:=fun a b=>if qh a b then some (.bl (!eqD a b)) else none
noncomputable def an1 (K:PySem.W.Frag) (neg:Bool):R2:=fun x y H Q=>∃ F α a b,J4 F H∧Pk K α F H a x∧Pk K α F H b y∧qh a b=true∧Q (.bl (if neg then !eqD a b else eqD a b)) H
theorem Gq {A:Around} {a b:D} (hu:A.units + 200 < cLine) (h:qh a b=true):A.units + min (Jd a).depth (Jd b).depth < cLine:=by
 unfold qh at h
 simp only [Bool.and_eq_true,decide_eq_true_eq] at h
 rw [yw,yw]
 omega
theorem af1 (hu:X.A.units + 200 < cLine):OpR X (compareOp .Eq) (an1 X.K false):=by
 intro pins s σ H x y v u Q I rx ry h
 obtain ⟨F,α,a,b,sub,ha,hb,hc,q⟩:=h
 have hc':=hc
 unfold qh at hc'
 simp only [Bool.and_eq_true] at hc'
 obtain ⟨as,r1⟩:=Yg I sub hc'.1.1 ha rx
 obtain ⟨bs,r2⟩:=Yg I sub hc'.1.2 hb ry
 refine PySem.SeqAt.compareEq_reads r1 r2 (u5 _ hc'.1.1) (u5 _ hc'.1.2) (Gq hu hc) ?_
 rw [Y5 _ _ hc'.1.1 hc'.1.2]
 exact ⟨.bl _,H,I,rfl,q⟩
theorem ae6 (hu:X.A.units + 200 < cLine):OpR X (compareOp .NotEq) (an1 X.K true):=by
 intro pins s σ H x y v u Q I rx ry h
 obtain ⟨F,α,a,b,sub,ha,hb,hc,q⟩:=h
 have hc':=hc
 unfold qh at hc'
 simp only [Bool.and_eq_true] at hc'
 obtain ⟨as,r1⟩:=Yg I sub hc'.1.1 ha rx
 obtain ⟨bs,r2⟩:=Yg I sub hc'.1.2 hb ry
 refine PySem.SeqAt.compareNe_reads r1 r2 (u5 _ hc'.1.1) (u5 _ hc'.1.2) (Gq hu hc) ?_
 rw [Y5 _ _ hc'.1.1 hc'.1.2]
 exact ⟨.bl _,H,I,rfl,q⟩
theorem jh (hu:X.A.units + 200 < cLine):OpM X (compareOp .Eq) gEq:=by
 refine ⟨_,af1 hu,fun Z α F H μ a b c x y Q R ha hb hg k=>?_⟩
 unfold gEq at hg
 split at hg
 ·rename_i hc
  cases hg
  exact ⟨F,α,a,b,R.sub,ha,hb,hc,k _ F H R (J4.refl _) (Yh _)⟩
 ·cases hg
theorem E9 (hu:X.A.units + 200 < cLine):OpM X (compareOp .NotEq) gNe:=by
 refine ⟨_,ae6 hu,fun Z α F H μ a b c x y Q R ha hb hg k=>?_⟩
 unfold gNe at hg
 split at hg
 ·rename_i hc
  cases hg
  exact ⟨F,α,a,b,R.sub,ha,hb,hc,k _ F H R (J4.refl _) (Yh _)⟩
 ·cases hg
noncomputable def inD (x:D) (ds:List D):Bool:=ds.any fun y=>eqD y x
noncomputable def qv (x:D) (ds:List D):Bool:=jn x && plainDs ds && decide (dpt x≤100)
noncomputable def av (neg:Bool):G2:=fun a b=>match b with
 | .lst ds=>if qv a ds then some (.bl (if neg then !inD a ds else inD a ds)) else none
 | .tup ds=>if qv a ds then some (.bl (if neg then !inD a ds else inD a ds)) else none
 | _=>none
noncomputable def gIn:G2:=av false
noncomputable def wc:G2:=av true
theorem Ve {pins:List (Addr×Obj)} {σ:L2.St} {H F:Hp} {s:Shared} {α:List Addr} {A:Around} (hu:A.units + 150 < cLine) (I:Inv X pins σ H s) (sub:J4 F H) {x:D} {v:V} {u:Value} (hx:jn x=true) (hd:dpt x≤100)
  (h:Pk X.K α F H x v) (r:J3 v u) (ds:List D) (vs:List V) (us:List Value) (hp:plainDs ds=true) (hr:Reps X.K F α ds vs) (rv:J7 vs us) :
  ∃ e:Value→Bool,(∀ w∈us,SeqAt.EqAt A s w u (e w))∧us.any e=inD x ds:=by
 obtain ⟨bs,rx⟩:=Yg I sub hx h r
 have hone:∀ (d:D) (w:Value) (as:List Addr),jn d=true→Reads s.heap w (Jd d) as→SeqAt.EqAt A s w u (eqD d x):=fun d w as hd' q=>by
  have:=PySem.SeqAt.eqAt_reads (Jd d) (Jd x) A s w u as bs q rx (u5 _ hd') (u5 _ hx) (by rw [yw,yw];omega)
  rw [Y5 _ _ hd' hx] at this
  exact this
 classical
 let e:Value→Bool:=fun w=>decide (∃ d as,jn d=true∧Reads s.heap w (Jd d) as∧eqD d x=true)
 have he:∀ (d:D) (w:Value) (as:List Addr),jn d=true→Reads s.heap w (Jd d) as→e w=eqD d x:=fun d w as hd' q=>by
  cases hq:eqD d x with
  | true=>exact decide_eq_true ⟨d,as,hd',q,hq⟩
  | false =>
   refine decide_eq_false ?_
   rintro ⟨d2,as2,hp2,q2,e2⟩
   have e3:=PySem.SeqAt.Reads.unique (Jd d) (Jd d2) w as as2 (u5 _ hd') q q2
   rw [← Y5 _ _ hp2 hx,← e3,Y5 _ _ hd' hx,hq] at e2
   cases e2
 have all:∀ (ds:List D) (vs:List V) (us:List Value),plainDs ds=true→Reps X.K F α ds vs→J7 vs us→(∀ w∈us,SeqAt.EqAt A s w u (e w))∧us.any e=inD x ds:=by
  intro ds
  induction ds with
  | nil =>
   intro vs us _ hr rv
   unfold Reps at hr
   subst hr
   cases rv
   exact ⟨fun w hw=>(nomatch hw),rfl⟩
  | cons d ds ih =>
   intro vs us hp hr rv
   unfold Reps at hr
   obtain ⟨v1,vr,rfl,h1,h2⟩:=hr
   simp only [plainDs,Bool.and_eq_true] at hp
   cases rv with
   | cons r1 r2 =>
    obtain ⟨as,q1⟩:=Xj I sub d v1 _ hp.1 h1 r1
    obtain ⟨a1,a2⟩:=ih vr _ hp.2 h2 r2
    refine ⟨fun w hw=>?_,?_⟩
    ·rcases List.mem_cons.mp hw with rfl | hw
     ·rw [he d _ as hp.1 q1];exact hone d _ as hp.1 q1
     ·exact a1 w hw
    ·rw [List.any_cons,he d _ as hp.1 q1,a2]
     rfl
 exact ⟨e,(all ds vs us hp hr rv).1,(all ds vs us hp hr rv).2⟩
noncomputable def ab8 (K:PySem.W.Frag) (neg:Bool):R2:=fun x y H Q=>∃ F α a ds p vs,J4 F H∧Pk K α F H a x∧y=.ref p∧(SqL K H p vs∨SqT K H p vs)∧Reps K F α ds vs∧qv a ds=true∧Q (.bl (if neg then !inD a ds else inD a ds)) H
theorem ae9 (hu:X.A.units + 200 < cLine):OpR X (compareOp .In) (ab8 X.K false):=by
 intro pins s σ H x y v u Q I rx ry h
 obtain ⟨F,α,a,ds,p,vs,sub,ha,rfl,hq,hr,hc,q⟩:=h
 unfold qv at hc
 simp only [Bool.and_eq_true,decide_eq_true_eq] at hc
 cases ry
 rcases hq with hq | hq
 ·obtain ⟨its,r,pl,hz⟩:=I.list hq
  obtain ⟨e,e1,e2⟩:=Ve (A:=X.A.in1) (by show X.A.units + 1 + 150 < cLine;omega) I sub hc.1.1 hc.2 ha rx ds vs its hc.1.2 hr r
  refine SeqAt.in_listAt e pl.isList (fun w hw=>e1 w (by simpa using hw)) ⟨.bl _,H,I,rfl,?_⟩
  rw [show its.toArray.any e=its.any e by simp,e2]
  exact q
 ·obtain ⟨its,r,pl,hz⟩:=I.tuple hq
  obtain ⟨e,e1,e2⟩:=Ve (A:=X.A.in1) (by show X.A.units + 1 + 150 < cLine;omega) I sub hc.1.1 hc.2 ha rx ds vs its hc.1.2 hr r
  refine SeqAt.in_tupleAt e pl (fun w hw=>e1 w (by simpa using hw)) ⟨.bl _,H,I,rfl,?_⟩
  rw [show its.toArray.any e=its.any e by simp,e2]
  exact q
theorem Di (hu:X.A.units + 200 < cLine):OpR X (compareOp .NotIn) (ab8 X.K true):=by
 intro pins s σ H x y v u Q I rx ry h
 obtain ⟨F,α,a,ds,p,vs,sub,ha,rfl,hq,hr,hc,q⟩:=h
 unfold qv at hc
 simp only [Bool.and_eq_true,decide_eq_true_eq] at hc
 cases ry
 rcases hq with hq | hq
 ·obtain ⟨its,r,pl,hz⟩:=I.list hq
  obtain ⟨e,e1,e2⟩:=Ve (A:=X.A.in1) (by show X.A.units + 1 + 150 < cLine;omega) I sub hc.1.1 hc.2 ha rx ds vs its hc.1.2 hr r
  refine SeqAt.notIn_listAt e pl.isList (fun w hw=>e1 w (by simpa using hw)) ⟨.bl _,H,I,rfl,?_⟩
  rw [show its.toArray.any e=its.any e by simp,e2]
  exact q
 ·obtain ⟨its,r,pl,hz⟩:=I.tuple hq
  obtain ⟨e,e1,e2⟩:=Ve (A:=X.A.in1) (by show X.A.units + 1 + 150 < cLine;omega) I sub hc.1.1 hc.2 ha rx ds vs its hc.1.2 hr r
  refine SeqAt.notIn_tupleAt e pl (fun w hw=>e1 w (by simpa using hw)) ⟨.bl _,H,I,rfl,?_⟩
  rw [show its.toArray.any e=its.any e by simp,e2]
  exact q
theorem a62 {K:PySem.W.Frag} (neg:Bool):Ut K (ab8 K neg) (av neg):=by
 intro Z α F H μ a b c x y Q R ha hb hg k
 cases b with
 | lst ds =>
  simp only [av] at hg
  split at hg
  ·rename_i hc
   have hg:=Option.some.inj hg
   subst hg
   obtain ⟨p,vs,rfl,hs,hr⟩:=hb
   exact ⟨F,α,a,ds,p,vs,R.sub,ha,rfl,.inl hs,hr,hc,k _ F H R (J4.refl _) (Yh _)⟩
  ·cases hg
 | tup ds =>
  simp only [av] at hg
  split at hg
  ·rename_i hc
   have hg:=Option.some.inj hg
   subst hg
   unfold Pk Rep at hb
   obtain ⟨p,vs,rfl,hs,hr⟩:=hb
   exact ⟨F,α,a,ds,p,vs,R.sub,ha,rfl,.inr (J4.tup R.sub hs),hr,hc,k _ F H R (J4.refl _) (Yh _)⟩
  ·cases hg
 | _=>cases hg
theorem Za (hu:X.A.units + 200 < cLine):OpM X (compareOp .In) gIn:=⟨_,ae9 hu,a62 false⟩
theorem B6 (hu:X.A.units + 200 < cLine):OpM X (compareOp .NotIn) wc:=⟨_,Di hu,a62 true⟩
end
end M
set_option Elab.async false
set_option linter.all false
set_option maxRecDepth 100000
set_option maxHeartbeats 4000000
namespace M
open PySem PySem.Spec PyProof.Rows L2
noncomputable def wu (d:D):Option DK:=match d with
 | .int i=>some (.inl i)
 | .str x=>some (.inr x)
 | _=>none
noncomputable def jc:List DK→List D→DK→Option D
 | k::ks,v::vs,q=>if k=q then some v else jc ks vs q
 | _,_,_=>none
theorem K6 {a b:DK} (h:dk a=dk b):a=b:=by
 cases a with
 | inl i =>
  cases b with
  | inl j=>exact congrArg _ (Sum.inl.inj h)
  | inr y=>cases h
 | inr x =>
  cases b with
  | inl j=>cases h
  | inr y =>
   have h2:(⟨x.toArray⟩:Str)=⟨y.toArray⟩:=Sum.inr.inj h
   have h3:x.toArray=y.toArray:=by injection h2
   have h4:x=y:=by simpa using congrArg Array.toList h3
   rw [h4]
theorem Fz {K:PySem.W.Frag} {α:List Addr} {F H:Hp} {d:D} {v:V} {k:DK} (h:Pk K α F H d v) (e:wu d=some k):v=kV (dk k):=by
 cases d with
 | int i=>cases e;exact Uk h
 | str x=>cases e;exact Vu h
 | _=>cases e
theorem qw {K:PySem.W.Frag} {F:Hp} {α:List Addr}:∀ {ks:List DK} {ds:List D} {vs:List V} {k:DK},Reps K F α ds vs→ks.length=ds.length →
  (∃ d v,jc ks ds k=some d∧Y9 ((ks.map dk).zip vs) (dk k)=some v∧Rep K F α d v)∨(jc ks ds k=none∧Y9 ((ks.map dk).zip vs) (dk k)=none)
 | [],_,_,_,_,_=>.inr ⟨rfl,rfl⟩
 | q::ks,[],vs,k,_,hl=>by simp at hl
 | q::ks,d::ds,vs,k,h,hl=>by
  unfold Reps at h
  obtain ⟨v,vr,rfl,h1,h2⟩:=h
  by_cases e:q=k
  ·subst e
   refine .inl ⟨d,v,by simp [jc],?_,h1⟩
   exact Zo (p:=(dk q,v)) rfl
  ·have e2:¬ dk q=dk k:=fun z=>e (K6 z)
   have ih:=qw (k:=k) h2 (by simpa using hl)
   rw [show jc (q::ks) (d::ds) k=jc ks ds k by simp [jc,e],show Y9 (((q::ks).map dk).zip (v::vr)) (dk k)=Y9 ((ks.map dk).zip vr) (dk k) from Zn (p:=(dk q,v)) e2]
   exact ih
noncomputable def Ux:G2:=fun a b=>match a with
 | .dic ks vs=>(wu b).bind (jc ks vs)
 | _=>none
noncomputable def a42 (neg:Bool):G2:=fun b a=>match a with
 | .dic ks vs=>(wu b).map fun k=>.bl (if neg then !(jc ks vs k).isSome else (jc ks vs k).isSome)
 | _=>none
section
variable {X:Cx} {EX:EXT} {e a b c:Expr} {pos:Pos} {m ma mb mc:MX} {es rest:List Expr}
theorem A4 {K:PySem.W.Frag}:Ut K (fun x y H Q=>∃ a v,x=.ref a∧Qm H a y (some v)∧Q v H) Ux:=by
 intro Z α F H μ a b c x y Q R ha hb hg k
 cases a with
 | dic ks ds =>
  simp only [Ux] at hg
  cases hk:wu b with
  | none=>rw [hk] at hg;cases hg
  | some q =>
   rw [hk] at hg
   have hy:=Fz hb hk
   obtain ⟨p,vs,rfl,hs,hl,hr⟩:=ha
   rcases qw (k:=q) hr hl with ⟨d,v,h1,h2,h3⟩ | ⟨h1,h2⟩
   ·have hg:jc ks ds q=some c:=hg
    rw [h1] at hg
    cases hg
    subst hy
    exact ⟨p,v,rfl,by rw [← h2];exact Qm.k hs,k v F H R (J4.refl _) h3⟩
   ·have hg:jc ks ds q=some c:=hg
    rw [h1] at hg
    cases hg
 | _=>cases hg
theorem xl (hu:X.A.units + 200 < cLine) (ha:ME X EX a ma) (hb:ME X EX b mb) (hs:a57 b):ME X EX (.Subscript a b pos) (mBin Ux ma mb):=by
 obtain ⟨ta,pa,sa⟩:=ha
 obtain ⟨tb,pb,sb⟩:=hb
 exact ⟨_,Ac (by omega) pa pb hs,Y3 (r:=fun x y H Q=>∃ a v,x=.ref a∧Qm H a y (some v)∧Q v H) sa sb A4⟩
theorem aa7 {K:PySem.W.Frag} (neg:Bool):Ut K (fun y x H Q=>∃ a o,x=.ref a∧Qm H a y o∧Q (.bl (if neg then !o.isSome else o.isSome)) H) (a42 neg):=by
 intro Z α F H μ b a c y x Q R hb ha hg k
 cases a with
 | dic ks ds =>
  simp only [a42] at hg
  cases hk:wu b with
  | none=>rw [hk] at hg;cases hg
  | some q =>
   rw [hk] at hg
   have hg:=Option.some.inj hg
   subst hg
   have hy:=Fz hb hk
   subst hy
   obtain ⟨p,vs,rfl,hs,hl,hr⟩:=ha
   refine ⟨p,_,rfl,Qm.k hs,k _ F H R (J4.refl _) ?_⟩
   show Rep K F α (D.bl (if neg=true then !(jc ks ds q).isSome else (jc ks ds q).isSome)) _
   rcases qw (k:=q) hr hl with ⟨d,v,h1,h2,h3⟩ | ⟨h1,h2⟩
   ·rw [h1,h2];exact Yh _
   ·rw [h1,h2];exact Yh _
 | _=>cases hg
theorem Dc (hu:X.A.units + 200 < cLine) (ha:ME X EX a ma) (hb:ME X EX b mb) (hm:behindInMarks .NotIn b=false):MT X EX (.Compare a [.NotIn] [b] pos) (j5 (mBin (a42 true) ma mb)):=by
 obtain ⟨ta,pa,sa⟩:=ha
 obtain ⟨tb,pb,sb⟩:=hb
 exact ⟨_,bu (Dk (by omega) pa pb) hm,Qt (Y3 (r:=fun y x H Q=>∃ a o,x=.ref a∧Qm H a y o∧Q (.bl (if true then !o.isSome else o.isSome)) H) sa sb (aa7 true))⟩
theorem RH.hold {K:PySem.W.Frag} {Z:ZS} {F H:Hp} {α:List Addr} {μ:Mu} {p:Addr} (o:HO) (r:RH K Z α F H μ) (hp:H p=none):RH K (ZS.up Z p o) α F (upd H p o) μ:=by
 have fp:F p=none:=by
  cases e:F p with
  | none=>rfl
  | some u=>rw [r.sub _ _ e] at hp;cases hp
 refine ⟨fun b u e=>?_,r.len,fun k a c ha hc=>?_,fun b u e=>?_,fun b u e=>?_,fun k a c ha hc hd=>?_,r.dis,r.ext⟩
 ·rw [jw (jj (r.sub b u e) hp)];exact r.sub b u e
 ·have h:=r.cell k a c ha hc
  exact h.go (Ext.refl _ _) (fun _=>rfl) fun hd=>let ⟨_,_,z⟩:=h.live hd;jw (jj z hp)
 ·by_cases hb:b=p
  ·subst hb;rw [uo] at e;rw [jt];exact e
  ·rw [Uq hb] at e;rw [jw hb];exact r.zs b u e
 ·by_cases hb:b=p
  ·subst hb;exact fp
  ·rw [Uq hb] at e;exact r.zf b u e
 ·have h:=r.cell k a c ha hc
  have hz:=r.zc k a c ha hc hd
  obtain ⟨_,_,z⟩:=h.live hd
  rw [Uq (jj z hp)];exact hz
theorem RH.unhold {K:PySem.W.Frag} {Z:ZS} {F H:Hp} {α:List Addr} {μ:Mu} {p:Addr} {o:HO} (o':HO) (r:RH K (ZS.up Z p o) α F H μ) (hz:Z.z p=none):RH K Z α (upd F p o') (upd H p o') μ∧J4 F (upd F p o'):=by
 have fp:F p=none:=r.zf p o uo
 have sF:J4 F (upd F p o'):=fun b u e=>by rw [jw (jj e fp)];exact e
 have ex:Ext α F α (upd F p o'):=⟨sF,fun _ _ h=>h⟩
 have nc:∀ (k:Nat) (a:Addr) (c:Cell),α[k]? =some a→μ[k]? =some c→c≠.dead→a≠p:=fun k a c ha hc hd z=>by
  have:=r.zc k a c ha hc hd
  rw [z,uo] at this
  cases this
 refine ⟨⟨fun b u e=>?_,r.len,fun k a c ha hc=>?_,fun b u e=>?_,fun b u e=>?_,fun k a c ha hc hd=>?_,r.dis,r.ext.trans ex⟩,sF⟩
 ·by_cases hb:b=p
  ·subst hb;rw [jt] at e ⊢;exact e
  ·rw [jw hb] at e ⊢;exact r.sub b u e
 ·exact (r.cell k a c ha hc).go ex (fun hd=>jw (nc k a c ha hc hd)) fun hd=>jw (nc k a c ha hc hd)
 ·have hb:b≠p:=jj e hz
  rw [jw hb]
  exact r.zs b u (by rw [Uq hb];exact e)
 ·have hb:b≠p:=jj e hz
  rw [jw hb]
  exact r.zf b u (by rw [Uq hb];exact e)
 ·have ne:=nc k a c ha hc hd
  have:=r.zc k a c ha hc hd
  rw [Uq ne] at this
  exact this
noncomputable def MPs (X:Cx) (EX:EXT) (pos:Pos) (keys:List (Option Expr)) (values:List Expr) (ks:List DK) (ms:MAs):Prop :=
 keys.length=ks.length∧(∃ trs,PPs X pos keys values trs∧∀ Z α F H σ ρ μ Q,RS X.K Z α F H σ ρ μ→GA X.K EX Z α F (fun vs H'=>Q ((ks.map fun k=>kV (dk k)).zip vs) H') (ms ρ μ)→V9 trs σ H Q)∧∀ ρ μ ds μ',ms ρ μ=.ok ds μ'→ds.length=ks.length
theorem Vj:MPs X EX pos [] [] [] mNil:=⟨rfl,⟨[],Ah,fun Z α F H σ ρ μ Q R g=>g [] α F H R.hp (Ext.refl _ _) jo⟩,fun ρ μ ds μ' h=>by cases h;rfl⟩
theorem ui {x:Str} {cs:List Nat} {j:Nat} {p:Pos} {v:Expr} {ks:List (Option Expr)} {vs:List Expr} {kd:List DK} {ms:MAs} (hx:x=⟨cs.toArray⟩) (hv:ME X EX v m) (hr:MPs X EX pos ks vs kd ms) :
  MPs X EX pos (some (.Constant (.str x) j p)::ks) (v::vs) (.inr cs::kd) (mCons m ms):=by
 obtain ⟨tv,pv,sv⟩:=hv
 obtain ⟨hk,⟨trs,pr,sr⟩,lr⟩:=hr
 refine ⟨by simp [hk],⟨_,bp bj pv pr,fun Z α F H σ ρ μ Q R g=>?_⟩,fun ρ μ ds μ' h=>?_⟩
 rotate_left
 ·unfold mCons at h
  cases e1:m ρ μ with
  | ok d μ1 =>
   rw [e1] at h
   simp only [bind_ok] at h
   cases e2:ms ρ μ1 with
   | ok dr μ2 =>
    rw [e2] at h
    simp only [bind_ok] at h
    cases h
    simp [lr _ _ _ _ e2]
   | exc x μ2=>rw [e2] at h;cases h
   | bad=>rw [e2] at h;cases h
  | exc x μ1=>rw [e1] at h;cases h
  | bad=>rw [e1] at h;cases h
 show tv σ H _
 refine sv Z α F H σ ρ μ _ R (GE.step (G:=GA X.K EX Z α F fun vs H'=>Q (((Sum.inr cs::kd).map fun k=>kV (dk k)).zip vs) H') g (fun _ _ h=>h) (fun h=>h) fun d μ1 v α1 F1 H1 R1 e1 p1 g1=>?_)
 refine sr Z α1 F1 H1 σ ρ μ1 _ (R.to R1 e1) (GA.step (G:=GA X.K EX Z α F fun vs H'=>Q (((Sum.inr cs::kd).map fun k=>kV (dk k)).zip vs) H') g1 (fun _ _ h=>h) (fun h=>h) fun ds μ2 vs α2 F2 H2 R2 e2 p2 g2=>?_)
 have:=g2 (v::vs) α2 F2 H2 R2 (e1.trans e2) (j6 (p1.mono e2) p2)
 subst hx
 exact this
theorem Q8:∀ (more acc:List (Key×V)),((acc++more).map (·.1)).Nodup→Yc acc more=acc++more
 | [],acc,_=>by simp [Yc]
 | kv::more,acc,h=>by
  have hn:Y9 acc kv.1=none:=by
   cases e:Y9 acc kv.1 with
   | none=>rfl
   | some v =>
    exfalso
    have hm:kv.1∈acc.map (·.1):=by
     have q:(acc.any fun x=>decide (x.1=kv.1))=true:=by rw [Zm,e];rfl
     obtain ⟨p,hp,e⟩:=List.any_eq_true.mp q
     exact List.mem_map.mpr ⟨p,hp,of_decide_eq_true e⟩
    rw [List.map_append,List.nodup_append] at h
    exact h.2.2 _ hm _ (by simp) rfl
  show Yc (Yy acc kv.1 kv.2) more=_
  rw [bw _ hn]
  rw [Q8 more (acc++[(kv.1,kv.2)]) (by simpa using h)]
  simp
theorem Xz {β γ δ:Type} (f:β→γ):∀ (l:List β) (r:List δ),(l.map f).zip r=(l.zip r).map fun p=>(f p.1,p.2)
 | [],_=>by simp
 | _::_,[]=>by simp
 | a::l,b::r=>by simp only [List.map_cons,List.zip_cons_cons];rw [Xz f l r]
theorem Xb:∀ {ks:List DK},ks.Nodup→(ks.map dk).Nodup
 | [],_=>List.nodup_nil
 | k::ks,h=>by
  rw [List.nodup_cons] at h
  rw [List.map_cons,List.nodup_cons]
  refine ⟨fun hm=>?_,Xb h.2⟩
  obtain ⟨q,hq,e⟩:=List.mem_map.mp hm
  exact h.1 (K6 e ▸ hq)
noncomputable def a29 (ks:List DK) (ms:MAs):MX:=fun ρ μ=>(ms ρ μ).bind fun ds μ1=>.ok (.dic ks ds) μ1
theorem Bk {keys:List (Option Expr)} {values:List Expr} {ks:List DK} {ms:MAs} (h:MPs X EX pos keys values ks ms) (nd:ks.Nodup) (hall:keys.all (·.isSome)=true) (hl:keys.length=values.length) (h0:keys≠[]) (h15:keys.length≤15) :
  ME X EX (.Dict keys values pos) (a29 ks ms):=by
 obtain ⟨hk,⟨trs,pp,sp⟩,lp⟩:=h
 refine ⟨_,E4 pp hall hl h0 h15,fun Z α F H σ ρ μ Q R g=>?_⟩
 intro p hp
 have hz:Z.z p=none:=by
  cases e:Z.z p with
  | none=>rfl
  | some u=>rw [R.hp.zs _ _ e] at hp;cases hp
 refine sp (ZS.up Z p (.dK [])) α F (upd H p (.dK [])) σ ρ μ _ ⟨R.hp.hold _ hp,R.len,R.sl⟩ (GA.stepE (G:=GE X.K EX Z α F Q) g (fun _ _ h=>EX.mono _ _ _ _ _ hz h) (fun h=>h) fun ds μ1 vs α1 F1 H1 hm R1 e1 p1 g1=>?_)
 have hlen:=lp _ _ _ _ hm
 have hlen2:=p1.length
 refine ⟨R1.zs _ _ uo,(ks.map dk).zip vs,?_,?_,?_⟩
 ·show (ks.map fun k=>kV (dk k)).zip vs=((ks.map dk).zip vs).map fun kv=>(kV kv.1,kv.2)
  have:(ks.map fun k=>kV (dk k))=(ks.map dk).map kV:=by simp
  rw [this]
  exact Xz kV _ _
 ·rw [List.length_zip,List.length_map];omega
 ·have nd2:(((ks.map dk).zip vs).map (·.1)).Nodup:=by
   rw [List.map_fst_zip (by simp;omega)]
   exact Xb nd
  rw [Q8 _ [] (by simpa using nd2),List.nil_append]
  obtain ⟨R2,s2⟩:=R1.unhold (.dK ((ks.map dk).zip vs)) hz
  refine g1 _ α1 _ _ R2 (e1.trans ⟨s2,fun _ _ h=>h⟩) ?_
  unfold Rep
  exact ⟨p,vs,rfl,jt,by omega,p1.mono ⟨s2,fun _ _ h=>h⟩⟩
noncomputable abbrev GL:=List D→Option D
noncomputable def Pks (K:PySem.W.Frag) (α:List Addr) (F H:Hp):List D→List V→Prop
 | [],vs=>vs=[]
 | d::ds,vs=>∃ v r,vs=v::r∧Pk K α F H d v∧Pks K α F H ds r
theorem RH.pks {K:PySem.W.Frag} {Z:ZS} {α:List Addr} {F H:Hp} {μ:Mu} (r:RH K Z α F H μ):∀ {ds:List D} {vs:List V},Reps K F α ds vs→Pks K α F H (ds.map (j9 μ)) vs
 | [],vs,h=>by unfold Reps at h;exact h
 | d::ds,vs,h=>by
  unfold Reps at h
  obtain ⟨v,vr,hv,h1,h2⟩:=h
  exact ⟨v,vr,hv,r.pk h1,RH.pks r h2⟩
noncomputable def D8 (K:PySem.W.Frag) (r:List V→Hp→VK→Prop) (g:GL):Prop:=∀ Z α F H μ ds c vs Q,RH K Z α F H μ→Pks K α F H ds vs→g ds=some c →
 (∀ v F' H',RH K Z α F' H' μ→J4 F F'→Rep K F' α c v→Q v H')→r vs H Q
noncomputable def Wo (X:Cx) (f:Value) (g:GL):Prop:=∃ r,qd X f r∧D8 X.K r g
noncomputable def J5 (g:GL) (ms:MAs):MX:=fun ρ μ=>(ms ρ μ).bind fun ds μ1=>ofO μ1 (g (ds.map (j9 μ1)))
theorem wn {t:TA} {ms:MAs} {r:List V→Hp→VK→Prop} {g:GL} (st:∀ Z α F H σ ρ μ Q,RS X.K Z α F H σ ρ μ→GA X.K EX Z α F Q (ms ρ μ)→t σ H Q) (hs:D8 X.K r g):Fk X EX (tCB r t) (J5 g ms):=by
 intro Z α F H σ ρ μ Q R gd
 refine st Z α F H σ ρ μ _ R (GA.step (G:=GE X.K EX Z α F Q) gd (fun _ _ h=>h) (fun h=>h) fun ds μ1 vs α1 F1 H1 R1 e1 p1 g1=>?_)
 cases hg:g (ds.map (j9 μ1)) with
 | none=>rw [hg] at g1;exact g1.elim
 | some c =>
  rw [hg] at g1
  exact hs Z α1 F1 H1 μ1 _ c vs Q R1 (R1.pks p1) hg fun v F' H' R' sf rp=>g1 v α1 F' H' R' (e1.trans ⟨sf,fun _ _ h=>h⟩) rp
theorem Jh {x:Str} {p:Pos} {id:String} {g:GL} {ms:MAs} (hc:Wo X (.builtin id) g) (hg:Gl X x) (hm:X.mg x=none) (hv:bootBuiltins x=some (.builtin id)) (ha:MA X EX (e::es) ms) (hn:x≠"__name__":=by decide) (hdb:(x == ("__debug__":Str))=false:=by decide)
  (he:starEach (e::es) X.env=(false,eval e X.env)::starEach es X.env:=by rfl) (hpl:(backTo pos (starEach es X.env)).any (·.1)=false:=by rfl):ME X EX (.Call (.Name x p) (e::es) [] pos) (J5 g ms):=by
 obtain ⟨r,h1,h2⟩:=hc
 obtain ⟨t,pt,st,_⟩:=ha
 exact ⟨_,g9 h1 hg hm hv pt hn hdb he hpl,wn st h2⟩
theorem Y1 {x:Str} {p:Pos} {T:String} {g:GL} {ms:MAs} (hc:Wo X (.type T) g) (hg:Gl X x) (hm:X.mg x=none) (hv:bootBuiltins x=some (.type T)) (ha:MA X EX (e::es) ms) (hn:x≠"__name__":=by decide) (hdb:(x == ("__debug__":Str))=false:=by decide)
  (he:starEach (e::es) X.env=(false,eval e X.env)::starEach es X.env:=by rfl) (hpl:(backTo pos (starEach es X.env)).any (·.1)=false:=by rfl):ME X EX (.Call (.Name x p) (e::es) [] pos) (J5 g ms):=by
 obtain ⟨r,h1,h2⟩:=hc
 obtain ⟨t,pt,st,_⟩:=ha
 exact ⟨_,Dl h1 hg hm hv pt hn hdb he hpl,wn st h2⟩
noncomputable def yq:GL:=fun ds=>match ds with
 | [.lst xs]=>some (.int xs.length)
 | [.tup xs]=>some (.int xs.length)
 | [.str xs]=>if xs.length≤16777216 then some (.int xs.length) else none
 | _=>none
theorem yv:Wo X (.builtin "len") yq:=by
 refine ⟨_,ai,fun Z α F H μ ds c vs Q R hp hg k=>?_⟩
 match ds,hg with
 | [.lst xs],hg =>
  obtain ⟨v,r,rfl,⟨a,us,rfl,hs,hr⟩,hq⟩:=hp
  have hq:r=[]:=hq
  subst hq
  cases hg
  exact ⟨_,_,rfl,.inl ⟨us,hs,rfl⟩,by rw [← hr.length];exact k _ F H R (J4.refl _) (u7 _)⟩
 | [.tup xs],hg =>
  obtain ⟨v,r,rfl,hv,hq⟩:=hp
  have hq:r=[]:=hq
  subst hq
  unfold Pk Rep at hv
  obtain ⟨a,us,rfl,hs,hr⟩:=hv
  cases hg
  exact ⟨_,_,rfl,.inr ⟨us,J4.tup R.sub hs,rfl⟩,by rw [← hr.length];exact k _ F H R (J4.refl _) (u7 _)⟩
 | [.str xs],hg =>
  obtain ⟨v,r,rfl,hv,hq⟩:=hp
  have hq:r=[]:=hq
  subst hq
  have hv:=Vu hv
  subst hv
  simp only [yq] at hg
  split at hg
  ·rename_i hl
   cases hg
   refine ⟨_,xs.length,rfl,⟨by rw [sizeLine_eq];simpa [Str.length] using hl,by simp [Str.length]⟩,k _ F H R (J4.refl _) (u7 _)⟩
  ·cases hg
noncomputable def cr:GL:=fun ds=>match ds with
 | [.int i,.int j]=>some (.int (if j > i then j else i))
 | _=>none
noncomputable def ai4:GL:=fun ds=>match ds with
 | [.int i,.int j]=>some (.int (if j < i then j else i))
 | _=>none
theorem an8 {K:PySem.W.Frag} {α:List Addr} {F H:Hp} {a b:D} {vs:List V} (h:Pks K α F H [a,b] vs):∃ v u,vs=[v,u]∧Pk K α F H a v∧Pk K α F H b u:=by
 obtain ⟨v,r,rfl,h1,u,r',rfl,h2,h3⟩:=h
 have h3:r'=[]:=h3
 subst h3
 exact ⟨v,u,rfl,h1,h2⟩
theorem an9 {K:PySem.W.Frag} {α:List Addr} {F H:Hp} {a:D} {vs:List V} (h:Pks K α F H [a] vs):∃ v,vs=[v]∧Pk K α F H a v:=by
 obtain ⟨v,r,rfl,h1,h3⟩:=h
 have h3:r=[]:=h3
 subst h3
 exact ⟨v,rfl,h1⟩
theorem aj (hc:X.calm=true):Wo X (.builtin "max") cr:=by
 refine ⟨_,C7 hc,fun Z α F H μ ds c vs Q R hp hg k=>?_⟩
 match ds,hg with
 | [.int i,.int j],hg =>
  obtain ⟨v,u,rfl,h1,h2⟩:=an8 hp
  rw [Uk h1,Uk h2]
  cases hg
  exact ⟨i,j,rfl,k _ F H R (J4.refl _) (u7 _)⟩
theorem aj4 (hc:X.calm=true):Wo X (.builtin "min") ai4:=by
 refine ⟨_,C6 hc,fun Z α F H μ ds c vs Q R hp hg k=>?_⟩
 match ds,hg with
 | [.int i,.int j],hg =>
  obtain ⟨v,u,rfl,h1,h2⟩:=an8 hp
  rw [Uk h1,Uk h2]
  cases hg
  exact ⟨i,j,rfl,k _ F H R (J4.refl _) (u7 _)⟩
noncomputable def qu:GL:=fun ds=>match ds with
 | [.int i]=>some (.int i)
 | [.bl k]=>some (.int (if k then 1 else 0))
 | _=>none
theorem Wu:Wo X (.type "int") qu:=by
 refine ⟨_,C8,fun Z α F H μ ds c vs Q R hp hg k=>?_⟩
 match ds,hg with
 | [.int i],hg =>
  obtain ⟨v,rfl,h1⟩:=an9 hp
  rw [Uk h1]
  cases hg
  exact .inl ⟨i,rfl,k _ F H R (J4.refl _) (u7 _)⟩
 | [.bl i],hg =>
  obtain ⟨v,rfl,h1⟩:=an9 hp
  rw [ao0 h1]
  cases hg
  exact .inr ⟨i,rfl,k _ F H R (J4.refl _) (u7 _)⟩
inductive Ki where
 | int | bool | str | list | tuple
noncomputable def isI (k:Ki) (d:D):Option Bool:=match d,k with
 | .non,_=>some false
 | .bl _,.bool=>some true
 | .bl _,.int=>some true
 | .bl _,_=>some false
 | .int _,.int=>some true
 | .int _,_=>some false
 | .str _,.str=>some true
 | .str _,_=>some false
 | .tup _,.tuple=>some true
 | .tup _,_=>some false
 | .lst _,.list=>some true
 | .lst _,_=>some false
 | .dic _ _,_=>some false
 | .ref _,_=>none
noncomputable def mIsI (k:Ki) (m:MX):MX:=fun ρ μ=>(m ρ μ).bind fun d μ1=>ofO μ1 ((isI k (j9 μ1 d)).map .bl)
end
end M
set_option Elab.async false
set_option linter.all false
set_option maxRecDepth 100000
set_option maxHeartbeats 4000000
namespace M
open PySem PySem.Spec PyProof.Rows L2
noncomputable def NoX:EXT:=⟨fun _ _ _=>False,fun _ _ _ _ _ _ h=>h⟩
noncomputable abbrev Fn:=List D→Mu→Res D
noncomputable def noX {α:Type}:Res α→Res α
 | .exc _ _=>.bad
 | r=>r
@[simp] theorem noX_ok {α:Type} (a:α) (μ:Mu):noX (.ok a μ)=.ok a μ:=rfl
noncomputable def spM (K:PySem.W.Frag) (n:Nat) (φ:Fn):Sp:=fun vs H Q _=>∃ Z α F ds μ,RH K Z α F H μ∧Reps K F α ds vs∧ds.length=n∧GE K NoX Z α F Q (φ ds μ)
noncomputable def jq (φ:Fn) (ms:MAs):MX:=fun ρ μ=>(ms ρ μ).bind fun ds μ1=>noX (φ ds μ1)
section
variable {X:Cx} {EX:EXT} {e a b c:Expr} {pos:Pos} {m ma mb mc:MX} {es rest:List Expr} {ms:MAs}
theorem GE.noX {K:PySem.W.Frag} {Z:ZS} {α:List Addr} {F:Hp} {Q:VK} {r:Res D} (h:GE K EX Z α F Q (M.noX r)):GE K NoX Z α F Q r:=by
 cases r with
 | ok d μ=>exact h
 | exc x μ=>exact h.elim
 | bad=>exact h
theorem a24 {x:Str} {p:Pos} {k:Nat} {f:Addr} {fd:FuncData} {ps:List Str} {φ:Fn} (F:FnOk X.prog X.w X.K X.mg X.base CX0 k f fd ps (spM X.K ps.length φ)) (hr:Room k X.A) (hg:Gl X x) (hm:X.mg x=some (.ref f)) (hk:PySem.W.keepIn X.K (.ref f)=true) (hb:xz X.K fd ps [])
  (ha:MA X EX (e::es) ms) (hl:(e::es).length=ps.length) (hdb:(x == ("__debug__":Str))=false:=by decide) (he:starEach (e::es) X.env=(false,eval e X.env)::starEach es X.env:=by rfl) (hpl:(backTo pos (starEach es X.env)).any (·.1)=false:=by rfl) :
  ME X EX (.Call (.Name x p) (e::es) [] pos) (jq φ ms):=by
 obtain ⟨t,pt,st,lt⟩:=ha
 refine ⟨_,E5 F hr hg hm hk hb .nil a67 pt hdb he hpl,fun Z α G H σ ρ μ Q R g=>?_⟩
 refine st Z α G H σ ρ μ _ R (GA.stepE (G:=GE X.K EX Z α G Q) g (fun _ _ h=>h) (fun h=>h) fun ds μ1 vs α1 F1 H1 hm1 R1 e1 p1 g1=>?_)
 rw [List.append_nil]
 exact ⟨Z,α1,F1,ds,μ1,R1,p1,(lt _ _ _ _ hm1).trans hl,GE.noX (GE.ext e1 g1)⟩
variable {st:Stmt} {sts:List Stmt} {n n1 n2:MSt} {t:MB}
noncomputable def jp:MSt:=fun ρ μ=>.ok (.nx ρ) μ
noncomputable def jz (n1 n2:MSt):MSt:=fun ρ μ=>(n1 ρ μ).bind fun o μ1=>match o with
 | .nx ρ1=>n2 ρ1 μ1
 | o=>.ok o μ1
noncomputable def je (m:MX):MSt:=fun ρ μ=>(m ρ μ).bind fun d μ1=>.ok (.rt d) μ1
noncomputable def ap3:MSt:=fun _ μ=>.ok (.rt .non) μ
noncomputable def u2 (m:MX):MSt:=fun ρ μ=>(m ρ μ).bind fun _ μ1=>.ok (.nx ρ) μ1
noncomputable def Ju (i:Nat) (m:MX):MSt:=fun ρ μ=>(m ρ μ).bind fun d μ1=>.ok (.nx (ρ.set i (some d))) μ1
noncomputable def jd (t:MB) (n1 n2:MSt):MSt:=fun ρ μ=>(t ρ μ).bind fun k μ1=>match k with
 | true=>n1 ρ μ1
 | false=>n2 ρ μ1
theorem jy:MSs X EX [] jp:=⟨_,Ak,fun Z α F H σ ρ μ N R g=>g σ α F H R (Ext.refl _ _)⟩
theorem j3 (h:MS X EX st n):MSs X EX [st] n:=let ⟨t,p,s⟩:=h;⟨t,Al p,s⟩
theorem j2 (h1:MS X EX st n1) (h2:MSs X EX sts n2):MSs X EX (st::sts) (jz n1 n2):=by
 obtain ⟨t,p,s⟩:=h1
 obtain ⟨u,q,r⟩:=h2
 refine ⟨_,bt p q,fun Z α F H σ ρ μ N R g=>?_⟩
 refine s Z α F H σ ρ μ _ R ?_
 unfold jz at g
 cases e:n1 ρ μ with
 | ok o μ1 =>
  rw [e] at g
  cases o with
  | nx ρ1=>exact fun σ' α' F' H' R' e'=>r Z α' F' H' σ' ρ1 μ1 N R' (GS.ext e' g)
  | rt d=>exact g
  | bk ρ1=>exact g
  | ct ρ1=>exact g
 | exc x μ1=>rw [e] at g;exact g
 | bad=>rw [e] at g;exact g
theorem j7 (h:ME X EX e m):MS X EX (.Return (some e) pos) (je m):=by
 obtain ⟨t,p,s⟩:=h
 refine ⟨_,ac5 p,fun Z α F H σ ρ μ N R g=>?_⟩
 exact s Z α F H σ ρ μ _ R (GE.step (G:=GS X.K EX Z α F N) g (fun _ _ h=>h) (fun h=>h) fun d μ1 v α1 F1 H1 R1 e1 p1 g1=>g1 v α1 F1 H1 R1 e1 p1)
theorem ug (h:ME X EX e m) (hs:swapsWith e none pos.line X.env=pure false:=by rfl):MS X EX (.Expr e pos) (u2 m):=by
 obtain ⟨t,p,s⟩:=h
 refine ⟨_,Aj p hs,fun Z α F H σ ρ μ N R g=>?_⟩
 exact s Z α F H σ ρ μ _ R (GE.step (G:=GS X.K EX Z α F N) g (fun _ _ h=>h) (fun h=>h) fun d μ1 v α1 F1 H1 R1 e1 p1 g1=>g1 σ α1 F1 H1 (R.to R1 e1) e1)
theorem RS.set {K:PySem.W.Frag} {Z:ZS} {F H:Hp} {α:List Addr} {σ:L2.St} {ρ:En} {μ:Mu} {d:D} {v:V} (i:Nat) (R:RS K Z α F H σ ρ μ) (p:Rep K F α d v):RS K Z α F H (σ.set i (some v)) (ρ.set i (some d)) μ:=by
 refine ⟨R.hp,by simpa using R.len,fun j e h=>?_⟩
 by_cases hj:j=i
 ·subst hj
  have hl:j < ρ.length:=by
   have:=(List.getElem?_eq_some_iff.mp h).1
   simpa using this
  rw [List.getElem?_set_self hl] at h
  cases h
  exact ⟨v,List.getElem?_set_self (by rw [← R.len];exact hl),p⟩
 ·rw [List.getElem?_set_ne (Ne.symm hj)] at h
  obtain ⟨u,h1,h2⟩:=R.sl j e h
  exact ⟨u,by rw [List.getElem?_set_ne (Ne.symm hj)];exact h1,h2⟩
theorem Br {i:Nat} {x:Str} {pos':Pos} (hN:X.nd) (hi:X.N[i]? =some x) (hx:Loc X.env.scope x) (hf:X.fn x=true∨X.env.scope.names.lookup x=some .local) (h:ME X EX e m) (hs:swapsWith e (some (.Name x pos')) pos.line X.env=pure false:=by rfl) :
  MS X EX (.Assign [.Name x pos'] e pos) (Ju i m):=by
 obtain ⟨t,p,s⟩:=h
 refine ⟨_,ac4 hN hi hx p hs hf,fun Z α F H σ ρ μ N R g=>?_⟩
 exact s Z α F H σ ρ μ _ R (GE.step (G:=GS X.K EX Z α F N) g (fun _ _ h=>h) (fun h=>h) fun d μ1 v α1 F1 H1 R1 e1 p1 g1=>g1 _ α1 F1 H1 ((R.to R1 e1).set i p1) e1)
theorem jr {sa sb:List Stmt} (hc:MT X EX c t) (ha:MSs X EX sa n1) (hb:MSs X EX sb n2):MS X EX (.If c sa sb pos) (jd t n1 n2):=by
 obtain ⟨tc,pc,sc⟩:=hc
 obtain ⟨ta,pa,ga⟩:=ha
 obtain ⟨tb,pb,gb⟩:=hb
 refine ⟨_,an6 pc pa pb,fun Z α F H σ ρ μ N R g=>?_⟩
 refine sc Z α F H σ ρ μ _ R (GB.step (G:=GS X.K EX Z α F N) g (fun _ _ h=>h) (fun h=>h) fun k μ1 α1 F1 H1 R1 e1 g1=>?_)
 cases k with
 | true=>exact ga Z α1 F1 H1 σ ρ μ1 N (R.to R1 e1) (GS.ext e1 g1)
 | false=>exact gb Z α1 F1 H1 σ ρ μ1 N (R.to R1 e1) (GS.ext e1 g1)
noncomputable abbrev MG:=D→En→Option En
noncomputable def MTg (X:Cx) (tg:Expr) (mg:MG):Prop:=∃ g:TG,PG X tg g∧∀ Z α F H σ ρ μ v d ρ' Q,RS X.K Z α F H σ ρ μ→Rep X.K F α d v→mg d ρ=some ρ'→(∀ σ',RS X.K Z α F H σ' ρ' μ→Q σ' H)→g v σ H Q
noncomputable def gN (i:Nat):MG:=fun d ρ=>some (ρ.set i (some d))
theorem Eu {i:Nat} {x:Str} (hN:X.nd) (hi:X.N[i]? =some x) (hx:Loc X.env.scope x) (hf:X.fn x=true∨X.env.scope.names.lookup x=some .local):MTg X (.Name x pos) (gN i) :=
 ⟨_,Ad hN hi hx hf,fun Z α F H σ ρ μ v d ρ' Q R p h k=>by cases h;exact k _ (R.set i p)⟩
noncomputable def u4 (tg:MG) (n:MSt):List D→En→Mu→Res Out
 | [],ρ,μ=>.ok (.nx ρ) μ
 | d::ds,ρ,μ=>match tg d ρ with
  | none=>.bad
  | some ρ1=>(n ρ1 μ).bind fun o μ1=>match o with
   | .nx ρ2=>u4 tg n ds ρ2 μ1
   | .ct ρ2=>u4 tg n ds ρ2 μ1
   | .bk ρ2=>.ok (.nx ρ2) μ1
   | .rt d=>.ok (.rt d) μ1
noncomputable abbrev MIt:=En→Mu→Res (List D)
noncomputable def gi (tg:MG) (it:MIt) (n:MSt):MSt:=fun ρ μ=>(it ρ μ).bind fun ds μ1=>u4 tg n ds ρ μ1
noncomputable def Zu (K:PySem.W.Frag) (α:List Addr) (F:Hp) (J:It) (ds:List D):Prop :=
 ∀ (Z:ZS) α' F' H' (μ':Mu),RH K Z α' F' H' μ'→Ext α F α' F'→∀ i,(i < ds.length→J.go i H'∧∀ x H2,J.yld i H' x H2→∃ d F2,ds[i]? =some d∧RH K Z α' F2 H2 μ'∧J4 F' F2∧Rep K F2 α' d x)∧(ds.length=i→J.stop i H')
noncomputable def MI (X:Cx) (EX:EXT) (tg e:Expr) (m:MIt):Prop:=∃ wi:TI,PI X tg e wi∧∀ Z α F H σ ρ μ Rr,RS X.K Z α F H σ ρ μ →
 (match m ρ μ with
  | .ok ds μ'=>∀ J α' F' H',RH X.K Z α' F' H' μ'→Ext α F α' F'→Zu X.K α' F' J ds→Rr J H'
  | .exc x μ'=>EX.P Z x μ'
  | .bad=>False)→wi σ H Rr
theorem Vk {tg it:Expr} {body:List Stmt} {mi:MIt} {g:MG} (hp:PassesOwn (model X.prog X.w) X.A X.env X.xe) (hc:X.calm=true) (hi:MI X EX tg it mi) (hg:MTg X tg g) (hb:MSs X EX body n)
  (hs:∀ x,foldedSetIterable it X.env x=pure x:=by intro _;rfl):MS X EX (.For tg it body [] pos) (gi g mi n):=by
 obtain ⟨wi,pi,si⟩:=hi
 obtain ⟨tgt,pg,sg⟩:=hg
 obtain ⟨tb,pb,sb⟩:=hb
 refine ⟨_,ac6 hp hc pi pg pb hs,fun Z α F H σ ρ μ N R gd=>?_⟩
 refine si Z α F H σ ρ μ _ R ?_
 unfold gi at gd
 cases hm:mi ρ μ with
 | exc x μ1=>rw [hm] at gd;exact gd
 | bad=>rw [hm] at gd;exact gd
 | ok ds μ1 =>
  rw [hm] at gd
  intro J α1 F1 H1 R1 e1 wk
  let W:Nat→Nat→L2.St→Hp→Prop:=fun i k σ' H'=>k=ds.length - i∧i≤ds.length∧∃ α' F' ρ' μ',RS X.K Z α' F' H' σ' ρ' μ'∧Ext α1 F1 α' F'∧GS X.K EX Z α' F' N (u4 g n (ds.drop i) ρ' μ')
  refine ⟨W,⟨ds.length,rfl,Nat.zero_le _,α1,F1,ρ,μ1,R.to R1 e1,Ext.refl _ _,GS.ext e1 gd⟩,?_⟩
  rintro i k σ2 H2 ⟨rfl,hi2,α2,F2,ρ2,μ2,R2,e2,g2⟩
  obtain ⟨w1,w2⟩:=wk Z α2 F2 H2 μ2 R2.hp e2 i
  by_cases hlt:i < ds.length
  ·obtain ⟨w3,w4⟩:=w1 hlt
   refine .inr ⟨w3,fun σ' H'=>W (i + 1) (ds.length - (i + 1)) σ' H',fun σ' H' h=>⟨_,by omega,h⟩,fun x H3 y=>?_⟩
   obtain ⟨d,F3,hd,R3,s3,p3⟩:=w4 x H3 y
   have e3:Ext α2 F2 α2 F3:=⟨s3,fun _ _ h=>h⟩
   rw [List.drop_eq_getElem_cons hlt] at g2
   have hd':ds[i]=d:=by
    rw [List.getElem?_eq_getElem hlt] at hd
    exact Option.some.inj hd
   rw [hd'] at g2
   have R3':RS X.K Z α2 F3 H3 σ2 ρ2 μ2:=R2.to R3 e3
   simp only [u4] at g2
   cases ht:g d ρ2 with
   | none=>rw [ht] at g2;exact g2.elim
   | some ρ4 =>
    rw [ht] at g2
    simp only at g2
    refine sg Z α2 F3 H3 σ2 ρ2 μ2 x d ρ4 _ R3' p3 ht fun σ4 R4=>?_
    refine sb Z α2 F3 H3 σ4 ρ4 μ2 _ R4 ?_
    cases hn:n ρ4 μ2 with
    | exc x μ1=>rw [hn] at g2;exact g2
    | bad=>rw [hn] at g2;exact g2
    | ok o μ5 =>
     rw [hn] at g2
     cases o with
     | nx ρ5=>exact fun σ' α' F' H' R' e'=>⟨rfl,hlt,α',F',ρ5,μ5,R',e2.trans (e3.trans e'),GS.ext (e3.trans e') g2⟩
     | ct ρ5=>exact fun σ' α' F' H' R' e'=>⟨rfl,hlt,α',F',ρ5,μ5,R',e2.trans (e3.trans e'),GS.ext (e3.trans e') g2⟩
     | bk ρ5=>exact fun σ' α' F' H' R' e'=>g2 σ' α' F' H' R' (e3.trans e')
     | rt d=>exact fun v α' F' H' R' e' q=>g2 v α' F' H' R' (e3.trans e') q
  ·refine .inl ⟨w2 (by omega),?_⟩
   rw [List.drop_eq_nil_of_le (by omega)] at g2
   exact g2 σ2 α2 F2 H2 R2 (Ext.refl _ _)
noncomputable def U3 (n:Nat):List D:=(List.range n).map fun k=>.int (k:Nat)
noncomputable def Ub (ds:List D):Option (List D):=match ds with
 | [.int j]=>if -(2 ^ 62)≤j∧j < 2 ^ 62 then some (U3 j.toNat) else none
 | _=>none
noncomputable def uf (m:MX):MIt:=fun ρ μ=>(m ρ μ).bind fun d μ1=>ofO μ1 (Ub [d])
theorem Gi {K:PySem.W.Frag} {F:Hp} {α:List Addr} (n:Nat):Zu K α F (Itr 0 n) (U3 n):=by
 intro Z α' F' H' μ' R e i
 have hl:(U3 n).length=n:=by simp [U3]
 refine ⟨fun h=>⟨by rw [hl] at h;exact h,fun x H2 y=>?_⟩,fun h=>by rw [hl] at h;exact Nat.le_of_eq h⟩
 obtain ⟨rfl,rfl⟩:=y
 rw [hl] at h
 refine ⟨.int (i:Nat),F',by simp [U3,h],R,J4.refl _,?_⟩
 rw [Int.zero_add]
 exact u7 _
theorem ya {tg:Expr} {p:Pos} (hg:Gl X "range") (hm:X.mg "range"=none) (ha:ME X EX a m) (hs:starEach [a] X.env=[(false,eval a X.env)]:=by rfl):MI X EX tg (.Call (.Name "range" p) [a] [] pos) (uf m):=by
 obtain ⟨t,pt,st⟩:=ha
 refine ⟨_,Dm hg hm (xm pt fo hs) hs,fun Z α F H σ ρ μ Rr R g=>?_⟩
 unfold uf at g
 refine st Z α F H σ ρ μ _ R ?_
 cases h1:m ρ μ with
 | exc x μ1=>rw [h1] at g;exact g
 | bad=>rw [h1] at g;exact g
 | ok d μ1 =>
  rw [h1] at g
  intro v α' F' H' R' e' p
  cases d with
  | int j =>
   unfold Rep at p
   subst p
   simp only [bind_ok,Ub] at g
   by_cases hj:-(2 ^ 62)≤j∧j < 2 ^ 62
   ·rw [if_pos hj] at g
    exact ⟨j,rfl,hj.1,hj.2,g _ α' F' H' R' e' (Gi _)⟩
   ·rw [if_neg hj] at g;exact g.elim
  | _=>exact g.elim
noncomputable def ac (d:D):Option (List D):=match d with
 | .lst xs=>some xs
 | _=>none
noncomputable def ad (d:D):Option (List D):=match d with
 | .tup xs=>some xs
 | _=>none
noncomputable def w6 (m:MX):MIt:=fun ρ μ=>(m ρ μ).bind fun d μ1=>ofO μ1 (ac d)
noncomputable def ag6 (m:MX):MIt:=fun ρ μ=>(m ρ μ).bind fun d μ1=>ofO μ1 (ad d)
theorem Dy {K:PySem.W.Frag} {F:Hp} {α:List Addr} {a:Addr} {ds:List D} {vs:List V} (hs:SqL K F a vs) (hr:Reps K F α ds vs):Zu K α F (Itl K a) ds:=by
 intro Z α' F' H' μ' R e i
 have hl:=hr.length
 have hq:SqL K H' a vs:=(e.fr.trans R.sub).seq hs
 refine ⟨fun h=>?_,fun h=>⟨vs,hq,by omega⟩⟩
 obtain ⟨v,h1,h2⟩:=hr.get (List.getElem?_eq_getElem h)
 refine ⟨⟨vs,v,hq,h1⟩,fun x H2 y=>?_⟩
 obtain ⟨rfl,y⟩:=y
 have hx:=y vs hq
 rw [h1] at hx
 cases hx
 exact ⟨_,F',List.getElem?_eq_getElem h,R,J4.refl _,h2.mono e⟩
theorem a19 {tg:Expr} (ha:ME X EX a m):MI X EX tg a (w6 m):=by
 obtain ⟨t,pt,st⟩:=ha
 refine ⟨_,Ae pt,fun Z α F H σ ρ μ Rr R g=>?_⟩
 unfold w6 at g
 refine st Z α F H σ ρ μ _ R ?_
 cases h1:m ρ μ with
 | exc x μ1=>rw [h1] at g;exact g
 | bad=>rw [h1] at g;exact g
 | ok d μ1 =>
  rw [h1] at g
  intro v α' F' H' R' e' p
  cases d with
  | lst ds =>
   unfold Rep at p
   obtain ⟨b,vs,rfl,hs,hr⟩:=p
   exact ⟨b,rfl,⟨vs,R'.sub.seq hs⟩,g _ α' F' H' R' e' (Dy hs hr)⟩
  | _=>exact g.elim
end
noncomputable def fin (r:Res Out):Res D:=r.bind fun o μ1=>match o with
 | .rt d=>.ok d μ1
 | .nx _=>.ok .non μ1
 | _=>.bad
noncomputable def fnOf (k:Nat) (n:MSt):Fn:=fun ds μ=>fin (n (ds.map some++List.replicate k none) μ)
section
variable {P:Program} {w:World} {K:PySem.W.Frag} {mg:Str→Option Value} {base:Heap}
theorem Kf {Z:ZS} {F H:Hp} {α:List Addr} {μ:Mu} {ds:List D} {vs:List V} (N:List Str) (k:Nat) (hk:N.length - vs.length=k) (R:RH K Z α F H μ) (r:Reps K F α ds vs):RS K Z α F H (start N vs) (ds.map some++List.replicate k none) μ:=by
 have hl:=r.length
 refine ⟨R,by simp [L2.start,hl,hk],fun i d h=>?_⟩
 by_cases hi:i < ds.length
 ·rw [List.getElem?_append_left (by simpa using hi),List.getElem?_map] at h
  cases e:ds[i]? with
  | none=>rw [e] at h;cases h
  | some d' =>
   rw [e] at h
   cases h
   obtain ⟨v,h1,h2⟩:=r.get e
   refine ⟨v,?_,h2⟩
   unfold L2.start
   rw [List.getElem?_append_left (by rw [List.length_map];omega),List.getElem?_map,h1]
   rfl
 ·rw [List.getElem?_append_right (by simp;omega)] at h
  have:=List.getElem?_replicate (a:=(none:Option D)) (n:=k) (i:=i - (ds.map some).length)
  rw [this] at h
  split at h <;> cases h
theorem a82 {x qual:Str} {st:Stmt} {f:Addr} {fd:FuncData} {N ps:List Str} {k j:Nat} {n:MSt} (F:Fun K x qual st f fd) (S:FnScope N ps (defScope st)) (hj:N.length - ps.length=j)
  (hb:∀ (cdv:Value) (A:Around) (outer:List Env) (s:Shared) (H:Hp) (E:XK),Room k (A.deeper (envOfC qual (defScope st) s.heap.objs.size f cdv)) →
   MSs (ub CX0 P w K mg base N qual (defScope st) f cdv A outer s H E).nox NoX (defBody st) n):FnOk P w K mg base CX0 (k + 1) f fd ps (spM K ps.length (fnOf j n)):=by
 refine F.ok S (fun vs H Q E h=>?_) (fun cdv A outer s H vs Q E hr h=>?_)
 ·obtain ⟨Z,α,G,ds,μ,R,r,hl,_⟩:=h
  rw [← hl,r.length]
 ·obtain ⟨Z,α,G,ds,μ,R,r,hl,g⟩:=h
  obtain ⟨t,p,s'⟩:=hb cdv A outer s H E hr
  refine ⟨t,p,s' Z α G H (start N vs) (ds.map some++List.replicate j none) μ _ (Kf N j (by rw [← r.length,hl];exact hj) R r) ?_⟩
  unfold fnOf fin at g
  cases e:n (ds.map some++List.replicate j none) μ with
  | exc x μ1=>rw [e] at g;exact g
  | bad=>rw [e] at g;exact g
  | ok o μ1 =>
   rw [e] at g
   cases o with
   | rt d=>exact g
   | nx ρ=>exact fun σ' α' F' H' R' e'=>g .non α' F' H' R'.hp e' Zd
   | bk ρ=>exact g.elim
   | ct ρ=>exact g.elim
structure Ct (X:Cx) (N G:List Str):Prop where
 hN:X.N=N
 nd:N.Nodup
 loc:∀ x∈N,Loc X.env.scope x∧(x == ("__debug__":Str))=false∧(x == ("__classdict__":Str))=false
 gl:∀ x∈G,Gl X x
 fn:∀ x,X.fn x=true
 calm:X.calm=true
 un:X.A.units + 200 < cLine
theorem Ct.ndX {X:Cx} {N G:List Str} (C:Ct X N G):X.N.Nodup:=by rw [C.hN];exact C.nd
theorem Ct.at {X:Cx} {N G:List Str} (C:Ct X N G) {i:Nat} {x:Str} (h:N[i]? =some x):X.N[i]? =some x:=by rw [C.hN];exact h
theorem uu {N:List Str} {i:Nat} {x:Str} (h:N[i]? =some x):x∈N:=List.mem_of_getElem? h
theorem Loc.vis {sc:Scope} {x:Str} (h:Loc sc x):Vis sc x:=h.elim .inl fun z=>.inr (.inl z)
theorem sv {X:Cx} {EX:EXT} {N G:List Str} (C:Ct X N G) (i:Nat) {x:Str} {pos:Pos} (h:N[i]? =some x):ME X EX (.Name x pos) (mVar i) :=
 ff (C.at h) (Loc.vis (C.loc x (uu h)).1) (C.loc x (uu h)).2.1 (C.loc x (uu h)).2.2
theorem sa {X:Cx} {EX:EXT} {N G:List Str} (C:Ct X N G) (i:Nat) {x:Str} {pos pos':Pos} {e:Expr} {m:MX} (h:N[i]? =some x) (he:ME X EX e m) (hs:swapsWith e (some (.Name x pos')) pos.line X.env=pure false:=by rfl) (hk:X.kn=none:=by rfl) :
  MS X EX (.Assign [.Name x pos'] e pos) (Ju i m):=Br ⟨C.ndX,hk⟩ (C.at h) (C.loc x (uu h)).1 (.inl (C.fn x)) he hs
theorem st {X:Cx} {N G:List Str} (C:Ct X N G) (i:Nat) {x:Str} {pos:Pos} (h:N[i]? =some x) (hk:X.kn=none:=by rfl):MTg X (.Name x pos) (gN i):=Eu ⟨C.ndX,hk⟩ (C.at h) (C.loc x (uu h)).1 (.inl (C.fn x))
theorem Ct.g {X:Cx} {N G:List Str} (C:Ct X N G) (j:Nat) {x:Str} (h:G[j]? =some x):Gl X x:=C.gl x (uu h)
theorem ak {CX:CXT} {N G:List Str} {qual:Str} {sc:Scope} {f:Addr} {cdv:Value} {A:Around} {outer:List Env} {s:Shared} {H:Hp} {E:XK} {k:Nat} (nd:N.Nodup)
  (loc:∀ x∈N,Loc sc x∧(x == ("__debug__":Str))=false∧(x == ("__classdict__":Str))=false) (gl:∀ x∈G,sc.names.lookup x=some .globalImplicit) (hr:Room k (A.deeper (envOfC qual sc s.heap.objs.size f cdv))) :
  Ct (ub CX P w K mg base N qual sc f cdv A outer s H E).nox N G :=
 ⟨rfl,nd,loc,gl,fun _=>rfl,rfl,by have:=hr.un;show (A.deeper _).units + 200 < cLine;omega⟩
end
end M
set_option Elab.async false
set_option linter.all false
set_option maxRecDepth 100000
set_option maxHeartbeats 4000000
namespace M
open PySem PySem.Spec PyProof.Rows L2
noncomputable def ag8 (m:MX):MX:=fun ρ μ=>(m ρ μ).bind fun d μ1=>ofO μ1 (match d with
 | .int i=>some (.int (-i))
 | _=>none)
theorem ag4 {X:Cx} {EX:EXT} {e:Expr} {pos:Pos} {m:MX} (h:ME X EX e m):ME X EX (.UnaryOp .USub e pos) (ag8 m):=by
 obtain ⟨t,p,s⟩:=h
 refine ⟨_,ao1 aa1 p,fun Z α F H σ ρ μ Q R g=>?_⟩
 refine s Z α F H σ ρ μ _ R (GE.step (G:=GE X.K EX Z α F Q) g (fun _ _ h=>h) (fun h=>h) fun d μ1 v α1 F1 H1 R1 e1 p1 g1=>?_)
 cases d with
 | int i=>unfold Rep at p1;exact ⟨i,p1,g1 _ α1 F1 H1 R1 e1 (u7 _)⟩
 | _=>exact g1.elim
theorem boot_list:bootBuiltins "list"=some (.type "list"):=by decide +kernel
noncomputable def ym (K:PySem.W.Frag) (mg:Str→Option Value) (x:Str) (d:D):Prop:=∃ v u,mg x=some u∧J3 v u∧∀ F α,Rep K F α d v
theorem Yb {X:Cx} {EX:EXT} {x:Str} {d:D} {pos:Pos} (c:ym X.K X.mg x d) (hg:Gl X x) (hd:(x == ("__debug__":Str))=false:=by decide):ME X EX (.Name x pos) (mC d):=by
 obtain ⟨v,u,h1,h2,h3⟩:=c
 exact a25 (E3 hg h1 h2 hd) h3
noncomputable def Yt (fd:FuncData) (ps:List Str):Prop:=∀ us:List Value,us.length=ps.length→bindArgs fd ⟨us,[]⟩=pure (ps.zip us)
noncomputable def Jp (K:PySem.W.Frag) (mg:Str→Option Value) (x:Str) (st:Stmt) (ps:List Str):Prop:=∃ f fd,mg x=some (.ref f)∧Fun K x x st f fd∧Yt fd ps
noncomputable def uj (P:Program) (w:World) (K:PySem.W.Frag) (mg:Str→Option Value) (base:Heap) (x:Str) (k n:Nat) (φ:Fn):Prop :=
 ∃ f fd ps,mg x=some (.ref f)∧PySem.W.keepIn K (.ref f)=true∧Yt fd ps∧ps.length=n∧FnOk P w K mg base CX0 k f fd ps (spM K n φ)
theorem d3 {P:Program} {w:World} {K:PySem.W.Frag} {mg:Str→Option Value} {base:Heap} {x:Str} {st:Stmt} {N ps:List Str} {k j n:Nat} {b:MSt} {f:Addr} {fd:FuncData} (F:Fun K x x st f fd) (S:FnScope N ps (defScope st)) (hj:N.length - ps.length=j) (hn:ps.length=n)
  (hb:∀ (cdv:Value) (A:Around) (outer:List Env) (s:Shared) (H:Hp) (E:XK),Room k (A.deeper (envOfC x (defScope st) s.heap.objs.size f cdv)) →
   MSs (ub CX0 P w K mg base N x (defScope st) f cdv A outer s H E).nox NoX (defBody st) b):FnOk P w K mg base CX0 (k + 1) f fd ps (spM K n (fnOf j b)):=by
 subst hn
 exact a82 F S hj hb
theorem d4 {P:Program} {w:World} {K:PySem.W.Frag} {mg:Str→Option Value} {base:Heap} {x:Str} {st:Stmt} {ps:List Str} {k n:Nat} {φ:Fn} (D:Jp K mg x st ps) (hn:ps.length=n)
  (hb:∀ (f:Addr) (fd:FuncData),Fun K x x st f fd→FnOk P w K mg base CX0 k f fd ps (spM K n φ)):uj P w K mg base x k n φ:=by
 obtain ⟨f,fd,h1,h2,h3⟩:=D
 exact ⟨f,fd,ps,h1,h2.kp,h3,hn,hb f fd h2⟩
theorem aj0 {K:PySem.W.Frag} {mg:Str→Option Value} {h:Heap} {x:Str} {st:Stmt} {ps:List Str} {f:Addr} {oc:Value} {od an:Option Addr} {osl:Array (Option Value)} {kV doc pm cdv ct:Value} (X:K.In h) (G:h.Ns mainGlobals mg)
  (a:PySem.W.nsIn K mainGlobals x=some (some (.ref f))) (l:K.lookup f=some ⟨oc,od,.func (PySem.W.fnOf x x (defArgs st) (defBody st) (defScope st) .none kV doc pm an cdv ct),osl⟩)
  (c:PySem.W.codeIn K cdv x=true) (k:PySem.W.keepIn K (.ref f)=true) (hb:Yt (PySem.W.fnOf x x (defArgs st) (defBody st) (defScope st) .none kV doc pm an cdv ct) ps):Jp K mg x st ps :=
 ⟨f,_,PySem.W.mg_of X G a,ar (st:=st) l c k,hb⟩
theorem Qq {K:PySem.W.Frag} {mg:Str→Option Value} {h:Heap} {x:Str} {i:Int} {t:Tok} (X:K.In h) (G:h.Ns mainGlobals mg) (a:PySem.W.nsIn K mainGlobals x=some (some (.int i t))):ym K mg x (.int i) :=
 ⟨.int i,_,PySem.W.mg_of X G a,⟨t,rfl⟩,fun _ _=>u7 i⟩
theorem ve {K:PySem.W.Frag} {mg:Str→Option Value} {h:Heap} {x:Str} {p:Addr} {od:Option Addr} {its:Array Value} {n:Nat} {sl:Array (Option Value)} {ds:List D} {vs:List V} (X:K.In h) (G:h.Ns mainGlobals mg)
  (a:PySem.W.nsIn K mainGlobals x=some (some (.ref p))) (l:K.lookup p=some ⟨.type "tuple",od,.seq its n,sl⟩) (hz:its.size≤16777216) (hv:J7 vs its.toList) (hr:∀ F α,Reps K F α ds vs):ym K mg x (.tup ds) :=
 ⟨.ref p,_,PySem.W.mg_of X G a,rfl,fun F α=>by unfold Rep;exact ⟨p,vs,rfl,.inr ⟨_,its,n,l,rfl,rfl,by rw [sizeLine_eq];exact hz,hv⟩,hr F α⟩⟩
theorem v5 {K:PySem.W.Frag} {F:Hp} {α:List Addr}:∀ ns:List Int,Reps K F α (ns.map D.int) (ns.map V.int)
 | []=>jo
 | n::ns=>j6 (u7 n) (v5 ns)
theorem me_fn {X:Cx} {EX:EXT} {x:Str} {p pos:Pos} {k n:Nat} {φ:Fn} {e:Expr} {es:List Expr} {ms:MAs} (F:uj X.prog X.w X.K X.mg X.base x k n φ) (hr:Room k X.A) (hg:Gl X x)
  (ha:MA X EX (e::es) ms) (hl:(e::es).length=n) (hdb:(x == ("__debug__":Str))=false:=by decide) (he:starEach (e::es) X.env=(false,eval e X.env)::starEach es X.env:=by rfl) (hpl:(backTo pos (starEach es X.env)).any (·.1)=false:=by rfl) :
  ME X EX (.Call (.Name x p) (e::es) [] pos) (jq φ ms):=by
 obtain ⟨f,fd,ps,h1,h2,h3,h4,h5⟩:=F
 subst h4
 exact a24 h5 hr hg h1 h2 (.all h3) ha hl hdb he hpl
noncomputable def F9 (sc:Scope) (N:List Str):Bool:=N.all fun x=>(sc.names.lookup x == some .local || sc.names.lookup x == some .cell) && !(x == ("__debug__":Str)) && !(x == ("__classdict__":Str))
noncomputable def glB (sc:Scope) (N:List Str):Bool:=N.all fun x=>sc.names.lookup x == some .globalImplicit
theorem Z9 {sc:Scope} {N:List Str} (h:F9 sc N=true):∀ x∈N,Loc sc x∧(x == ("__debug__":Str))=false∧(x == ("__classdict__":Str))=false:=fun x hx=>by
 have:=List.all_eq_true.mp h x hx
 simp only [Bool.and_eq_true,Bool.or_eq_true,beq_iff_eq,Bool.not_eq_true'] at this
 exact ⟨this.1.1,this.1.2,this.2⟩
theorem wm {sc:Scope} {N:List Str} (h:glB sc N=true):∀ x∈N,sc.names.lookup x=some .globalImplicit:=fun x hx=>by
 have:=List.all_eq_true.mp h x hx
 simpa using this
end M
set_option Elab.async false
set_option linter.all false
set_option maxRecDepth 100000
set_option maxHeartbeats 4000000
namespace M
open PySem PySem.Spec PyProof.Rows L2
section
variable (ρ:En) (μ:Mu) (m ma mb mc:MX) (ms:MAs) (t t1 t2:MB) (n n1 n2:MSt) (x y d:D) (ds:List D) (g g':G2) (gl:GL) (b:Bool) (φ:Fn) (i:Nat) (tg:MG) (it:MIt)
noncomputable def a74 (g:G2) (mb:MX) (ρ:En) (x:D) (μ:Mu):Res D:=(mb ρ μ).bind fun y μ2=>ofO μ2 (g (j9 μ2 x) (j9 μ2 y))
noncomputable def a7 (g:G2) (x y:D) (μ:Mu):Res D:=ofO μ (g (j9 μ x) (j9 μ y))
theorem Gw:mBin g ma mb ρ μ=(ma ρ μ).bind (a74 g mb ρ):=rfl
theorem Ww:a74 g mb ρ x μ=(mb ρ μ).bind (a7 g x):=rfl
theorem Wx:a7 g x y μ=ofO μ (g (j9 μ x) (j9 μ y)):=rfl
theorem W8 (o:D) (r:En):mVar 0 (some o::r) μ=.ok o μ:=rfl
theorem W7 (o:Option D) (r:En) (i:Nat):mVar (i + 1) (o::r) μ=mVar i r μ:=rfl
theorem e_c:mC d ρ μ=.ok d μ:=rfl
noncomputable def a69 (d:D) (μ:Mu):Res Bool:=ofO μ (asB d)
theorem kt:j5 m ρ μ=(m ρ μ).bind a69:=rfl
theorem xb:a69 (.bl b) μ=.ok b μ:=rfl
noncomputable def ar0 (g g':G2) (mb mc:MX) (ρ:En) (x:D) (μ1:Mu):Res D:=(mb ρ μ1).bind fun y μ2=>(ofO μ2 ((g (j9 μ2 x) (j9 μ2 y)).bind asB)).bind fun k μ3=>match k with
 | true=>(mc ρ μ3).bind fun z μ4=>ofO μ4 (g' (j9 μ4 y) (j9 μ4 z))
 | false=>.ok (.bl false) μ3
noncomputable def aq9 (g g':G2) (mc:MX) (ρ:En) (x y:D) (μ2:Mu):Res D:=(ofO μ2 ((g (j9 μ2 x) (j9 μ2 y)).bind asB)).bind fun k μ3=>match k with
 | true=>(mc ρ μ3).bind fun z μ4=>ofO μ4 (g' (j9 μ4 y) (j9 μ4 z))
 | false=>.ok (.bl false) μ3
noncomputable def aq8 (g':G2) (mc:MX) (ρ:En) (y:D) (k:Bool) (μ3:Mu):Res D:=match k with
 | true=>(mc ρ μ3).bind fun z μ4=>ofO μ4 (g' (j9 μ4 y) (j9 μ4 z))
 | false=>.ok (.bl false) μ3
theorem a47:ag9 g g' ma mb mc ρ μ=(ma ρ μ).bind (ar0 g g' mb mc ρ):=rfl
theorem dl:ar0 g g' mb mc ρ x μ=(mb ρ μ).bind (aq9 g g' mc ρ x):=rfl
theorem dm:aq9 g g' mc ρ x y μ=(ofO μ ((g (j9 μ x) (j9 μ y)).bind asB)).bind (aq8 g' mc ρ y):=rfl
theorem dn:aq8 g' mc ρ y b μ=if b=true then (mc ρ μ).bind (a7 g' y) else .ok (.bl false) μ:=by cases b <;> rfl
noncomputable def aq4 (d:D) (μ:Mu):Res D:=.ok (.bl (isN d)) μ
noncomputable def a71 (d:D) (μ:Mu):Res D:=.ok (.bl (!isN d)) μ
theorem du:Yo m ρ μ=(m ρ μ).bind aq4:=rfl
theorem km:ap4 m ρ μ=(m ρ μ).bind a71:=rfl
theorem ka:aq4 d μ=.ok (.bl (isN d)) μ:=rfl
theorem X3:a71 d μ=.ok (.bl (!isN d)) μ:=rfl
noncomputable def ap6 (d:D) (μ:Mu):Res Bool:=ofO μ (Xs (j9 μ d))
theorem d5:Vh m ρ μ=(m ρ μ).bind ap6:=rfl
theorem kj:ap6 d μ=ofO μ (Xs (j9 μ d)):=rfl
noncomputable def ar1 (n:MB) (ρ:En) (k:Bool) (μ1:Mu):Res Bool:=match k with
 | true=>n ρ μ1
 | false=>.ok false μ1
noncomputable def kOr (n:MB) (ρ:En) (k:Bool) (μ1:Mu):Res Bool:=match k with
 | true=>.ok true μ1
 | false=>n ρ μ1
noncomputable def aq0 (k:Bool) (μ1:Mu):Res Bool:=.ok (!k) μ1
theorem dj:w9 t1 t2 ρ μ=(t1 ρ μ).bind (ar1 t2 ρ):=rfl
theorem a45:mOr t1 t2 ρ μ=(t1 ρ μ).bind (kOr t2 ρ):=rfl
theorem d8:mNot t ρ μ=(t ρ μ).bind aq0:=rfl
theorem K2:ar1 t ρ b μ=if b=true then t ρ μ else .ok false μ:=by cases b <;> rfl
theorem dy:kOr t ρ b μ=if b=true then .ok true μ else t ρ μ:=by cases b <;> rfl
theorem kf:aq0 b μ=.ok (!b) μ:=rfl
noncomputable def a75 (mb:MX) (ρ:En) (x:D) (μ1:Mu):Res D:=match x with
 | .bl true=>mb ρ μ1
 | .bl false=>.ok (.bl false) μ1
 | _=>.bad
noncomputable def ap9 (mb:MX) (ρ:En) (x:D) (μ1:Mu):Res D:=match x with
 | .bl true=>.ok (.bl true) μ1
 | .bl false=>mb ρ μ1
 | _=>.bad
noncomputable def a70 (x:D) (μ1:Mu):Res D:=match x with
 | .bl k=>.ok (.bl (!k)) μ1
 | _=>.bad
theorem K5:Z0 ma mb ρ μ=(ma ρ μ).bind (a75 mb ρ):=rfl
theorem d7:mOrV ma mb ρ μ=(ma ρ μ).bind (ap9 mb ρ):=rfl
theorem ko:vq ma ρ μ=(ma ρ μ).bind a70:=rfl
theorem X8:a75 mb ρ (.bl b) μ=if b=true then mb ρ μ else .ok (.bl false) μ:=by cases b <;> rfl
theorem kg:ap9 mb ρ (.bl b) μ=if b=true then .ok (.bl true) μ else mb ρ μ:=by cases b <;> rfl
theorem X2:a70 (.bl b) μ=.ok (.bl (!b)) μ:=rfl
noncomputable def kIf (ma mb:MX) (ρ:En) (k:Bool) (μ1:Mu):Res D:=match k with
 | true=>ma ρ μ1
 | false=>mb ρ μ1
theorem a46:mIf t ma mb ρ μ=(t ρ μ).bind (kIf ma mb ρ):=rfl
theorem dw:kIf ma mb ρ b μ=if b=true then ma ρ μ else mb ρ μ:=by cases b <;> rfl
noncomputable def a5 (ms:MAs) (ρ:En) (d:D) (μ1:Mu):Res (List D):=(ms ρ μ1).bind fun ds μ2=>.ok (d::ds) μ2
noncomputable def a4 (d:D) (ds:List D) (μ2:Mu):Res (List D):=.ok (d::ds) μ2
theorem Gz:mNil ρ μ=.ok [] μ:=rfl
theorem Zv:mCons m ms ρ μ=(m ρ μ).bind (a5 ms ρ):=rfl
theorem zl:a5 ms ρ d μ=(ms ρ μ).bind (a4 d):=rfl
theorem zm:a4 d ds μ=.ok (d::ds) μ:=rfl
noncomputable def ap5 (ds:List D) (μ1:Mu):Res D:=.ok (.tup ds) μ1
noncomputable def aq2 (ds:List D) (μ1:Mu):Res D:=.ok (.lst ds) μ1
noncomputable def aq7 (ks:List DK) (ds:List D) (μ1:Mu):Res D:=.ok (.dic ks ds) μ1
theorem G7:jf ms ρ μ=(ms ρ μ).bind ap5:=rfl
theorem dz:yt ms ρ μ=(ms ρ μ).bind aq2:=rfl
theorem Gx (ks:List DK):a29 ks ms ρ μ=(ms ρ μ).bind (aq7 ks):=rfl
theorem W9:ap5 ds μ=.ok (.tup ds) μ:=rfl
theorem kc:aq2 ds μ=.ok (.lst ds) μ:=rfl
theorem Wy (ks:List DK):aq7 ks ds μ=.ok (.dic ks ds) μ:=rfl
noncomputable def a6 (g:GL) (ds:List D) (μ1:Mu):Res D:=ofO μ1 (g (ds.map (j9 μ1)))
theorem qj:J5 gl ms ρ μ=(ms ρ μ).bind (a6 gl):=rfl
theorem zu:a6 gl ds μ=ofO μ (gl (ds.map (j9 μ))):=rfl
noncomputable def aq5 (k:Ki) (d:D) (μ1:Mu):Res D:=ofO μ1 ((isI k (j9 μ1 d)).map .bl)
theorem dq (k:Ki):mIsI k m ρ μ=(m ρ μ).bind (aq5 k):=rfl
theorem K0 (k:Ki):aq5 k d μ=ofO μ ((isI k (j9 μ d)).map .bl):=rfl
noncomputable def a73 (φ:Fn) (ds:List D) (μ1:Mu):Res D:=noX (φ ds μ1)
theorem K4:jq φ ms ρ μ=(ms ρ μ).bind (a73 φ):=rfl
theorem X7:a73 φ ds μ=noX (φ ds μ):=rfl
noncomputable def aq1 (d:D) (μ1:Mu):Res D:=ofO μ1 (match d with
 | .int i=>some (.int (-i))
 | _=>none)
theorem d9:ag8 m ρ μ=(m ρ μ).bind aq1:=rfl
theorem ke (i:Int):aq1 (.int i) μ=.ok (.int (-i)) μ:=rfl
theorem kr:jp ρ μ=.ok (.nx ρ) μ:=rfl
noncomputable def Bc (n2:MSt) (o:Out) (μ1:Mu):Res Out:=match o with
 | .nx ρ1=>n2 ρ1 μ1
 | o=>.ok o μ1
theorem G9:jz n1 n2 ρ μ=(n1 ρ μ).bind (Bc n2):=rfl
theorem qm:Bc n (.nx ρ) μ=n ρ μ:=rfl
theorem xa:Bc n (.rt d) μ=.ok (.rt d) μ:=rfl
theorem X1:Bc n (.bk ρ) μ=.ok (.bk ρ) μ:=rfl
theorem X0:Bc n (.ct ρ) μ=.ok (.ct ρ) μ:=rfl
noncomputable def ap8 (d:D) (μ1:Mu):Res Out:=.ok (.rt d) μ1
theorem d6:je m ρ μ=(m ρ μ).bind ap8:=rfl
theorem kh:ap8 d μ=.ok (.rt d) μ:=rfl
theorem kq:ap3 ρ μ=.ok (.rt .non) μ:=rfl
noncomputable def a72 (ρ:En) (d:D) (μ1:Mu):Res Out:=.ok (.nx ρ) μ1
theorem K3:u2 m ρ μ=(m ρ μ).bind (a72 ρ):=rfl
theorem X6:a72 ρ d μ=.ok (.nx ρ) μ:=rfl
noncomputable def ap7 (i:Nat) (ρ:En) (d:D) (μ1:Mu):Res Out:=.ok (.nx (ρ.set i (some d))) μ1
theorem G8:Ju i m ρ μ=(m ρ μ).bind (ap7 i ρ):=rfl
theorem Wz:ap7 i ρ d μ=.ok (.nx (ρ.set i (some d))) μ:=rfl
noncomputable def aq3 (n1 n2:MSt) (ρ:En) (k:Bool) (μ1:Mu):Res Out:=match k with
 | true=>n1 ρ μ1
 | false=>n2 ρ μ1
theorem dv:jd t n1 n2 ρ μ=(t ρ μ).bind (aq3 n1 n2 ρ):=rfl
theorem kb:aq3 n1 n2 ρ b μ=if b=true then n1 ρ μ else n2 ρ μ:=by cases b <;> rfl
noncomputable def aq6 (tg:MG) (n:MSt) (ρ:En) (ds:List D) (μ1:Mu):Res Out:=u4 tg n ds ρ μ1
theorem Gy:gi tg it n ρ μ=(it ρ μ).bind (aq6 tg n ρ):=rfl
theorem K1:aq6 tg n ρ ds μ=u4 tg n ds ρ μ:=rfl
noncomputable def Ei (d:D) (μ1:Mu):Res (List D):=ofO μ1 (Ub [d])
theorem zv:uf m ρ μ=(m ρ μ).bind Ei:=rfl
theorem Y6:Ei d μ=ofO μ (Ub [d]):=rfl
noncomputable def Ba (d:D) (μ1:Mu):Res (List D):=ofO μ1 (ac d)
noncomputable def Bb (d:D) (μ1:Mu):Res (List D):=ofO μ1 (ad d)
theorem qo:w6 m ρ μ=(m ρ μ).bind Ba:=rfl
theorem xf:ag6 m ρ μ=(m ρ μ).bind Bb:=rfl
theorem qk:Ba (.lst ds) μ=.ok ds μ:=rfl
theorem ql:Bb (.tup ds) μ=.ok ds μ:=rfl
noncomputable def a31 (o:Out) (μ1:Mu):Res D:=match o with
 | .rt d=>.ok d μ1
 | .nx _=>.ok .non μ1
 | _=>.bad
theorem ar4 (r:Res Out):fin r=r.bind a31:=by cases r with
 | ok o μ=>cases o <;> rfl
 | exc _ _=>rfl
 | bad=>rfl
theorem X4:a31 (.rt d) μ=.ok d μ:=rfl
theorem X5:a31 (.nx ρ) μ=.ok .non μ:=rfl
theorem Zw (k:Nat):fnOf k n ds μ=(n (ds.map some++List.replicate k none) μ).bind a31:=ar4 _
noncomputable def kTurn (tg:MG) (n:MSt) (ds:List D) (o:Out) (μ1:Mu):Res Out:=match o with
 | .nx ρ2=>u4 tg n ds ρ2 μ1
 | .ct ρ2=>u4 tg n ds ρ2 μ1
 | .bk ρ2=>.ok (.nx ρ2) μ1
 | .rt d=>.ok (.rt d) μ1
theorem zn (i:Nat):u4 (gN i) n (d::ds) ρ μ=(n (ρ.set i (some d)) μ).bind (kTurn (gN i) n ds):=by
 simp only [u4,gN]
 cases n (ρ.set i (some d)) μ with
 | ok o μ=>cases o <;> rfl
 | exc _ _=>rfl
 | bad=>rfl
theorem ku:kTurn tg n ds (.nx ρ) μ=u4 tg n ds ρ μ:=rfl
end
section
variable (i j:Int) (a b:List Nat) (xs ys:List D) (k l:Bool)
theorem G5:uc (.int i) (.int j)=some (.int (i + j)):=rfl
theorem Ef:zx (.int i) (.int j)=some (.int (i - j)):=rfl
theorem Uv (h:-18446744073709551616 < i) (h2:i < 18446744073709551616):yr (.int i) (.int j)=some (.int (i * j)):=by
 simp only [yr,yi];rw [if_pos (.inl ⟨h,h2⟩)];rfl
theorem zy (h:-18446744073709551616 < j) (h2:j < 18446744073709551616):yr (.int i) (.int j)=some (.int (i * j)):=by
 simp only [yr,yi];rw [if_pos (.inr ⟨h,h2⟩)];rfl
theorem Y4 (h:0 < j) (h2:j < 18446744073709551616):Ul (.int i) (.int j)=some (.int (i / j)):=by
 simp only [Ul,yi];rw [if_pos ⟨h,h2⟩];rfl
theorem Uf (h:0 < j):ux (.int i) (.int j)=some (.int (i % j)):=by
 simp only [ux,yi];rw [if_pos h];rfl
theorem Ec:a43 (.int i) (.int j)=some (.int (Builtin.bitAnd i j)):=rfl
theorem a39:ai3 (.int i) (.int j)=some (.int (Builtin.bitOr i j)):=rfl
theorem Eg:ai1 (.int i) (.int j)=some (.int (Builtin.bitXor i j)):=rfl
theorem g_shl (h:0≤j) (h1:j≤1000000) (h2:i.natAbs < 18446744073709551616):a41 (.int i) (.int j)=some (.int (i * 2 ^ j.toNat)):=by
 simp only [a41,yi];rw [if_pos ⟨h,h1,h2⟩];rfl
theorem g_shr (h:0≤j):a40 (.int i) (.int j)=some (.int (i / 2 ^ j.toNat)):=by
 simp only [a40,yi];rw [if_pos h];rfl
theorem cu:gLt (.int i) (.int j)=some (.bl (decide (i < j))):=rfl
theorem aw:gLe (.int i) (.int j)=some (.bl (decide (i≤j))):=rfl
theorem k9:gGt (.int i) (.int j)=some (.bl (decide (j < i))):=rfl
theorem Wf:gGe (.int i) (.int j)=some (.bl (decide (j≤i))):=rfl
theorem Z3:gEq (.int i) (.int j)=some (.bl (i == j)):=by
 unfold gEq;rw [if_pos (by rfl)];simp [eqD]
theorem vf:gNe (.int i) (.int j)=some (.bl (!(i == j))):=by
 unfold gNe;rw [if_pos (by rfl)];simp [eqD]
theorem Ed:gEq (.bl k) (.bl l)=some (.bl (k == l)):=by
 unfold gEq;rw [if_pos (by rfl)];simp [eqD]
noncomputable def okS (a:List Nat):Bool:=a.all (· < 0x110000)
theorem a79 (ha:okS a=true) (hb:okS b=true):gEq (.str a) (.str b)=some (.bl (a == b)):=by
 unfold okS at ha hb
 unfold gEq qh;simp only [jn,dpt,ha,hb];simp [eqD]
theorem a78 (ha:okS a=true) (hb:okS b=true):gNe (.str a) (.str b)=some (.bl (!(a == b))):=by
 unfold okS at ha hb
 unfold gNe qh;simp only [jn,dpt,ha,hb];simp [eqD]
theorem k8:gIdx (.lst xs) (.int i)=atI xs i:=rfl
theorem wd:gIdx (.tup xs) (.int i)=atI xs i:=rfl
theorem Va:yq [.lst xs]=some (.int xs.length):=rfl
theorem Vb:yq [.tup xs]=some (.int xs.length):=rfl
theorem G4:cr [.int i,.int j]=some (.int (if j > i then j else i)):=rfl
theorem Ee:ai4 [.int i,.int j]=some (.int (if j < i then j else i)):=rfl
theorem we:qu [.bl k]=some (.int (if k then 1 else 0)):=rfl
theorem k7:qu [.int i]=some (.int i):=rfl
theorem X9 {β:Type} {xs:List β} {i:Int} (h0:0≤i):atI xs i=xs[i.toNat]?:=by
 unfold atI ixN
 rw [if_pos h0]
 by_cases h:i < xs.length
 ·rw [if_pos h];rfl
 ·rw [if_neg h]
  simp only [Option.bind_none]
  symm
  rw [List.getElem?_eq_none_iff]
  omega
theorem x0 (n:Nat) (h:n < 4611686018427387904):Ub [.int (n:Nat)]=some (U3 n):=by
 simp only [Ub]
 have h1:(-(2 ^ 62):Int)= -4611686018427387904:=by decide
 have h2:(2 ^ 62:Int)=4611686018427387904:=by decide
 rw [h2,if_pos (by constructor <;> omega),Int.toNat_natCast]
end
end M
set_option Elab.async false
set_option linter.all false
set_option maxRecDepth 100000
set_option maxHeartbeats 4000000
namespace M
open PySem PySem.Spec PyProof.Rows L2
noncomputable def closL (env:Env):List (Str×NameKind)→List (Str×Addr)→List (Str×Addr)
 | [],acc=>acc
 | p::r,acc=>closL env r (if (p.2 == .free)=true then (p.1,(env.cells.lookup p.1).getD 0)::acc else acc)
theorem Fq {env:Env} {scope:Scope} (h:∀ p∈scope.names,p.2=.free→∃ c,env.cells.lookup p.1=some c):closureFor scope env=pure (closL env scope.names []):=by
 simp only [closureFor]
 generalize ([]:List (Str×Addr))=acc
 generalize scope.names=l at h
 induction l generalizing acc with
 | nil=>rfl
 | cons p r ih =>
  obtain ⟨n,k⟩:=p
  rw [List.forIn_cons]
  by_cases hk:(k == NameKind.free)=true
  ·obtain ⟨c,hc⟩:=h (n,k) List.mem_cons_self (by simpa using hk)
   have hc':cellOf env n=pure c:=by unfold cellOf;rw [hc]
   simp only [hk,if_true,hc',pure_bind,closL]
   rw [hc]
   exact ih _ (fun p hp=>h p (List.mem_cons_of_mem _ hp))
  ·simp only [hk,if_false,pure_bind,closL]
   exact ih _ (fun p hp=>h p (List.mem_cons_of_mem _ hp))
theorem vb {env:Env}:∀ (l:List (Str×NameKind)) (acc:List (Str×Addr)),(∀ p∈l,p.2=.free→∃ c,env.cells.lookup p.1=some c)→(∀ p∈acc,env.cells.lookup p.1=some p.2)→∀ p∈closL env l acc,env.cells.lookup p.1=some p.2
 | [],_,_,ha=>ha
 | q::r,acc,h,ha=>by
  refine vb r _ (fun p hp=>h p (List.mem_cons_of_mem _ hp)) ?_
  by_cases hk:(q.2 == NameKind.free)=true
  ·rw [if_pos hk]
   intro p hp
   rcases List.mem_cons.mp hp with rfl | hp
   ·obtain ⟨c,hc⟩:=h q List.mem_cons_self (by simpa using hk)
    simp [hc]
   ·exact ha p hp
  ·rw [if_neg hk];exact ha
theorem Yv {β:Type} {l:List (Str×β)} {x:Str} {c:β} (h:l.lookup x=some c):(x,c)∈l:=by
 induction l with
 | nil=>cases h
 | cons p r ih =>
  obtain ⟨n,k⟩:=p
  rw [List.lookup_cons] at h
  by_cases e:x=n
  ·subst e
   simp at h
   subst h
   exact List.mem_cons_self
  ·have e':(x == n)=false:=by simpa using e
   rw [e'] at h
   exact List.mem_cons_of_mem _ (ih h)
theorem fg {β:Type} {l:List (Str×β)} {x:Str} {c:β} (h:(x,c)∈l):∃ c',l.lookup x=some c':=by
 induction l with
 | nil=>cases h
 | cons p r ih =>
  obtain ⟨n,k⟩:=p
  rw [List.lookup_cons]
  by_cases e:x=n
  ·subst e;exact ⟨k,by simp⟩
  ·rcases List.mem_cons.mp h with h | h
   ·cases h;exact absurd rfl e
   ·obtain ⟨c',hc⟩:=ih h
    have e':(x == n)=false:=by simpa using e
    exact ⟨c',by rw [e'];exact hc⟩
theorem va {env:Env}:∀ (l:List (Str×NameKind)) (acc:List (Str×Addr)) (p:Str×Addr),p∈acc→p∈closL env l acc
 | [],_,_,h=>h
 | q::r,acc,p,h=>by
  refine va r _ p ?_
  split
  ·exact List.mem_cons_of_mem _ h
  ·exact h
theorem Qp {env:Env}:∀ (l:List (Str×NameKind)) (acc:List (Str×Addr)) (x:Str),(x,NameKind.free)∈l→∃ c,(closL env l acc).lookup x=some c
 | [],_,_,h=>nomatch h
 | q::r,acc,x,h=>by
  rcases List.mem_cons.mp h with rfl | h
  ·exact fg (va r _ (x,(env.cells.lookup x).getD 0) (by simp))
  ·exact Qp r _ x h
structure CompScope (scope:Scope) (env:Env):Prop where
 kind:scope.kind=.function
 nocell:∀ y∈scope.names,y.2≠.cell
 loc:∀ y∈scope.names,y.2=.local→scope.names.lookup y.1=some .local
 cap:∀ y∈scope.names,y.2=.free→env.kindOf y.1=some .cell∨env.kindOf y.1=some .free
noncomputable abbrev Wt (scope:Scope) (env:Env):List (Str×Addr):=closL env scope.names []
theorem Vw {scope:Scope} {env:Env} {x:Str} (hn:∀ y∈scope.names,y.2≠.cell) (h:(relabel scope env).names.lookup x=some .cell∨(relabel scope env).names.lookup x=some .free):(x,NameKind.free)∈scope.names:=by
 have:∃ k,(x,k)∈(relabel scope env).names∧(k=.cell∨k=.free):=by
  rcases h with h | h
  ·exact ⟨_,Yv h,.inl rfl⟩
  ·exact ⟨_,Yv h,.inr rfl⟩
 obtain ⟨k,hm,hk⟩:=this
 unfold relabel at hm
 obtain ⟨⟨n,k'⟩,hq,e⟩:=List.mem_map.mp hm
 simp only at e
 split at e
 ·rename_i hc
  simp only [Bool.and_eq_true,beq_iff_eq] at hc
  cases e
  rw [hc.1.1] at hq
  exact hq
 ·cases e
  rcases hk with rfl | rfl
  ·exact absurd rfl (hn _ hq)
  ·exact hq
noncomputable abbrev NoE:Value→Shared→Prop:=fun _ _=>False
theorem Ky {prog:Program} {w:World} {A:Around} {R:Result→Shared→Prop} {s:Shared} {elt target iter:Expr} {ifs:List Expr} {scope:Scope} {pos:Pos} {it acc:Value} {env:Env} (I:Nat→Shared→Prop)
  (turn:∀ n s,I n s→wpAny (model prog w) A (pyNext it) (fun r s₁=>match r with
   | none=>R (.ok .next) s₁
   | some v=>wpAny (model prog w) A (letOwnedTupleGo target it v) (fun _ s₁'=>wpAny (model prog w) A (assign target env v) (fun _ s₂ =>
     wpAny (model prog w) A (forIn ifs true fun c r=>if r=true then do let ok ← isTrue c env (eval c env);pure (ForInStep.yield ok) else pure (ForInStep.yield r)) (fun ok s₃ =>
      if ok=true then wpAny (model prog w) A (eval elt env) (fun x s₄ =>
       wpAny (model prog w) A (call (.builtin "list.append") [acc,x]) (fun _ s₅=>∃ m,m < n∧I m s₅) NoE s₄) NoE s₃
      else ∃ m,m < n∧I m s₃) NoE s₂) NoE s₁') NoE s₁) NoE s)
  (n:Nat) (h:I n s):codeAny (model prog w) A (.compLoop (.ListComp elt [⟨target,iter,ifs,0⟩] scope pos) 0 it acc env) R s:=by
 refine codeAny_loop rfl I (fun n s hI=>?_) n h
 show wpAny _ A ((compTurn (.ListComp elt [⟨target,iter,ifs,0⟩] scope pos) 0 it acc env).onRaise (fun x=>do noteFrame x env;theTreesLotGoes x)) _ _ s
 refine wpAny_noted ?_
 rw [compTurn_list]
 refine wpAny_bind (wpAny_standAt (wpAny_bind (wpAny_mono (turn n s hI) (fun r s₁ h₁=>?_) fun _ _ h'=>h'.elim)))
 cases r with
 | none=>exact wpAny_pure h₁
 | some v =>
  refine wpAny_bind (wpAny_mono h₁ (fun _ s₁' h₁'=>?_) fun _ _ h'=>h'.elim)
  refine wpAny_bind (wpAny_mono h₁' (fun _ s₂ h₂=>wpAny_bind (wpAny_mono h₂ (fun ok s₃ h₃=>?_) fun _ _ h'=>h'.elim)) fun _ _ h'=>h'.elim)
  cases ok with
  | false=>exact wpAny_pure ⟨rfl,h₃⟩
  | true =>
   exact wpAny_bind (wpAny_bind (wpAny_mono h₃ (fun x s₄ h₄=>wpAny_bind (wpAny_mono h₄ (fun _ s₅ h₅=>wpAny_pure (wpAny_pure ⟨rfl,h₅⟩)) fun _ _ h'=>h'.elim)) fun _ _ h'=>h'.elim))
noncomputable def Ui (X:Cx) (N':List Str) (scope:Scope) (C:Addr) (s:Shared) (H:Hp) (ex:List Addr):Cx :=
 { X with N:=N',s₀:=s,H₀:=H,env:=compEnvC scope (Wt scope X.env) C X.env,outer:=X.stack,ex:=ex,fn:=fun _=>false,pn:=[],xe:=NoE,kn:=none}
section
variable {X:Cx} {EX:EXT} {pins:List (Addr×Obj)} {σ:L2.St} {H:Hp} {s:Shared} {scope:Scope} {C:Addr} {ex:List Addr} {N':List Str}
theorem CompScope.had (cs:CompScope scope X.env) (ok:X.Ok):∀ p∈scope.names,p.2=.free→∃ c,X.env.cells.lookup p.1=some c:=fun p hp hk=>ok.has p.1 (cs.cap p hp hk)
theorem y0 (cs:CompScope scope X.env) (ok:X.Ok) {x:Str} {c:Addr} (h:(Wt scope X.env).lookup x=some c):X.env.cells.lookup x=some c :=
 vb scope.names [] (cs.had ok) (fun _ z=>nomatch z) (x,c) (Yv h)
theorem C4 (I:Inv X pins σ H s) (cs:CompScope scope X.env) (hC:s.heap.objs.size≤C) (hex:∀ b∈ex,zt X pins H b∧∃ o,s.heap.get? b=some o):(Ui X N' scope C s H ex).Ok:=by
 refine ⟨I.ok.mod,cs.kind,I.ok.glob,I.ok.blt,hC,fun x y c h1 h2=>I.ok.inj x y c (y0 cs I.ok h1) (y0 cs I.ok h2),fun x h=>?_,fun x c h=>(by cases h),I.ok.hd,I.ok.frames,.inl rfl,fun b hb=>⟨?_,fun x c h=>?_⟩,I.bs,Nat.le_trans I.ok.bsz I.sz,fun b o e hb=>?_,fun b hb hf=>?_,I.stack,I.stkFree⟩
 ·exact Qp scope.names [] x (Vw cs.nocell h)
 ·obtain ⟨o,e⟩:=(hex b hb).2
  exact Nat.ne_of_lt (Nat.lt_of_lt_of_le (Heap.lt_size e) hC)
 ·exact (hex b hb).1.2.2.2.2.1 x c (y0 cs I.ok h)
 ·rcases (hex b hb).1.2.2.2.1 with z | z
  ·exact I.ok.noex b o e z
  ·exact absurd (Nat.lt_of_lt_of_le (Heap.lt_size e) (Nat.le_trans I.ok.bsz z)) (Nat.lt_irrefl _)
 ·rcases List.mem_cons.mp (I.stkSub b hf) with z | z
  ·exact (hex b hb).1.2.1 z
  ·exact (hex b hb).1.2.2.1 z
theorem Zc {env:Env} {scope:Scope} {x:Str} (h:scope.names.lookup x=some .free):(relabel scope env).names.lookup x=some .cell∨(relabel scope env).names.lookup x=some .free:=by
 unfold relabel
 generalize scope.names=l at h
 simp only
 induction l with
 | nil=>cases h
 | cons p r ih =>
  obtain ⟨n,k⟩:=p
  rw [List.lookup_cons] at h
  simp only [List.map_cons]
  by_cases e:(x == n)=true
  ·rw [e] at h
   cases h
   split
   ·left;rw [List.lookup_cons,e]
   ·right;rw [List.lookup_cons,e]
  ·have e':(x == n)=false:=by simpa using e
   rw [e'] at h
   have:=ih h
   split
   ·rw [List.lookup_cons,e'];exact this
   ·rw [List.lookup_cons,e'];exact this
structure Caps (X:Cx) (scope:Scope) (T caps:List Str) (ix:List Nat):Prop where
 len:ix.length=caps.length
 at':∀ (j:Nat) (x:Str) (i:Nat),caps[j]? =some x→ix[j]? =some i→X.N[i]? =some x∧scope.names.lookup x=some .free
noncomputable def blk {β:Type} (k:Nat) (ix:List Nat) (σ:List (Option β)):List (Option β):=List.replicate k none++ix.map fun i=>(σ[i]?).getD none
theorem Ft {T caps:List Str} {ix:List Nat} (I:Inv X pins σ H s) (cs:CompScope scope X.env) (cp:Caps X scope T caps ix) {h':Heap} {tk:Nat} (hC:C=s.heap.objs.size) (hex:∀ b∈ex,zt X pins H b∧∃ o,s.heap.get? b=some o)
  (hn:h'.Ns C fun _=>none) (hk:∀ b o,s.heap.get? b=some o→h'.get? b=some o) :
  Inv (Ui X (T++caps) scope C s H ex) [] (blk T.length ix σ) H { s with heap:=h',toks:=tk}:=by
 have ok:=C4 (N':=T++caps) (C:=C) I cs (by rw [hC];exact Nat.le_refl _) hex
 refine ⟨ok,rfl,I.bare,Un.kept hk,⟨_,hn,fun i x v e1 e2 e3=>?_⟩,fun x c e=>?_,?_,fun x c e=>I.freeC x c (y0 cs I.ok e),fun p hp=>(by simp [Ui] at hp),I.hok.kept hk,by simp [blk,Ui,cp.len],fun f e=>by cases (show (none:Option (Str→Option Value))=some f from e)⟩
 ·have e1:(T++caps)[i]? =some x:=e1
  unfold blk at e2
  by_cases hi:i < T.length
  ·rw [List.getElem?_append_left (by simpa using hi),List.getElem?_replicate] at e2
   split at e2 <;> cases e2
  ·rw [List.getElem?_append_right (by simp;omega)] at e2
   rw [List.getElem?_append_right (by omega)] at e1
   simp only [List.length_replicate,List.getElem?_map] at e2
   cases q:ix[i - T.length]? with
   | none=>rw [q] at e2;cases e2
   | some j =>
    rw [q] at e2
    obtain ⟨hN,hl⟩:=cp.at' _ x j e1 q
    have e2:(σ[j]?).getD none=some v:=by simpa using e2
    have hσ:σ[j]? =some (some v):=by
     cases z:σ[j]? with
     | none=>rw [z] at e2;cases e2
     | some o=>rw [z] at e2;simp at e2;rw [e2]
    have hm:(x,NameKind.free)∈scope.names:=Yv hl
    have hkind:=cs.cap (x,.free) hm rfl
    obtain ⟨m,hns,hloc⟩:=I.loc
    obtain ⟨u,ru,look⟩:=hloc j x v hN hσ (hkind.elim (fun z=>.inr (.inl z)) fun z=>.inr (.inr z))
    refine ⟨u,ru,.inr ⟨Zc hl,?_⟩⟩
    rcases look with ⟨z,_⟩ | ⟨_,c,hc,hcell⟩
    ·rcases hkind with y | y
     ·rw [z] at y;cases y
     ·rw [z] at y;cases y
    ·obtain ⟨c',hc'⟩:=Qp (env:=X.env) scope.names [] x hm
     have:=y0 cs I.ok hc'
     rw [hc] at this
     cases this
     obtain ⟨o,ho,hd⟩:=hcell
     exact ⟨c,hc',o,hk _ _ ho,hd⟩
 ·obtain ⟨v,o,ho,hd⟩:=I.cell x c (y0 cs I.ok e)
  exact ⟨v,o,hk _ _ ho,hd⟩
 ·show H C=none
  rw [hC]
  exact I.fresh
theorem C3 {T caps:List Str} {σ':L2.St} {H1 H':Hp} {s2 s3 s':Shared} {D:Addr} {o:HO} (I2:Inv X pins σ H1 s2) (hD:s2.heap.objs.size≤D) (h3:s3.os=s2.os) (hk:∀ b u,s2.heap.get? b=some u→s3.heap.get? b=some u)
  (hex:∀ b∈ex,zt X pins H1 b) (I':Inv (Ui X (T++caps) scope C s3 (upd H1 D o) ex) [] σ' H' s'):Inv X pins σ H' s':=by
 have hos:s'.os=s2.os:=I'.os.trans h3
 have u0:Un (frs X.stack) ex H1 (upd H1 D o) s2.heap s3.heap:=Un.laid hk hD (I2.hok.fresh hD)
 have u:Un (frs X.stack) ex H1 H' s2.heap s'.heap:=u0.trans I'.base
 exact I2.call' hos u I'.hok I'.bare fun b hb=>⟨(hex b hb).2.2.2.1,(hex b hb).2.1,(hex b hb).2.2.2.2.1,(hex b hb).2.2.2.2.2⟩
end
end M
set_option Elab.async false
set_option linter.all false
set_option maxRecDepth 100000
set_option maxHeartbeats 4000000
namespace M
open PySem PySem.Spec PyProof.Rows L2
noncomputable def u8 (tg:MG) (t:MB) (m:MX):List D→En→Mu→List D→Res (List D)
 | [],_,μ,acc=>.ok acc μ
 | d::ds,ρ,μ,acc=>match tg d ρ with
  | none=>.bad
  | some ρ1=>(noX (t ρ1 μ)).bind fun k μ1=>if k=true then (noX (m ρ1 μ1)).bind fun x μ2=>u8 tg t m ds ρ1 μ2 (acc++[x]) else u8 tg t m ds ρ1 μ1 acc
noncomputable def vn (k:Nat) (ix:List Nat) (tg:MG) (it:MIt) (t:MB) (m:MX):MX:=fun ρ μ=>(it ρ μ).bind fun ds μ1=>if ds.length≤16777216 then (u8 tg t m ds (blk k ix ρ) μ1 []).bind fun xs μ2=>.ok (.lst xs) μ2 else .bad
noncomputable def mTT:MB:=fun _ μ=>.ok true μ
noncomputable def ak1 (X:Cx) (ifs:List Expr) (t:MB):Prop:=∀ pins s Z α F H σ ρ μ Q,Inv X pins σ H s→RS X.K Z α F H σ ρ μ→GB X.K NoX Z α F Q (t ρ μ) →
 wpAny (model X.prog X.w) X.A (forIn ifs true fun c r=>if r=true then do let ok ← isTrue c X.env (eval c X.env);pure (ForInStep.yield ok) else pure (ForInStep.yield r)) (TP X pins σ Q) X.xe s
theorem mifs_nil {X:Cx}:ak1 X [] mTT:=fun pins s Z α F H σ ρ μ Q I R g=>wpAny_tests_nil ⟨H,I,g α F H R.hp (Ext.refl _ _)⟩
theorem ab7 {K:PySem.W.Frag} {Z:ZS} {F H:Hp} {α:List Addr} {σ:L2.St} {ρ:En} {μ:Mu} (k:Nat) (ix:List Nat) (R:RS K Z α F H σ ρ μ):RS K Z α F H (blk k ix σ) (blk k ix ρ) μ:=by
 refine ⟨R.hp,by simp [blk],fun i d h=>?_⟩
 unfold blk at h ⊢
 by_cases hi:i < k
 ·rw [List.getElem?_append_left (by simpa using hi),List.getElem?_replicate] at h
  split at h <;> cases h
 ·rw [List.getElem?_append_right (by simp;omega)] at h ⊢
  simp only [List.length_replicate,List.getElem?_map] at h ⊢
  cases q:ix[i - k]? with
  | none=>rw [q] at h;cases h
  | some j =>
   rw [q] at h
   have e2:(ρ[j]?).getD none=some d:=by simpa using h
   have hρ:ρ[j]? =some (some d):=by
    cases z:ρ[j]? with
    | none=>rw [z] at e2;cases e2
    | some o=>rw [z] at e2;simp at e2;rw [e2]
   obtain ⟨v,h1,h2⟩:=R.sl j d hρ
   exact ⟨v,by simp [h1],h2⟩
theorem RH.rehold {K:PySem.W.Frag} {Z:ZS} {F H:Hp} {α:List Addr} {μ:Mu} {p:Addr} {o:HO} (o':HO) (r:RH K (ZS.up Z p o) α F H μ):RH K (ZS.up Z p o') α F (upd H p o') μ:=by
 have fp:F p=none:=r.zf p o uo
 have nc:∀ (k:Nat) (a:Addr) (c:Cell),α[k]? =some a→μ[k]? =some c→c≠.dead→a≠p:=fun k a c ha hc hd z=>by
  have:=r.zc k a c ha hc hd
  rw [z,uo] at this
  cases this
 refine ⟨fun b u e=>?_,r.len,fun k a c ha hc=>?_,fun b u e=>?_,fun b u e=>?_,fun k a c ha hc hd=>?_,r.dis,r.ext⟩
 ·rw [jw (jj e fp)];exact r.sub b u e
 ·exact (r.cell k a c ha hc).go (Ext.refl _ _) (fun _=>rfl) fun hd=>jw (nc k a c ha hc hd)
 ·by_cases hb:b=p
  ·subst hb;rw [uo] at e;rw [jt];exact e
  ·rw [Uq hb] at e;rw [jw hb];exact r.zs b u (by rw [Uq hb];exact e)
 ·by_cases hb:b=p
  ·subst hb;exact fp
  ·rw [Uq hb] at e;exact r.zf b u (by rw [Uq hb];exact e)
 ·have:=r.zc k a c ha hc hd
  rw [Uq (nc k a c ha hc hd)] at this ⊢
  exact this
theorem aa0 {H:Hp} {p:Addr} {o:HO} (h:H p=some o):upd H p o=H:=by
 funext b
 unfold upd
 split
 ·rename_i e;rw [e,h]
 ·rfl
section
variable {X:Cx} {EX:EXT} {elt tg iter:Expr} {ifs:List Expr} {scope:Scope} {pos:Pos} {T caps:List Str} {ix:List Nat} {g:MG} {t:MB} {m:MX}
noncomputable def Blk (X:Cx) (scope:Scope) (N':List Str) (tg:Expr) (ifs:List Expr) (elt:Expr) (g:MG) (t:MB) (m:MX):Prop :=
 ∀ C s H ex,MTg (Ui X N' scope C s H ex) tg g∧ak1 (Ui X N' scope C s H ex) ifs t∧ME (Ui X N' scope C s H ex) NoX elt m
theorem RH.drop {K:PySem.W.Frag} {Z:ZS} {F H:Hp} {α:List Addr} {μ:Mu} {p:Addr} {o:HO} (r:RH K (ZS.up Z p o) α F H μ) (hz:Z.z p=none):RH K Z α F H μ:=by
 refine ⟨r.sub,r.len,r.cell,fun b u e=>?_,fun b u e=>?_,fun k a c ha hc hd=>?_,r.dis,r.ext⟩
 ·exact r.zs b u (by rw [Uq (jj e hz)];exact e)
 ·exact r.zf b u (by rw [Uq (jj e hz)];exact e)
 ·have:=r.zc k a c ha hc hd
  by_cases ha':a=p
  ·rw [ha'];exact hz
  ·rw [Uq ha'] at this;exact this
inductive CSt (Y:Cx) (Z:ZS) (D':Addr) (fp:List Addr) (tn:Nat→Heap→Prop) (α:List Addr) (F:Hp) (g:MG) (t:MB) (m:MX) (ds:List D) (G:Res (List D)→Prop):Nat→Shared→Prop
 | mk {i:Nat} {σ':L2.St} {H':Hp} {α':List Addr} {F':Hp} {ρ':En} {μ':Mu} {xs:List D} {vs:List V} {s':Shared}:i≤ds.length→xs.length≤i→Inv Y [] σ' H' s'→tn i s'.heap→(∀ b∈fp,H' b=none)→RS Y.K (ZS.up Z D' (.lst vs)) α' F' H' σ' ρ' μ'→Ext α F α' F'→Reps Y.K F' α' xs vs→G (u8 g t m (ds.drop i) ρ' μ' xs)→CSt Y Z D' fp tn α F g t m ds G (ds.length + 1 - i) s'
theorem ce {Y:Cx} {Rr:Result→Shared→Prop} {s:Shared} {σ:L2.St} {Z:ZS} {H F:Hp} {α:List Addr} {ρ:En} {μ:Mu} {ds:List D} {J:It} {fp:List Addr} {it D':Addr} {tn:Nat→Heap→Prop} {G:Res (List D)→Prop} (hxe:Y.xe=NoE) (hcalm:Y.calm=true)
  (hgt:MTg Y tg g) (hif:ak1 Y ifs t) (he:ME Y NoX elt m) (Tn:Turn Y.prog Y.w Y.K tg J fp it tn) (stat:∀ H',(∀ b∈fp,H' b=none)→∀ b∈fp,zt Y [] H' b) (I:Inv Y [] σ H s) (ht0:tn 0 s.heap) (hf0:∀ b∈fp,H b=none)
  (R:RS Y.K (ZS.up Z D' (.lst [])) α F H σ ρ μ) (wk:Zu Y.K α F J ds) (hds:ds.length≤16777216) (hG:G (u8 g t m ds ρ μ [])) (hbad:¬ G .bad)
  (hR:∀ (σ':L2.St) (H':Hp) (s':Shared) (α':List Addr) (F':Hp) (xs:List D) (vs:List V) (μ':Mu),Inv Y [] σ' H' s'→RH Y.K (ZS.up Z D' (.lst vs)) α' F' H' μ'→Ext α F α' F'→Reps Y.K F' α' xs vs→G (.ok xs μ')→Rr (.ok .next) s') :
  codeAny (model Y.prog Y.w) Y.A (.compLoop (.ListComp elt [⟨tg,iter,ifs,0⟩] scope pos) 0 (.ref it) (.ref D') Y.env) Rr s:=by
 obtain ⟨tgt,pg,sg⟩:=hgt
 obtain ⟨te,pe,se⟩:=he
 have nox:∀ {α:Type} {tr:Sem α} {Q:α→Shared→Prop} {s:Shared},wpAny (model Y.prog Y.w) Y.A tr Q Y.xe s→wpAny (model Y.prog Y.w) Y.A tr Q NoE s:=fun h=>by rw [hxe] at h;exact h
 refine Ky (CSt Y Z D' fp tn α F g t m ds G) ?_ (ds.length + 1) (.mk (i:=0) (xs:=[]) (vs:=[]) (Nat.zero_le _) (Nat.zero_le _) I ht0 hf0 R (Ext.refl _ _) jo hG)
 rintro n s1 (@⟨i,σ1,H1,α1,F1,ρ1,μ1,xs,vs,_,hi,hxl,I1,t1,f1,R1,e1,r1,g1⟩)
 obtain ⟨w1,w2⟩:=wk _ α1 F1 H1 μ1 R1.hp e1 i
 by_cases hlt:i < ds.length
 ·obtain ⟨w3,w4⟩:=w1 hlt
  refine wpAny_mono (Tn.item Y rfl rfl rfl hcalm i [] s1 σ1 H1 NoE I1 (stat H1 f1) t1 w3) (fun r s2 h2=>?_) fun _ _ z=>z
  obtain ⟨u,rfl,h2⟩:=h2
  refine wpAny_mono h2 (fun _ s3 h3=>?_) fun _ _ z=>z
  obtain ⟨x,H3,I3,rx,yl,t3,f3⟩:=h3
  obtain ⟨d,F3,hd,R3,sf3,p3⟩:=w4 x H3 yl
  have e3:Ext α1 F1 α1 F3:=⟨sf3,fun _ _ h=>h⟩
  rw [List.drop_eq_getElem_cons hlt] at g1
  have hd':ds[i]=d:=by
   rw [List.getElem?_eq_getElem hlt] at hd
   exact Option.some.inj hd
  rw [hd'] at g1
  simp only [u8] at g1
  cases ht:g d ρ1 with
  | none=>rw [ht] at g1;exact absurd g1 hbad
  | some ρ4 =>
   rw [ht] at g1
   simp only at g1
   have I3':=I3.pinned (stat H3 f3) (Tn.obj _ _ t3)
   have R3':RS Y.K (ZS.up Z D' (.lst vs)) α1 F3 H3 σ1 ρ1 μ1:=R1.to R3 e3
   refine wpAny_mono (nox (pg _ s3 σ1 H3 x u (fun σ4 H4=>H4=H3∧RS Y.K (ZS.up Z D' (.lst vs)) α1 F3 H3 σ4 ρ4 μ1) I3' rx (sg _ α1 F3 H3 σ1 ρ1 μ1 x d ρ4 _ R3' p3 ht fun σ4 R4=>⟨rfl,R4⟩))) (fun _ s4 h4=>?_) fun _ _ z=>z
   obtain ⟨σ4,H4,I4,rfl,R4⟩:=h4
   have back:∀ {σ5:L2.St} {H5:Hp} {s5:Shared},Inv Y ([]++Xi fp s3.heap) σ5 H5 s5→Inv Y [] σ5 H5 s5∧tn (i + 1) s5.heap∧∀ b∈fp,H5 b=none:=fun {σ5 H5 s5} I5=>by
    refine ⟨I5.unpinned,Tn.keep _ _ _ t3 fun b hb o e=>(I5.pin (b,o) (List.mem_append_right _ (List.mem_append_right _ (Yw hb e)))).1,fun b hb=>?_⟩
    obtain ⟨o,e,_⟩:=Tn.obj _ _ t3 b hb
    exact (I5.pin (b,o) (List.mem_append_right _ (List.mem_append_right _ (Yw hb e)))).2.1
   refine wpAny_mono (nox (hif _ s4 _ α1 F3 H4 σ4 ρ4 μ1 (fun k H5=>∃ μ5 α5 F5,RH Y.K (ZS.up Z D' (.lst vs)) α5 F5 H5 μ5∧Ext α1 F3 α5 F5∧G (if k=true then (noX (m ρ4 μ5)).bind fun x μ2=>u8 g t m (ds.drop (i + 1)) ρ4 μ2 (xs++[x]) else u8 g t m (ds.drop (i + 1)) ρ4 μ5 xs)) I4 R4 ?_)) (fun k s5 h5=>?_) fun _ _ z=>z
   ·cases hk:t ρ4 μ1 with
    | ok k μ5=>rw [hk] at g1;exact fun α5 F5 H5 R5 e5=>⟨μ5,α5,F5,R5,e5,g1⟩
    | exc x μ5=>rw [hk] at g1;exact absurd g1 hbad
    | bad=>rw [hk] at g1;exact absurd g1 hbad
   obtain ⟨H5,I5,μ5,α5,F5,R5,e5,g5⟩:=h5
   cases k with
   | false =>
    obtain ⟨b1,b2,b3⟩:=back I5
    exact ⟨_,by omega,.mk (i:=i + 1) hlt (Nat.le_succ_of_le hxl) b1 b2 b3 (R4.to R5 e5) (e1.trans (e3.trans e5)) ((r1.mono e3).mono e5) g5⟩
   | true =>
    simp only [if_true] at g5 ⊢
    refine wpAny_mono (nox (pe _ s5 σ4 H5 (fun v6 H6=>∃ x6 μ6 α6 F6,RH Y.K (ZS.up Z D' (.lst vs)) α6 F6 H6 μ6∧Ext α5 F5 α6 F6∧Rep Y.K F6 α6 x6 v6∧G (u8 g t m (ds.drop (i + 1)) ρ4 μ6 (xs++[x6]))) I5 (se _ α5 F5 H5 σ4 ρ4 μ5 _ (R4.to R5 e5) ?_))) (fun y s6 h6=>?_) fun _ _ z=>z
    ·cases hm:m ρ4 μ5 with
     | ok x6 μ6=>rw [hm] at g5;exact fun v6 α6 F6 H6 R6 e6 p6=>⟨x6,μ6,α6,F6,R6,e6,p6,g5⟩
     | exc x μ5=>rw [hm] at g5;exact absurd g5 hbad
     | bad=>rw [hm] at g5;exact absurd g5 hbad
    obtain ⟨v6,H6,I6,rv,x6,μ6,α6,F6,R6,e6,p6,g6⟩:=h6
    have hHD:H6 D'=some (.lst vs):=R6.zs _ _ uo
    have hvl:vs.length < sizeLine:=by rw [← r1.length,sizeLine_eq];omega
    refine wpAny_mono (nox (vx (X:=Y) _ s6 σ4 H6 (.ref D') [v6] (.ref D') [y] (fun _ H7=>H7=upd H6 D' (.lst (vs++[v6]))) I6 rfl (.cons rv .nil) ⟨D',vs,v6,rfl,rfl,hHD,hvl,rfl⟩)) (fun z s7 h7=>?_) fun _ _ z=>z
    obtain ⟨_,H7,I7,_,rfl⟩:=h7
    obtain ⟨b1,b2,b3⟩:=back I7
    have R7:=R6.rehold (.lst (vs++[v6]))
    refine ⟨_,by omega,.mk (i:=i + 1) (xs:=xs++[x6]) (vs:=vs++[v6]) hlt ?_ b1 b2 b3 ?_ (e1.trans (e3.trans (e5.trans e6))) ?_ g6⟩
    ·rw [List.length_append,List.length_singleton];exact Nat.succ_le_succ hxl
    ·exact ⟨R7,R4.len,fun j dd h=>let ⟨v,h1,h2⟩:=R4.sl j dd h;⟨v,h1,(h2.mono e5).mono e6⟩⟩
    ·exact ((((r1.mono e3).mono e5).mono e6).append (j6 p6 jo))
 ·refine wpAny_mono (Tn.done Y rfl rfl rfl hcalm i [] s1 σ1 H1 NoE I1 (stat H1 f1) t1 (w2 (by omega))) (fun r s2 h2=>?_) fun _ _ z=>z
  obtain ⟨rfl,I2⟩:=h2
  rw [List.drop_eq_nil_of_le (by omega)] at g1
  exact hR σ1 H1 s2 α1 F1 xs vs μ1 I2 R1.hp e1 r1 g1
theorem Fs {pins:List (Addr×Obj)} {σ:L2.St} {H1:Hp} {s2:Shared} {E:Value→Shared→Prop} {RR:Value→Addr→Result→Shared→Prop} {it:Addr} {fp:List Addr} {tn:Nat→Heap→Prop} {J:It} {Z:ZS} {α:List Addr} {F:Hp} {ρ:En} {μ:Mu} {ds:List D} {G:Res (List D)→Prop}
  (cs:CompScope scope X.env) (cp:Caps X scope T caps ix) (hcalm:X.calm=true) (hb:Blk X scope (T++caps) tg ifs elt g t m)
  (I2:Inv X pins σ H1 s2) (Tn:Turn X.prog X.w X.K tg J fp it tn) (ht0:tn 0 s2.heap) (hfp:∀ b∈fp,zt X pins H1 b) (R:RS X.K Z α F H1 σ ρ μ) (wk:Zu X.K α F J ds) (hds:ds.length≤16777216)
  (hG:G (u8 g t m ds (blk T.length ix ρ) μ [])) (hbad:¬ G .bad)
  (hRR:∀ (D' C:Addr) (H':Hp) (s':Shared) (α':List Addr) (F':Hp) (xs:List D) (vs:List V) (μ':Mu) (mm:Str→Option Value),Inv X pins σ H' s'→zt X pins H' C→s'.heap.Ns C mm→RH X.K (ZS.up Z D' (.lst vs)) α' F' H' μ'→Z.z D'=none→Ext α F α' F'→Reps X.K F' α' xs vs→G (.ok xs μ')→RR (.ref D') C (.ok .next) s') :
  wpAny (model X.prog X.w) X.A (newList []) (fun acc s₃=>wpAny (model X.prog X.w) X.A (newFunctionEnv scope X.env.globals (Wt scope X.env) [] X.env.qual none .none (some X.env)) (fun cenv s₄ =>
   codeAny (model X.prog X.w) X.A (.compStart (.ListComp elt [⟨tg,iter,ifs,0⟩] scope pos) 0 (.ref it) acc { cenv with scope:=relabel scope X.env}) (RR acc cenv.locals) s₄) E s₃) E s2:=by
 have hD:H1 s2.heap.objs.size=none:=I2.fresh
 have hZ:Z.z s2.heap.objs.size=none:=by
  cases e:Z.z s2.heap.objs.size with
  | none=>rfl
  | some u=>rw [R.hp.zs _ _ e] at hD;cases hD
 have I3:Inv X pins σ (upd H1 s2.heap.objs.size (.lst [])) { s2 with heap:=s2.heap.push { cls:=.type "list",data:=.seq ([]:List Value).toArray},toks:=s2.toks}:=I2.lnew (its:=[]) (ys:=[]) .nil (Nat.zero_le _)
 have k3:∀ b u,s2.heap.get? b=some u→(s2.heap.push { cls:=.type "list",data:=.seq ([]:List Value).toArray}).get? b=some u:=fun b u e=>Heap.get?_push_of_some _ e
 refine wpAny_newObj_type (wpAny_newFunctionEnv cs.nocell (by intro y hy;simp at hy) (fun h₁ hns₁ hsb₁=>?_) cs.kind)
 have hobj:∀ b∈fp,∃ o,s2.heap.get? b=some o:=fun b hb=>let ⟨o,e,_⟩:=Tn.obj 0 _ ht0 b hb;⟨o,e⟩
 have hnD:∀ b∈fp,b≠s2.heap.objs.size:=fun b hb=>let ⟨o,e⟩:=hobj b hb;Nat.ne_of_lt (Heap.lt_size e)
 have hex3:∀ b∈fp,zt X pins (upd H1 s2.heap.objs.size (.lst [])) b∧∃ o,(s2.heap.push { cls:=.type "list",data:=.seq ([]:List Value).toArray}).get? b=some o:=fun b hb=>by
  obtain ⟨f0,f1⟩:=hfp b hb
  obtain ⟨o,e⟩:=hobj b hb
  exact ⟨⟨by rw [jw (hnD b hb)];exact f0,f1⟩,o,k3 b o e⟩
 have keep1:∀ b o,(s2.heap.push { cls:=.type "list",data:=.seq ([]:List Value).toArray}).get? b=some o→h₁.get? b=some o:=fun b o e =>
  hsb₁.extBut b o (Nat.ne_of_lt (Heap.lt_size e)) (Heap.get?_push_of_some _ e)
 have I4:=Ft (scope:=scope) (T:=T) (caps:=caps) (ix:=ix) (ex:=fp) (tk:=s2.toks + ([]:List (Str×Value)).length) I3 cs cp rfl hex3 (by simpa using hns₁) keep1
 obtain ⟨hgt,hif,he⟩:=hb (s2.heap.push { cls:=.type "list",data:=.seq ([]:List Value).toArray}).objs.size { s2 with heap:=s2.heap.push { cls:=.type "list",data:=.seq ([]:List Value).toArray},toks:=s2.toks} (upd H1 s2.heap.objs.size (.lst [])) fp
 have t1:tn 0 h₁:=Tn.keep 0 _ _ ht0 fun b _ o e=>keep1 b o (k3 b o e)
 have stat:∀ H':Hp,(∀ b∈fp,H' b=none)→∀ b∈fp,zt (Ui X (T++caps) scope (s2.heap.push { cls:=.type "list",data:=.seq ([]:List Value).toArray}).objs.size { s2 with heap:=s2.heap.push { cls:=.type "list",data:=.seq ([]:List Value).toArray},toks:=s2.toks} (upd H1 s2.heap.objs.size (.lst [])) fp) [] H' b:=fun H' hn b hb=>by
  refine ⟨hn b hb,(I4.ok.exf b hb).1,I4.ok.exfs b hb,.inl hb,(I4.ok.exf b hb).2,fun p hp=>?_⟩
  exact absurd hp (by simp [Ui])
 have loop:codeAny (model X.prog X.w) X.A (.compLoop (.ListComp elt [⟨tg,iter,ifs,0⟩] scope pos) 0 (.ref it) (.ref s2.heap.objs.size) (compEnvC scope (Wt scope X.env) (s2.heap.push { cls:=.type "list",data:=.seq ([]:List Value).toArray}).objs.size X.env))
   (RR (.ref s2.heap.objs.size) (s2.heap.push { cls:=.type "list",data:=.seq ([]:List Value).toArray}).objs.size) { s2 with heap:=h₁,toks:=s2.toks + ([]:List (Str×Value)).length}:=by
  refine ce (Y:=Ui X (T++caps) scope (s2.heap.push { cls:=.type "list",data:=.seq ([]:List Value).toArray}).objs.size { s2 with heap:=s2.heap.push { cls:=.type "list",data:=.seq ([]:List Value).toArray},toks:=s2.toks} (upd H1 s2.heap.objs.size (.lst [])) fp) (Z:=Z) (G:=G) rfl hcalm hgt hif he Tn stat I4 t1 (fun b hb=>by rw [jw (hnD b hb)];exact (hfp b hb).1)
   (ab7 T.length ix ⟨R.hp.hold (.lst []) hD,R.len,R.sl⟩) wk hds hG hbad fun σ' H' s' α' F' xs vs μ' I' R' e' r' g'=>?_
  have Ib:=C3 (T:=T) (caps:=caps) (s3:={ s2 with heap:=s2.heap.push { cls:=.type "list",data:=.seq ([]:List Value).toArray},toks:=s2.toks}) I2 (Nat.le_refl _) rfl k3 hfp I'
  obtain ⟨mm,hmm,_⟩:=I'.loc
  exact hRR _ _ H' s' α' F' xs vs μ' mm Ib (I3.fpOk (Nat.le_refl _) I'.free) hmm R' hZ e' r' g'
 exact codeAny_compStart_list loop (Tn.self X.A 0 _ _ _ t1 loop)
theorem cb {pins:List (Addr×Obj)} {σ:L2.St} {H1:Hp} {s2:Shared} {E:Value→Shared→Prop} {RR:Value→Addr→Result→Shared→Prop} {it:Addr} {fp:List Addr} {tn:Nat→Heap→Prop} {J:It} {Z:ZS} {α:List Addr} {F:Hp} {ρ:En} {μ:Mu} {ds:List D} {G:Res (List D)→Prop}
  (cs:CompScope scope X.env) (cp:Caps X scope T caps ix) (hcalm:X.calm=true) (hb:Blk X scope (T++caps) tg ifs elt g t m)
  (I2:Inv X pins σ H1 s2) (Tn:Turn X.prog X.w X.K tg J fp it tn) (ht0:tn 0 s2.heap) (hfp:∀ b∈fp,zt X pins H1 b) (R:RS X.K Z α F H1 σ ρ μ) (wk:Zu X.K α F J ds) (hds:ds.length≤16777216)
  (hG:G (u8 g t m ds (blk T.length ix ρ) μ [])) (hbad:¬ G .bad)
  (hRR:∀ (D' C:Addr) (H':Hp) (s':Shared) (α':List Addr) (F':Hp) (xs:List D) (μ':Mu) (mm:Str→Option Value),Inv X pins σ H' s'→zt X pins H' C→s'.heap.Ns C mm→RH X.K Z α' F' H' μ'→Ext α F α' F'→Rep X.K F' α' (.lst xs) (.ref D')→G (.ok xs μ')→RR (.ref D') C (.ok .next) s') :
  wpAny (model X.prog X.w) X.A (newList []) (fun acc s₃=>wpAny (model X.prog X.w) X.A (newFunctionEnv scope X.env.globals (Wt scope X.env) [] X.env.qual none .none (some X.env)) (fun cenv s₄ =>
   codeAny (model X.prog X.w) X.A (.compStart (.ListComp elt [⟨tg,iter,ifs,0⟩] scope pos) 0 (.ref it) acc { cenv with scope:=relabel scope X.env}) (RR acc cenv.locals) s₄) E s₃) E s2:=by
 refine Fs (G:=G) cs cp hcalm hb I2 Tn ht0 hfp R wk hds hG hbad fun D' C H' s' α' F' xs vs μ' mm I' fC hn R' hZ e' r' g'=>?_
 have hHD:H' D'=some (.lst vs):=R'.zs _ _ uo
 obtain ⟨R2,s2'⟩:=R'.unhold (.lst vs) hZ
 rw [aa0 hHD] at R2
 refine hRR _ _ H' s' α' _ xs μ' mm I' fC hn R2 (e'.trans ⟨s2',fun _ _ h=>h⟩) ?_ g'
 unfold Rep
 exact ⟨_,vs,rfl,SqL.of jt,r'.mono ⟨s2',fun _ _ h=>h⟩⟩
theorem a36 {pins:List (Addr×Obj)} {σ:L2.St} {H:Hp} {s:Shared} {C:Addr} {h':Heap} (I:Inv X pins σ H s) (f:zt X pins H C) (hs:Heap.SameBut C s.heap h'):Inv X pins σ H { s with heap:=h'} :=
 I.turned (t':=s.toks) (fun b o hb e=>hs.extBut b o hb e) f.1 f.2.1 f.2.2.2.1 f.2.2.2.2.1 f.2.2.2.2.2
theorem Ep {mi:MIt} (cs:CompScope scope X.env) (cp:Caps X scope T caps ix) (hcalm:X.calm=true) (hi:MI X EX tg iter mi) (hb:Blk X scope (T++caps) tg ifs elt g t m) (hs:∀ x,foldedSetIterable iter X.env x=pure x:=by intro _;rfl) :
  ME X EX (.ListComp elt [⟨tg,iter,ifs,0⟩] scope pos) (vn T.length ix g mi t m):=by
 obtain ⟨wi,pi,si⟩:=hi
 refine ⟨fun σ H Q=>∀ pins s,Inv X pins σ H s→wpAny (model X.prog X.w) X.A (eval (.ListComp elt [⟨tg,iter,ifs,0⟩] scope pos) X.env) (EP X pins σ Q) X.xe s,fun pins s σ H Q I h=>h pins s I,fun Z α F H σ ρ μ Q R gd pins s I=>?_⟩
 rw [eval_ListComp]
 refine wpAny_comprehension_free (use:=none) rfl hs (Fq (cs.had I.ok)) cs.kind cs.loc ?_
 unfold vn at gd
 cases hm:mi ρ μ with
 | exc x μ1 =>
  rw [hm] at gd
  have hw:wi σ H fun _ _=>False:=si Z α F H σ ρ μ _ R (by rw [hm];exact gd)
  refine thn (pi pins s σ H _ I hw) fun v s1 h1=>thn h1 fun itv s2 h2=>?_
  obtain ⟨_,_,_,_,_,_,_,_,_,_,z⟩:=h2
  exact z.elim
 | bad=>rw [hm] at gd;exact gd.elim
 | ok ds μ1 =>
  rw [hm] at gd
  simp only [bind_ok] at gd
  by_cases hds:ds.length≤16777216
  ·rw [if_pos hds] at gd
   have hw:wi σ H fun J H1=>∃ α1 F1,RH X.K Z α1 F1 H1 μ1∧Ext α F α1 F1∧Zu X.K α1 F1 J ds:=si Z α F H σ ρ μ _ R (by rw [hm];exact fun J α' F' H' R' e' w'=>⟨α',F',R',e',w'⟩)
   refine thn (pi pins s σ H _ I hw) fun v s1 h1=>thn h1 fun itv s2 h2=>?_
   obtain ⟨it,fp,tn,J,H2,rfl,I2,Tn,t0,f2,α1,F1,R1,e1,wk⟩:=h2
   refine cb (G:=fun r=>GE X.K NoX Z α F Q (r.bind fun xs μ2=>.ok (.lst xs) μ2)∨GE X.K EX Z α F Q (r.bind fun xs μ2=>.ok (.lst xs) μ2)) cs cp hcalm hb I2 Tn t0 f2 (R.to R1 e1) wk hds (.inr gd) (fun z=>z.elim id id) fun D' C H' s' α' F' xs μ' mm I' fC hn R' e' rp gg=>?_
   refine ⟨mm,hn,fun h' hs'=>⟨.ref D',H',a36 I' fC hs',rfl,?_⟩⟩
   rcases gg with gg | gg
   ·exact gg _ α' F' H' R' (e1.trans e') rp
   ·exact gg _ α' F' H' R' (e1.trans e') rp
  ·rw [if_neg hds] at gd;exact gd.elim
end
end M
set_option Elab.async false
set_option linter.all false
set_option maxRecDepth 100000
set_option maxHeartbeats 4000000
namespace M
open PySem PySem.Spec PyProof.Rows L2
section
variable {prog:Program} {w:World} {A:Around}
variable {E:Value→Shared→Prop} {s:Shared} {z tI tO i1 i2:Addr} {f1 f2:List Addr} {n1 n2 k:Nat} {P1 P2:Nat→Value→Prop} {S1 S2:Nat→Heap→Prop} {p q:Value}
end
section
variable {X:Cx} {pins:List (Addr×Obj)} {σ:L2.St} {H:Hp} {s:Shared} {h':Heap} {fp:List Addr}
end
end M
set_option Elab.async false
set_option linter.all false
set_option maxRecDepth 100000
set_option maxHeartbeats 4000000
namespace M
open PySem PySem.Spec PyProof.Rows L2
end M
set_option Elab.async false
set_option linter.all false
set_option maxRecDepth 100000
set_option maxHeartbeats 4000000
namespace M
open PySem PySem.Spec PyProof.Rows L2
section
variable {X:Cx} {EX:EXT} {a b:Expr} {pos p tpos:Pos} {ma mb:MX} {elts:List Expr} {x1:Nat}
end
end M
set_option Elab.async false
set_option linter.all false
set_option maxRecDepth 100000
set_option maxHeartbeats 4000000
namespace M
open PySem PySem.Spec PyProof.Rows L2
section
variable {X:Cx} {EX:EXT} {e a b c:Expr} {pos:Pos} {m ma mb mc:MX} {es:List Expr}
noncomputable abbrev MOp:=En→Mu→Res (Option Int)
noncomputable def vt (m:MX):MOp:=fun ρ μ=>(m ρ μ).bind fun d μ1=>match d with
 | .int i=>.ok (some i) μ1
 | _=>.bad
noncomputable def GO (K:PySem.W.Frag) (EX:EXT) (Z:ZS) (α:List Addr) (F:Hp) (Q:Option Int→Hp→Prop):Res (Option Int)→Prop
 | .ok o μ=>∀ α' F' H',RH K Z α' F' H' μ→Ext α F α' F'→Q o H'
 | .exc x μ=>EX.P Z x μ
 | .bad=>False
theorem GO.step {K:PySem.W.Frag} {Z:ZS} {α:List Addr} {F:Hp} {r:Res (Option Int)} {β:Type} {f:Option Int→Mu→Res β} {G:Res β→Prop} {Q:Option Int→Hp→Prop} (h:G (r.bind f)) (hx:∀ x μ,G (.exc x μ)→EX.P Z x μ) (hb:¬ G .bad)
  (hk:∀ d μ' α' F' H',RH K Z α' F' H' μ'→Ext α F α' F'→G (f d μ')→Q d H'):GO K EX Z α F Q r:=by
 cases r with
 | ok d μ=>exact fun α' F' H' R e=>hk d μ α' F' H' R e h
 | exc x μ=>exact hx _ _ h
 | bad=>exact hb h
noncomputable def MPt (X:Cx) (EX:EXT) (o:Option Expr) (mo:MOp):Prop:=∃ t:TO,PO X o t∧∀ Z α F H σ ρ μ Q,RS X.K Z α F H σ ρ μ→GO X.K EX Z α F Q (mo ρ μ)→t σ H Q
theorem Es (h:ME X EX e m):MPt X EX (some e) (vt m):=by
 obtain ⟨t,p,s⟩:=h
 refine ⟨_,Ag p,fun Z α F H σ ρ μ Q R g=>?_⟩
 refine s Z α F H σ ρ μ _ R (GE.step (G:=GO X.K EX Z α F Q) g (fun _ _ h=>h) (fun h=>h) fun d μ1 v α1 F1 H1 R1 e1 p1 g1=>?_)
 cases d with
 | int i=>unfold Rep at p1;exact ⟨i,p1,g1 α1 F1 H1 R1 e1⟩
 | _=>exact g1.elim
noncomputable def cutD (xs:List D) (lo hi:Option Int):List D:=(xs.drop (HT.sIx xs.length 0 lo)).take (HT.sIx xs.length xs.length hi - HT.sIx xs.length 0 lo)
noncomputable def gSl (d:D) (lo hi:Option Int):Option D:=match d with
 | .tup xs=>if HT.sIx xs.length 0 lo=0∧HT.sIx xs.length xs.length hi=xs.length then none else some (.tup (cutD xs lo hi))
 | .lst xs=>some (.lst (cutD xs lo hi))
 | _=>none
noncomputable def mSl (m:MX) (lo hi:MOp):MX:=fun ρ μ=>(m ρ μ).bind fun d μ1=>(lo ρ μ1).bind fun l μ2=>(hi ρ μ2).bind fun h μ3=>ofO μ3 (gSl (j9 μ3 d) l h)
theorem Kc {K:PySem.W.Frag} {F:Hp} {α:List Addr} {ds:List D} {vs:List V} {lo hi:Option Int} (h:Reps K F α ds vs):Reps K F α (cutD ds lo hi) (Gs vs lo hi):=by
 unfold cutD Gs
 rw [h.length]
 exact Reps.take _ (Reps.drop _ h)
theorem Bn {lo hi:Option Expr} {l h:MOp} {p2:Pos} (ha:ME X EX a ma) (hl:MPt X EX lo l) (hh:MPt X EX hi h):ME X EX (.Subscript a (.Slice lo hi none p2) pos) (mSl ma l h):=by
 obtain ⟨ta,pa,sa⟩:=ha
 obtain ⟨tl,pl,sl⟩:=hl
 obtain ⟨th,ph,sh⟩:=hh
 refine ⟨_,bh (SlR.or ab2 A9) pa pl ph,fun Z α F H σ ρ μ Q R g=>?_⟩
 refine sa Z α F H σ ρ μ _ R (GE.step (G:=GE X.K EX Z α F Q) g (fun _ _ h=>h) (fun h=>h) fun d μ1 v α1 F1 H1 R1 e1 p1 g1=>?_)
 refine sl Z α1 F1 H1 σ ρ μ1 _ (R.to R1 e1) (GO.step (G:=GE X.K EX Z α F Q) g1 (fun _ _ h=>h) (fun h=>h) fun l μ2 α2 F2 H2 R2 e2 g2=>?_)
 refine sh Z α2 F2 H2 σ ρ μ2 _ (R.to R2 (e1.trans e2)) (GO.step (G:=GE X.K EX Z α F Q) g2 (fun _ _ h=>h) (fun h=>h) fun h μ3 α3 F3 H3 R3 e3 g3=>?_)
 have p3:=R3.pk ((p1.mono e2).mono e3)
 cases hd:j9 μ3 d with
 | tup xs =>
  rw [hd] at p3 g3
  unfold Pk Rep at p3
  obtain ⟨q,vs,rfl,hs,hr⟩:=p3
  simp only [gSl] at g3
  split at g3
  ·exact g3.elim
  ·rename_i hw
   refine .inl ⟨q,vs,rfl,J4.tup R3.sub hs,by rw [← hr.length];exact hw,fun p hp=>?_⟩
   obtain ⟨a1,a2,a3⟩:=Vg R3 (Kc (lo:=l) (hi:=h) hr) hp
   exact g3 _ _ _ _ a1 (e1.trans (e2.trans (e3.trans ⟨a2,fun _ _ h=>h⟩))) a3
 | lst xs =>
  rw [hd] at p3 g3
  obtain ⟨q,vs,rfl,hs,hr⟩:=p3
  refine .inr ⟨q,vs,rfl,hs,fun p hp=>?_⟩
  obtain ⟨a1,a2,a3⟩:=xk R3 (Kc (lo:=l) (hi:=h) hr) hp
  exact g3 _ _ _ _ a1 (e1.trans (e2.trans (e3.trans ⟨a2,fun _ _ h=>h⟩))) a3
 | _=>rw [hd] at g3;exact g3.elim
end
end M
set_option Elab.async false
set_option linter.all false
set_option maxRecDepth 100000
set_option maxHeartbeats 4000000
namespace M
open PySem PySem.Spec PyProof.Rows L2
section
variable {X:Cx} {EX:EXT} {e a b c f:Expr} {pos:Pos} {m ma mb mc:MX} {es:List Expr}
theorem a30 {K:PySem.W.Frag} {α:List Addr} {F:Hp} {d:D} {v:V} {k:DK} (h:Rep K F α d v) (e:wu d=some k):v=kV (dk k):=by
 cases d with
 | int i=>cases e;unfold Rep at h;exact h
 | str x=>cases e;unfold Rep at h;exact h
 | _=>cases e
noncomputable def Fj (w:World) (K:PySem.W.Frag) (mg:Str→Option Value) (x:Str) (ks:List DK) (ds:List D):Prop :=
 ∃ p us vs,mg x=some (.ref p)∧(p == sysModules)=false∧(∀ (P:Program) (h:Heap),K.In h→h.DictOf (Jr P w) p us)∧KV ((ks.map dk).zip vs) us∧ks.length=ds.length∧∀ F α,Reps K F α ds vs
variable {x:Str} {ks:List DK} {ds:List D}
theorem Bj {p:Pos} (c:Fj X.w X.K X.mg x ks ds) (hg:Gl X x) (hb:ME X EX b mb) (hs:a57 b) (hd:(x == ("__debug__":Str))=false:=by decide):ME X EX (.Subscript (.Name x p) b pos) (mBin Ux (mC (.dic ks ds)) mb):=by
 obtain ⟨q,us,vs,h1,h2,h3,h4,h5,h6⟩:=c
 obtain ⟨tb,pb,sb⟩:=hb
 refine ⟨fun σ H Q=>tb σ H fun y H1=>∃ k v,y=kV k∧Y9 ((ks.map dk).zip vs) k=some v∧Q v H1,fun pins s σ H Q I h=>?_,fun Z α F H σ ρ μ Q R g=>?_⟩
 ·refine Fa PySem.F.slot_dict_getitem.lookup hs (zq I hg h1 (thn (pb pins s σ H _ I h) fun iv s2 ⟨y,H2,I2,ry,k,v,ey,hv,q2⟩=>?_) hd)
  have dd:=h3 X.prog _ I2.kIn
  refine ⟨dd.typeIs,?_⟩
  subst ey
  obtain ⟨w',hw,rw'⟩:=Zt.some_of (v:=v) (o:=valueAt us k) (by rw [← hv];exact h4.val k)
  exact wpAny_getItem_of (Qe ry) dd.mapOf hw ⟨v,H2,I2.tok _,rw',q2⟩
 ·refine sb Z α F H σ ρ μ _ R (GE.step (G:=GE X.K EX Z α F Q) (show GE X.K EX Z α F Q ((mb ρ μ).bind fun d μ1=>ofO μ1 (Ux (j9 μ1 (.dic ks ds)) (j9 μ1 d))) from g) (fun _ _ h=>h) (fun h=>h) fun d μ1 v α1 F1 H1 R1 e1 p1 g1=>?_)
  simp only [deref_dic,Ux] at g1
  cases hk:wu (j9 μ1 d) with
  | none=>rw [hk] at g1;exact g1.elim
  | some kk =>
   rw [hk] at g1
   have hy:=Fz (R1.pk p1) hk
   rcases qw (k:=kk) (h6 F1 α1) h5 with ⟨d',v',l1,l2,l3⟩ | ⟨l1,l2⟩
   ·have g1:GE X.K EX Z α F Q (ofO μ1 (jc ks ds kk)):=g1
    rw [l1] at g1
    exact ⟨_,v',hy,l2,g1 v' α1 F1 H1 R1 e1 l3⟩
   ·have g1:GE X.K EX Z α F Q (ofO μ1 (jc ks ds kk)):=g1
    rw [l1] at g1
    exact g1.elim
structure Cb (X:Cx) (N G:List Str):Prop where
 hN:X.N=N
 nd:N.Nodup
 vis:∀ x∈N,Vis X.env.scope x∧(x == ("__debug__":Str))=false∧(x == ("__classdict__":Str))=false
 gl:∀ x∈G,Gl X x
 calm:X.calm=true
 un:X.A.units + 200 < cLine
 kn:X.kn=none
end
section
variable {X:Cx} {EX:EXT} {N G:List Str}
theorem Cb.at (C:Cb X N G) {i:Nat} {x:Str} (h:N[i]? =some x):X.N[i]? =some x:=by rw [C.hN];exact h
theorem Cb.ndX (C:Cb X N G):X.nd:=⟨by rw [C.hN];exact C.nd,C.kn⟩
theorem Cb.g (C:Cb X N G) (j:Nat) {x:Str} (h:G[j]? =some x):Gl X x:=C.gl x (uu h)
theorem svb (C:Cb X N G) (i:Nat) {x:Str} {pos:Pos} (h:N[i]? =some x):ME X EX (.Name x pos) (mVar i) :=
 ff (C.at h) (C.vis x (uu h)).1 (C.vis x (uu h)).2.1 (C.vis x (uu h)).2.2
theorem stb (C:Cb X N G) (i:Nat) {x:Str} {pos:Pos} (h:N[i]? =some x) (hl:X.env.scope.names.lookup x=some .local):MTg X (.Name x pos) (gN i):=Eu C.ndX (C.at h) (.inl hl) (.inr hl)
theorem Z6 {env:Env} {scope:Scope} {x:Str} {k:NameKind} (hk:k≠.free) (h:scope.names.lookup x=some k):(relabel scope env).names.lookup x=some k:=by
 unfold relabel
 generalize scope.names=l at h
 simp only
 induction l with
 | nil=>cases h
 | cons p r ih =>
  obtain ⟨n,q⟩:=p
  rw [List.lookup_cons] at h
  simp only [List.map_cons]
  by_cases e:(x == n)=true
  ·rw [e] at h
   cases h
   rw [if_neg (by simp [hk]),List.lookup_cons,e]
  ·have e':(x == n)=false:=by simpa using e
   rw [e'] at h
   have:=ih h
   split
   ·rw [List.lookup_cons,e'];exact this
   ·rw [List.lookup_cons,e'];exact this
noncomputable def Cz (sc:Scope) (T caps G:List Str):Bool:=T.all (fun x=>sc.names.lookup x == some .local && !(x == ("__debug__":Str)) && !(x == ("__classdict__":Str))) && caps.all (fun x=>sc.names.lookup x == some .free && !(x == ("__debug__":Str)) && !(x == ("__classdict__":Str))) && G.all fun x=>sc.names.lookup x == some .globalImplicit
noncomputable def dg (sc out:Scope):Bool:=sc.kind == .function && sc.names.all fun y=>(match y.2 with
 | .cell=>false
 | .local=>sc.names.lookup y.1 == some .local
 | .free=>out.names.lookup y.1 == some .cell || out.names.lookup y.1 == some .free
 | _=>true)
theorem qi {scope:Scope} {env:Env} (h:dg scope env.scope=true):CompScope scope env:=by
 unfold dg at h
 rw [Bool.and_eq_true] at h
 have hk:=h.1
 have ha:=List.all_eq_true.mp h.2
 refine ⟨by simpa using hk,fun y hy e=>?_,fun y hy e=>?_,fun y hy e=>?_⟩
 ·have:=ha y hy;rw [e] at this;cases this
 ·have:=ha y hy;rw [e] at this;simpa using this
 ·have:=ha y hy
  rw [e] at this
  simpa [Env.kindOf] using this
noncomputable def a86 (sc:Scope) (N caps:List Str) (ix:List Nat):Bool:=ix.length == caps.length && (caps.zip ix).all fun p=>N[p.2]? == some p.1 && sc.names.lookup p.1 == some .free
theorem dc {scope:Scope} {T caps:List Str} {ix:List Nat} (hN:X.N=N) (h:a86 scope N caps ix=true):Caps X scope T caps ix:=by
 unfold a86 at h
 rw [Bool.and_eq_true] at h
 refine ⟨by simpa using h.1,fun j x i e1 e2=>?_⟩
 have hm:(x,i)∈caps.zip ix:=by
  refine List.mem_of_getElem? (i:=j) ?_
  rw [List.getElem?_zip_eq_some]
  exact ⟨e1,e2⟩
 have:=List.all_eq_true.mp h.2 (x,i) hm
 simp only [Bool.and_eq_true,beq_iff_eq] at this
 rw [hN]
 exact this
theorem a85 {scope:Scope} {T caps:List Str} {C:Addr} {s:Shared} {H:Hp} {ex:List Addr} (hc:X.calm=true) (hu:X.A.units + 200 < cLine) (nd:(T++caps).Nodup) (h:Cz scope T caps G=true):Cb (Ui X (T++caps) scope C s H ex) (T++caps) G:=by
 unfold Cz at h
 rw [Bool.and_eq_true,Bool.and_eq_true] at h
 refine ⟨rfl,nd,fun x hx=>?_,fun x hx=>?_,hc,hu,rfl⟩
 ·rcases List.mem_append.mp hx with hx | hx
  ·have:=List.all_eq_true.mp h.1.1 x hx
   simp only [Bool.and_eq_true,beq_iff_eq,Bool.not_eq_true'] at this
   exact ⟨.inl (Z6 (by decide) this.1.1),this.1.2,this.2⟩
  ·have:=List.all_eq_true.mp h.1.2 x hx
   simp only [Bool.and_eq_true,beq_iff_eq,Bool.not_eq_true'] at this
   exact ⟨.inr (Zc this.1.1),this.1.2,this.2⟩
 ·have:=List.all_eq_true.mp h.2 x hx
  exact Z6 (by decide) (by simpa using this)
theorem blk_loc {scope:Scope} {env:Env} {T caps:List Str} (h:Cz scope T caps G=true) {j:Nat} {x:Str} (e:T[j]? =some x):(relabel scope env).names.lookup x=some .local:=by
 unfold Cz at h
 rw [Bool.and_eq_true,Bool.and_eq_true] at h
 have:=List.all_eq_true.mp h.1.1 x (uu e)
 simp only [Bool.and_eq_true,beq_iff_eq,Bool.not_eq_true'] at this
 exact Z6 (by decide) this.1.1
end
end M
set_option Elab.async false
set_option linter.all false
set_option maxRecDepth 100000
set_option maxHeartbeats 4000000
namespace M
open PySem PySem.Spec PyProof.Rows L2
theorem yc {K:PySem.W.Frag} {p:Addr} {od:Option Addr} {its:Array Value} {n:Nat} {sl:Array (Option Value)} {ds:List D} {vs:List V} {F:Hp} {α:List Addr} (l:K.lookup p=some ⟨.type "tuple",od,.seq its n,sl⟩) (hz:its.size≤16777216) (hv:J7 vs its.toList) (hr:Reps K F α ds vs):Rep K F α (.tup ds) (.ref p):=by
 unfold Rep
 exact ⟨p,vs,rfl,.inr ⟨_,its,n,l,rfl,rfl,by rw [sizeLine_eq];exact hz,hv⟩,hr⟩
noncomputable def ai7 (pr:Params) (x:List Nat×Nat×Addr):DictEntry:=⟨PyData.keyHash pr ⟨x.1.toArray⟩,.str ⟨x.1.toArray⟩ x.2.1,.ref x.2.2⟩
theorem Bo {w:World} {xs:List (List Nat×Nat×Addr)} {e:DictEntry} (h:e∈xs.map (ai7 w.params)) (P:Program):∃ k,(Jr P w).is k e.key=true∧e.hash=(Jr P w).hash k:=by
 obtain ⟨x,_,rfl⟩:=List.mem_map.mp h
 exact ⟨.inr ⟨x.1.toArray⟩,Qe (P:=P) (w:=w) (k:=.inr ⟨x.1.toArray⟩) (u:=.str ⟨x.1.toArray⟩ x.2.1) ⟨x.2.1,rfl⟩,rfl⟩
theorem Xh {w:World} (P:Program):∀ xs:List (List Nat×Nat×Addr),Pairs (Jr P w) (xs.map (ai7 w.params)) (xs.map fun x=>((Sum.inr ⟨x.1.toArray⟩:Key),Value.ref x.2.2))
 | []=>.nil
 | x::xs=>.cons (Qe (P:=P) (w:=w) (k:=.inr ⟨x.1.toArray⟩) (u:=.str ⟨x.1.toArray⟩ x.2.1) ⟨x.2.1,rfl⟩) rfl (Xh P xs)
theorem Ej:∀ xs:List (List Nat×Nat×Addr),KV (((xs.map fun x=>(.inr x.1:DK)).map dk).zip (xs.map fun x=>V.ref x.2.2)) (xs.map fun x=>((Sum.inr ⟨x.1.toArray⟩:Key),Value.ref x.2.2))
 | []=>.nil
 | x::xs=>.cons ⟨rfl,rfl⟩ (Ej xs)
theorem Xc:∀ {xs:List (List Nat×Nat×Addr)},(xs.map (·.1)).Nodup→((xs.map fun x=>((Sum.inr ⟨x.1.toArray⟩:Key),Value.ref x.2.2)).map (·.1)).Nodup
 | [],_=>List.nodup_nil
 | x::xs,h=>by
  rw [List.map_cons,List.nodup_cons] at h
  rw [List.map_cons,List.map_cons,List.nodup_cons]
  refine ⟨fun z=>h.1 ?_,Xc h.2⟩
  rw [List.map_map] at z
  obtain ⟨y,hy,e⟩:=List.mem_map.mp z
  have e2:(⟨y.1.toArray⟩:Str)=⟨x.1.toArray⟩:=Sum.inr.inj e
  have e3:y.1.toArray=x.1.toArray:=by injection e2
  have e4:y.1=x.1:=by simpa using congrArg Array.toList e3
  exact List.mem_map.mpr ⟨y,hy,e4⟩
theorem a48 {w:World} {K:PySem.W.Frag} {mg:Str→Option Value} {h:Heap} {x:Str} {p:Addr} {ep:Nat} {ds:List D} (xs:List (List Nat×Nat×Addr)) (KX:K.In h) (G:h.Ns mainGlobals mg)
  (a:PySem.W.nsIn K mainGlobals x=some (some (.ref p))) (l:K.lookup p=some ⟨.type "dict",none,.dict (xs.map (ai7 w.params)).toArray ep,#[]⟩) (hp:(p == sysModules)=false) (nd:(xs.map (·.1)).Nodup)
  (hl:xs.length=ds.length) (hr:∀ F α,Reps K F α ds (xs.map fun x=>V.ref x.2.2)):Fj w K mg x (xs.map fun x=>.inr x.1) ds:=by
 refine ⟨p,_,_,PySem.W.mg_of KX G a,hp,fun P h' k'=>?_,Ej xs,by simpa using hl,hr⟩
 exact ⟨_,_,_,k' p _ l,⟨rfl,rfl,rfl⟩,rfl,fun e he=>Bo (by simpa using he) P,by simpa using Xh P xs,Xc nd⟩
end M
set_option Elab.async false
set_option linter.all false
set_option maxRecDepth 100000
set_option maxHeartbeats 4000000
namespace M
open PySem PySem.Spec PyProof.Rows L2
variable {ρ:En} {μ μ1 μ2:Mu} {m ma mb mc:MX} {ms:MAs} {t u:MB} {n a b r:MSt} {d x y z:D} {ds:List D} {k:Bool} {φ:Fn} {g:G2} {o:Out}
theorem v_var (i:Nat) (h:ρ[i]? =some (some d)):mVar i ρ μ=.ok d μ:=by unfold mVar;rw [h]
theorem v_bin (ha:ma ρ μ=.ok x μ1) (hb:mb ρ μ1=.ok y μ2) (hg:g (j9 μ2 x) (j9 μ2 y)=some z):mBin g ma mb ρ μ=.ok z μ2:=by unfold mBin;rw [ha,bind_ok,hb,bind_ok,hg];rfl
theorem v_nil:mNil ρ μ=.ok [] μ:=rfl
theorem v_cons (ha:m ρ μ=.ok d μ1) (hb:ms ρ μ1=.ok ds μ2):mCons m ms ρ μ=.ok (d::ds) μ2:=by rw [Zv,ha,bind_ok,zl,hb,bind_ok,zm]
theorem Wa (h:ms ρ μ=.ok ds μ1):jf ms ρ μ=.ok (.tup ds) μ1:=by unfold jf;rw [h];rfl
theorem Cp (h:ms ρ μ=.ok ds μ1):yt ms ρ μ=.ok (.lst ds) μ1:=by unfold yt;rw [h];rfl
theorem v_call (h:ms ρ μ=.ok ds μ1) (hf:φ ds μ1=.ok d μ2):jq φ ms ρ μ=.ok d μ2:=by unfold jq;rw [h,bind_ok,hf];rfl
theorem Ue {g:GL} (h:ms ρ μ=.ok ds μ1) (hf:g (ds.map (j9 μ1))=some d):J5 g ms ρ μ=.ok d μ1:=by unfold J5;rw [h,bind_ok,hf];rfl
theorem jm (h:m ρ μ=.ok (.bl k) μ1):j5 m ρ μ=.ok k μ1:=by unfold j5;rw [h];rfl
theorem a60 (h:m ρ μ=.ok d μ1) (ht:Xs (j9 μ1 d)=some k):Vh m ρ μ=.ok k μ1:=by unfold Vh;rw [h,bind_ok,ht];rfl
theorem Co (h:t ρ μ=.ok true μ1):w9 t u ρ μ=u ρ μ1:=by unfold w9;rw [h];rfl
theorem Yz (h:t ρ μ=.ok false μ1):w9 t u ρ μ=.ok false μ1:=by unfold w9;rw [h];rfl
theorem a61 (h:t ρ μ=.ok false μ1):mOr t u ρ μ=u ρ μ1:=by unfold mOr;rw [h];rfl
theorem V7 (h:ma ρ μ=.ok (.bl true) μ1):Z0 ma mb ρ μ=mb ρ μ1:=by unfold Z0;rw [h];rfl
theorem v_ifT (h:t ρ μ=.ok true μ1):mIf t ma mb ρ μ=ma ρ μ1:=by unfold mIf;rw [h];rfl
theorem v_ifF (h:t ρ μ=.ok false μ1):mIf t ma mb ρ μ=mb ρ μ1:=by unfold mIf;rw [h];rfl
theorem v_ret (h:m ρ μ=.ok d μ1):je m ρ μ=.ok (.rt d) μ1:=by unfold je;rw [h];rfl
theorem v_set (i:Nat) (h:m ρ μ=.ok d μ1):jz (Ju i m) r ρ μ=r (ρ.set i (some d)) μ1:=by unfold jz Ju;rw [h];rfl
theorem v_iteT (h:t ρ μ=.ok true μ1):jd t a b ρ μ=a ρ μ1:=by unfold jd;rw [h];rfl
theorem v_iteF (h:t ρ μ=.ok false μ1):jd t a b ρ μ=b ρ μ1:=by unfold jd;rw [h];rfl
theorem v_seqN {ρ1:En} (h:n ρ μ=.ok (.nx ρ1) μ1):jz n r ρ μ=r ρ1 μ1:=by unfold jz;rw [h];rfl
theorem Xu (h:n ρ μ=.ok (.rt d) μ1):jz n r ρ μ=.ok (.rt d) μ1:=by unfold jz;rw [h];rfl
theorem v_skip (h:t ρ μ=.ok false μ1):jz (jd t a jp) r ρ μ=r ρ μ1:=v_seqN (v_iteF h)
theorem v_take (h:t ρ μ=.ok true μ1) (hm:m ρ μ1=.ok d μ2):jz (jd t (je m) b) r ρ μ=.ok (.rt d) μ2:=Xu ((v_iteT h).trans (v_ret hm))
theorem Jy (j:Nat) (h:n (ds.map some++List.replicate j none) μ=.ok (.rt d) μ1):fnOf j n ds μ=.ok d μ1:=by rw [Zw,h];rfl
theorem a99 (i:Nat) {ρ1:En} (h:n (ρ.set i (some d)) μ=.ok (.nx ρ1) μ1):u4 (gN i) n (d::ds) ρ μ=u4 (gN i) n ds ρ1 μ1:=by rw [zn,h];rfl
theorem Xt {L:List D} {i:Int} {n:Nat} (h:ms ρ μ=.ok L μ) (hi:m ρ μ=.ok (.int i) μ) (hl:L.length=n) (h0:0 < n):∃ d∈L,mBin gIdx (yt ms) (mBin ux m (mC (.int n))) ρ μ=.ok d μ:=by
 have h1:mBin ux m (mC (.int n)) ρ μ=.ok (.int (i % n)) μ:=v_bin hi rfl (Uf i n (by omega))
 have hk:(i % n).toNat < L.length:=by
  have a1:=Int.emod_nonneg i (b:=(n:Int)) (by omega)
  have a2:=Int.emod_lt_of_pos i (b:=(n:Int)) (by omega)
  omega
 refine ⟨L[(i % n).toNat],List.getElem_mem hk,v_bin (Cp h) h1 ?_⟩
 show atI L (i % n)=_
 rw [X9 (Int.emod_nonneg _ (by omega)),List.getElem?_eq_getElem hk]
end M
set_option Elab.async false
set_option linter.all false
set_option maxRecDepth 100000
set_option maxHeartbeats 4000000
namespace M
open PySem PySem.Spec PyProof.Rows L2
theorem wj {β:Type} {l:List β} {x y:β} {k:Nat} (h:(l++[x])[k]? =some y):l[k]? =some y∨(k=l.length∧y=x):=by
 by_cases hk:k < l.length
 ·rw [List.getElem?_append_left hk] at h;exact .inl h
 ·rw [List.getElem?_append_right (by omega)] at h
  have:k - l.length=0:=by
   cases e:k - l.length with
   | zero=>rfl
   | succ n=>rw [e] at h;simp at h
  rw [this] at h
  simp at h
  exact .inr ⟨by omega,h.symm⟩
theorem u3 (α:List Addr) (F:Hp) (p:Addr):Ext α F (α++[p]) F:=⟨J4.refl F,fun k a h=>by
 have:k < α.length:=by
  by_cases hk:k < α.length
  ·exact hk
  ·rw [List.getElem?_eq_none (by omega)] at h;cases h
 rw [List.getElem?_append_left this];exact h⟩
section
variable {K:PySem.W.Frag} {Z:ZS} {F H:Hp} {α:List Addr} {μ:Mu} {p:Addr} {o o':HO} {c:Cell}
theorem Uh.mono {α':List Addr} {H':Hp} {a:Addr} (h:Uh K α F H a c) (e:Ext α F α' F) (hh:c≠.dead→H' a=H a):Uh K α' F H' a c:=by
 exact h.go e (fun _=>rfl) hh
theorem RH.unholdC (r:RH K (ZS.up Z p o) α F H μ) (hz:Z.z p=none) (hok:Uh K (α++[p]) F (upd H p o') p c):RH K Z (α++[p]) F (upd H p o') (μ++[c]):=by
 have fp:F p=none:=r.zf p o uo
 have nc:∀ (k:Nat) (a:Addr) (c:Cell),α[k]? =some a→μ[k]? =some c→c≠.dead→a≠p:=fun k a c ha hc hd z=>by
  have:=r.zc k a c ha hc hd
  rw [z,uo] at this
  cases this
 have hlen:=r.len
 have both:∀ (k:Nat) (a:Addr) (c':Cell),(α++[p])[k]? =some a→(μ++[c])[k]? =some c'→(α[k]? =some a∧μ[k]? =some c')∨(k=α.length∧a=p∧c'=c):=fun k a c' ha hc=>by
  rcases wj ha with h1 | ⟨h1,h2⟩
  ·rcases wj hc with h3 | ⟨h3,h4⟩
   ·exact .inl ⟨h1,h3⟩
   ·have:k < α.length:=(List.getElem?_eq_some_iff.mp h1).1
    omega
  ·rcases wj hc with h3 | ⟨h3,h4⟩
   ·have:k < μ.length:=(List.getElem?_eq_some_iff.mp h3).1
    omega
   ·exact .inr ⟨h1,h2,h4⟩
 refine ⟨fun b u e=>?_,by simp [hlen],fun k a c' ha hc=>?_,fun b u e=>?_,fun b u e=>?_,fun k a c' ha hc hd=>?_,fun j k a c1 c2 hj hk cj ck d1 d2=>?_,r.ext.trans (u3 α F p)⟩
 ·rw [jw (fun z=>by rw [z,fp] at e;cases e)];exact r.sub b u e
 ·rcases both k a c' ha hc with ⟨h1,h2⟩ | ⟨h1,h2,h3⟩
  ·exact (r.cell k a c' h1 h2).mono (u3 α F p) fun hd=>by rw [jw (nc k a c' h1 h2 hd)]
  ·rw [h2,h3];exact hok
 ·have hb:b≠p:=fun z=>by rw [z,hz] at e;cases e
  rw [jw hb]
  exact r.zs b u (by rw [Uq hb];exact e)
 ·have hb:b≠p:=fun z=>by rw [z,hz] at e;cases e
  exact r.zf b u (by rw [Uq hb];exact e)
 ·rcases both k a c' ha hc with ⟨h1,h2⟩ | ⟨h1,h2,h3⟩
  ·have:=r.zc k a c' h1 h2 hd
   rw [Uq (nc k a c' h1 h2 hd)] at this
   exact this
  ·rw [h2];exact hz
 ·rcases both j a c1 hj cj with ⟨h1,h2⟩ | ⟨h1,h2,h3⟩
  ·rcases both k a c2 hk ck with ⟨g1,g2⟩ | ⟨g1,g2,g3⟩
   ·exact r.dis j k a c1 c2 h1 g1 h2 g2 d1 d2
   ·exact absurd g2 (nc j a c1 h1 h2 d1)
  ·rcases both k a c2 hk ck with ⟨g1,g2⟩ | ⟨g1,g2,g3⟩
   ·exact absurd h2 (nc k a c2 g1 g2 d2)
   ·omega
theorem V8 (H:Hp) (p:Addr) (o o':HO):upd (upd H p o) p o'=upd H p o':=by
 funext b
 by_cases hb:b=p
 ·subst hb;rw [jt,jt]
 ·rw [jw hb,jw hb,jw hb]
theorem RH.newCell (r:RH K Z α F H μ) (hp:H p=none) (hok:Uh K (α++[p]) F (upd H p o') p c):RH K Z (α++[p]) F (upd H p o') (μ++[c]):=by
 have hz:Z.z p=none:=by
  cases e:Z.z p with
  | none=>rfl
  | some u=>rw [r.zs _ _ e] at hp;cases hp
 have:=RH.unholdC (o:=o') (o':=o') (r.hold o' hp) hz (by rw [V8];exact hok)
 rw [V8] at this
 exact this
theorem d0 (r:RH K Z α F H μ) (hp:H p=none):F p=none:=by
 cases e:F p with
 | none=>rfl
 | some u=>rw [r.sub _ _ e] at hp;cases hp
theorem a16 {ds:List D} {vs:List V} (r:RH K Z α F H μ) (hr:Reps K F α ds vs) (hp:H p=none) :
  RH K Z (α++[p]) F (upd H p (.lst vs)) (μ++[.lst ds])∧Ext α F (α++[p]) F∧Rep K F (α++[p]) (.ref μ.length) (.ref p):=by
 refine ⟨r.newCell hp ⟨d0 r hp,vs,jt,hr.mono (u3 α F p)⟩,u3 α F p,?_⟩
 unfold Rep
 exact ⟨p,by rw [← r.len,List.getElem?_append_right (Nat.le_refl _)];simp,rfl⟩
theorem RH.setCell {k:Nat} {a:Addr} {c0:Cell} (r:RH K Z α F H μ) (ha:α[k]? =some a) (hc:μ[k]? =some c0) (hd:c0≠.dead) (hok:Uh K α F (upd H a o) a c):RH K Z α F (upd H a o) (μ.set k c):=by
 have hF:F a=none:=by
  exact ((r.cell k a c0 ha hc).live hd).1
 have hZ:Z.z a=none:=r.zc k a c0 ha hc hd
 have hk:k < μ.length:=(List.getElem?_eq_some_iff.mp hc).1
 have at':∀ (j:Nat) (c':Cell),(μ.set k c)[j]? =some c'→(j=k∧c'=c)∨(j≠k∧μ[j]? =some c'):=fun j c' h=>by
  by_cases e:j=k
  ·subst e;rw [List.getElem?_set_self hk] at h;exact .inl ⟨rfl,(Option.some.inj h).symm⟩
  ·rw [List.getElem?_set_ne (Ne.symm e)] at h;exact .inr ⟨e,h⟩
 refine ⟨fun b u e=>?_,by simp [r.len],fun j b c' hj hc'=>?_,fun b u e=>?_,r.zf,fun j b c' hj hc' d'=>?_,fun i j b c1 c2 hi hj ci cj d1 d2=>?_,r.ext⟩
 ·rw [jw (fun z=>by rw [z,hF] at e;cases e)];exact r.sub b u e
 ·rcases at' j c' hc' with ⟨e1,e2⟩ | ⟨e1,e2⟩
  ·subst e1;rw [ha] at hj;cases hj;rw [e2];exact hok
  ·refine (r.cell j b c' hj e2).mono (Ext.refl _ _) fun d'=>?_
   rw [jw (fun z=>e1 (r.dis j k a c' c0 (by rw [← z];exact hj) ha e2 hc d' hd))]
 ·rw [jw (fun z=>by rw [z,hZ] at e;cases e)];exact r.zs b u e
 ·rcases at' j c' hc' with ⟨e1,e2⟩ | ⟨e1,e2⟩
  ·subst e1;rw [ha] at hj;cases hj;exact hZ
  ·exact r.zc j b c' hj e2 d'
 ·rcases at' i c1 ci with ⟨e1,e2⟩ | ⟨e1,e2⟩
  ·rcases at' j c2 cj with ⟨g1,g2⟩ | ⟨g1,g2⟩
   ·omega
   ·subst e1
    exact r.dis i j b c0 c2 hi hj hc g2 hd d2
  ·rcases at' j c2 cj with ⟨g1,g2⟩ | ⟨g1,g2⟩
   ·subst g1
    exact r.dis i j b c1 c0 hi hj e2 hc d1 hd
   ·exact r.dis i j b c1 c2 hi hj e2 g2 d1 d2
end
noncomputable def vp (ms:MAs):MX:=fun ρ μ=>(ms ρ μ).bind fun ds μ1=>.ok (.ref μ1.length) (μ1++[.lst ds])
section
variable {X:Cx} {EX:EXT} {e a b c:Expr} {pos:Pos} {m ma mb mc:MX} {es:List Expr} {ms:MAs}
theorem Er (h:MA X EX es ms) (hl:es.length≤16777216:=by decide):ME X EX (.List es pos) (vp ms):=by
 obtain ⟨t,p,s,l⟩:=h
 refine ⟨_,bf p,fun Z α F H σ ρ μ Q R g=>?_⟩
 refine s Z α F H σ ρ μ _ R (GA.stepE (G:=GE X.K EX Z α F Q) g (fun _ _ h=>h) (fun h=>h) fun ds μ1 vs α1 F1 H1 hm R1 e1 p1 g1=>?_)
 refine ⟨by rw [← p1.length,sizeLine_eq,l _ _ _ _ hm];exact hl,fun q hq=>?_⟩
 obtain ⟨a1,a2,a3⟩:=a16 R1 p1 hq
 exact g1 _ _ _ _ a1 (e1.trans a2) a3
end
end M
set_option Elab.async false
set_option linter.all false
set_option maxRecDepth 100000
set_option maxHeartbeats 4000000
namespace M
open PySem PySem.Spec PyProof.Rows L2
noncomputable def Qd:D→Bool
 | .lst _=>true
 | _=>false
noncomputable def aa (d y:D) (μ:Mu):Res D:=match d with
 | .ref k=>match μ[k]? with
  | some (.lst ds)=>if ds.length < 16777216 then .ok .non (μ.set k (.lst (ds++[y]))) else .bad
  | _=>.bad
 | _=>.bad
noncomputable def Us (mo m:MX):MX:=fun ρ μ=>(mo ρ μ).bind fun d μ1=>if Qd (j9 μ1 d)=true then (m ρ μ1).bind fun y μ2=>aa d y μ2 else .bad
noncomputable def putVs (ks:List DK) (vs:List D) (q:DK) (v:D):List D:=List.zipWith (fun k w=>if k=q then v else w) ks vs
noncomputable def ft (ρ:En) (d i v:D) (μ:Mu):Res Out:=match d with
 | .ref k=>match μ[k]?,wu i with
  | some (.dic ks vs),some q=>if ks.length < 16777216 then (if (ks.any fun k=>decide (k=q))=true then .ok (.nx ρ) (μ.set k (.dic ks (putVs ks vs q v))) else .ok (.nx ρ) (μ.set k (.dic (ks++[q]) (vs++[v])))) else .bad
  | _,_=>.bad
 | _=>.bad
noncomputable def Da (mo mi mv:MX):MSt:=fun ρ μ=>(mv ρ μ).bind fun v μ1=>(mo ρ μ1).bind fun d μ2=>(mi ρ μ2).bind fun i μ3=>ft ρ d i v μ3
section
variable {X:Cx} {EX:EXT} {e a b c o i:Expr} {pos pos':Pos} {m ma mb mc mo mi mv:MX} {es:List Expr} {ms:MAs}
theorem F7 {K:PySem.W.Frag} {Z:ZS} {F H:Hp} {α:List Addr} {μ:Mu} {k:Nat} {v:V} {ds:List D} (R:RH K Z α F H μ) (p:Rep K F α (.ref k) v) (h:μ[k]? =some (.lst ds)):∃ a vs,v=.ref a∧α[k]? =some a∧H a=some (.lst vs)∧Reps K F α ds vs∧F a=none:=by
 unfold Rep at p
 obtain ⟨a,ha,hv⟩:=p
 obtain ⟨h1,vs,h2,h3⟩:=R.cell k a _ ha h
 exact ⟨a,vs,hv,ha,h2,h3,h1⟩
theorem ai9 {K:PySem.W.Frag} {Z:ZS} {F H:Hp} {α:List Addr} {μ:Mu} {k:Nat} {v:V} {ks:List DK} {ds:List D} (R:RH K Z α F H μ) (p:Rep K F α (.ref k) v) (h:μ[k]? =some (.dic ks ds)):∃ a vs,v=.ref a∧α[k]? =some a∧H a=some (.dK ((ks.map dk).zip vs))∧ks.length=ds.length∧Reps K F α ds vs∧F a=none:=by
 unfold Rep at p
 obtain ⟨a,ha,hv⟩:=p
 obtain ⟨h1,vs,h2,hl,h3⟩:=R.cell k a _ ha h
 exact ⟨a,vs,hv,ha,h2,hl,h3,h1⟩
theorem Y2 {apos cpos:Pos} (ho:ME X EX o mo) (ha:MA X EX [a] ms) (hm:∀ ρ μ,ms ρ μ=(m ρ μ).bind fun d μ1=>.ok [d] μ1)
  (hbase:attributeBase o "append" X.env (eval o X.env)=eval o X.env:=by rfl)
  (hfew:((backTo cpos (starEach [a] X.env)).all (fun x=> !x.1) && (backToKw cpos (keywordEach [] X.env)).all (fun x=>x.1.isSome)
   && decide ([a].length + ([]:List Keyword).length + (if ([]:List Keyword).isEmpty then 0 else 1) < 30))=true:=by rfl)
  (hline:(apos.endLine == cpos.line)=true:=by rfl) (hs:starEach [a] X.env=(false,eval a X.env)::starEach [] X.env:=by rfl) (hplain:(backTo cpos (starEach [] X.env)).any (·.1)=false:=by rfl) :
  ME X EX (.Call (.Attribute o "append" apos) [a] [] cpos) (Us mo m):=by
 obtain ⟨to,po,so⟩:=ho
 obtain ⟨ta,pa,sa,_⟩:=ha
 refine ⟨_,a66 PySem.F.plainAttrs_list PySem.F.slot_list_append PySem.F.type_list_append vx po pa hbase hfew hline hs hplain,fun Z α F H σ ρ μ Q R g=>?_⟩
 refine so Z α F H σ ρ μ _ R (GE.step (G:=GE X.K EX Z α F Q) g (fun _ _ h=>h) (fun h=>h) fun d μ1 v α1 F1 H1 R1 e1 p1 g1=>?_)
 by_cases hd:Qd (j9 μ1 d)=true
 ·rw [if_pos hd] at g1
  refine ⟨?_,?_⟩
  ·have k1:=R1.pk p1
   cases hq:j9 μ1 d with
   | lst xs =>
    rw [hq] at k1
    obtain ⟨q,us,rfl,hsq,hr⟩:=k1
    exact .inl ⟨rfl,us,hsq⟩
   | _=>rw [hq] at hd;cases hd
  ·refine sa Z α1 F1 H1 σ ρ μ1 _ (R.to R1 e1) ?_
   rw [hm]
   cases hy:m ρ μ1 with
   | exc x μ2=>rw [hy] at g1;exact g1
   | bad=>rw [hy] at g1;exact g1
   | ok y μ2 =>
    rw [hy] at g1
    intro vs α2 F2 H2 R2 e2 p2
    unfold Reps at p2
    obtain ⟨vy,r,rfl,p2,hr⟩:=p2
    have hr:r=[]:=hr
    subst hr
    have p1':=p1.mono e2
    have g1:GE X.K EX Z α F Q (aa d y μ2):=g1
    unfold aa at g1
    cases d with
    | ref k =>
     simp only at g1
     cases hc:μ2[k]? with
     | none=>rw [hc] at g1;exact g1.elim
     | some cc =>
      rw [hc] at g1
      cases cc with
      | lst ds =>
       simp only at g1
       split at g1
       ·rename_i hl
        obtain ⟨q,us,rfl,hα,hH,hr,hF⟩:=F7 R2 p1' hc
        refine ⟨q,us,vy,rfl,rfl,hH,by rw [← hr.length,sizeLine_eq];exact hl,?_⟩
        exact g1 .non α2 F2 _ (R2.setCell hα hc (by simp) ⟨hF,_,jt,hr.append (j6 p2 jo)⟩) (e1.trans e2) Zd
       ·exact g1.elim
      | _=>exact g1.elim
    | _=>exact g1.elim
 ·rw [if_neg hd] at g1;exact g1.elim
theorem v7 {q:DK} {u:V}:∀ (ks:List DK) (us:List V),((ks.map dk).zip us).map (fun kv=>if kv.1=dk q then (kv.1,u) else kv)=(ks.map dk).zip (List.zipWith (fun k w=>if k=q then u else w) ks us)
 | [],us=>rfl
 | k::ks,[]=>rfl
 | k::ks,w::us=>by
  simp only [List.map_cons,List.zip_cons_cons,List.zipWith_cons_cons]
  rw [v7 ks us]
  congr 1
  by_cases e:k=q
  ·subst e;simp
  ·have e2:¬ dk k=dk q:=fun z=>e (K6 z)
   simp [e,e2]
theorem D6 {q:DK}:∀ (ks:List DK) (us:List V),ks.length=us.length→(((ks.map dk).zip us).any fun kv=>decide (kv.1=dk q))=(ks.any fun k=>decide (k=q))
 | [],[],_=>rfl
 | [],_::_,h=>by simp at h
 | k::ks,[],h=>by simp at h
 | k::ks,w::us,h=>by
  simp only [List.map_cons,List.zip_cons_cons,List.any_cons]
  rw [D6 ks us (by simpa using h)]
  congr 1
  by_cases e:k=q
  ·subst e;simp
  ·have e2:¬ dk k=dk q:=fun z=>e (K6 z)
   simp [e,e2]
theorem Kd {K:PySem.W.Frag} {F:Hp} {α:List Addr} {q:DK} {v:D} {u:V} (hv:Rep K F α v u):∀ (ks:List DK) (ds:List D) (us:List V),ks.length=ds.length→Reps K F α ds us→Reps K F α (putVs ks ds q v) (List.zipWith (fun k w=>if k=q then u else w) ks us)
 | [],[],us,_,h=>by have:=h.length;cases us with
   | nil=>exact jo
   | cons _ _=>simp at this
 | [],_::_,_,h,_=>by simp at h
 | k::ks,[],_,h,_=>by simp at h
 | k::ks,d::ds,us,hl,h=>by
  unfold Reps at h
  obtain ⟨w,r,rfl,h1,h2⟩:=h
  have ih:=Kd (q:=q) hv ks ds r (by simpa using hl) h2
  unfold putVs at ih ⊢
  simp only [List.zipWith_cons_cons]
  refine j6 ?_ ih
  by_cases e:k=q
  ·rw [if_pos e,if_pos e];exact hv
  ·rw [if_neg e,if_neg e];exact h1
theorem fh (hu:X.A.units + 200 < cLine) (ho:ME X EX o mo) (hi:ME X EX i mi) (hv:ME X EX e mv) (hs:swapsWith e (some (.Subscript o i pos')) pos.line X.env=pure false:=by rfl):MS X EX (.Assign [.Subscript o i pos'] e pos) (Da mo mi mv):=by
 obtain ⟨to,po,so⟩:=ho
 obtain ⟨ti,pi,si⟩:=hi
 obtain ⟨tv,pv,sv⟩:=hv
 refine ⟨_,Ai (by omega) po pi pv hs,fun Z α F H σ ρ μ N R g=>?_⟩
 refine sv Z α F H σ ρ μ _ R (GE.step (G:=GS X.K EX Z α F N) g (fun _ _ h=>h) (fun h=>h) fun v μ1 vv α1 F1 H1 R1 e1 p1 g1=>?_)
 refine so Z α1 F1 H1 σ ρ μ1 _ (R.to R1 e1) (GE.step (G:=GS X.K EX Z α F N) g1 (fun _ _ h=>h) (fun h=>h) fun d μ2 vd α2 F2 H2 R2 e2 p2 g2=>?_)
 refine si Z α2 F2 H2 σ ρ μ2 _ (R.to R2 (e1.trans e2)) (GE.step (G:=GS X.K EX Z α F N) g2 (fun _ _ h=>h) (fun h=>h) fun j μ3 vj α3 F3 H3 R3 e3 p3 g3=>?_)
 have p1':=(p1.mono e2).mono e3
 have p2':=p2.mono e3
 have ee:=e1.trans (e2.trans e3)
 unfold ft at g3
 cases d with
 | ref k =>
  simp only at g3
  cases hc:μ3[k]? with
  | none=>rw [hc] at g3;exact g3.elim
  | some cc =>
   rw [hc] at g3
   cases cc with
   | dic ks ds =>
    cases hk:wu j with
    | none=>rw [hk] at g3;exact g3.elim
    | some q =>
     rw [hk] at g3
     simp only at g3
     split at g3
     ·rename_i hl
      obtain ⟨a,us,rfl,hα,hH,hlen,hr,hF⟩:=ai9 R3 p2' hc
      have hul:ks.length=us.length:=hlen.trans hr.length
      have hy:=a30 p3 hk
      have hsz:((ks.map dk).zip us).length < sizeLine:=by rw [List.length_zip,List.length_map,← hul,Nat.min_self,sizeLine_eq];exact hl
      refine ⟨a,_,rfl,by rw [hy];exact A1.k hH hsz,?_⟩
      unfold Yy
      rw [D6 ks us hul]
      by_cases hq:(ks.any fun k=>decide (k=q))=true
      ·rw [if_pos hq] at g3 ⊢
       rw [v7]
       have R4:=R3.setCell (o:=.dK ((ks.map dk).zip (List.zipWith (fun k w=>if k=q then vv else w) ks us))) (c:=.dic ks (putVs ks ds q v)) hα hc (by simp) ⟨hF,_,jt,by unfold putVs;rw [List.length_zipWith,hlen,Nat.min_self],Kd p1' ks ds us hlen hr⟩
       exact g3 σ α3 F3 _ (R.to R4 ee) ee
      ·rw [if_neg hq] at g3 ⊢
       have ez:(ks.map dk).zip us++[(dk q,vv)]=((ks++[q]).map dk).zip (us++[vv]):=by
        rw [List.map_append,List.zip_append (by simpa using hul)]
        rfl
       rw [ez]
       have R4:=R3.setCell (o:=.dK (((ks++[q]).map dk).zip (us++[vv]))) (c:=.dic (ks++[q]) (ds++[v])) hα hc (by simp) ⟨hF,_,jt,by simp [hlen],hr.append (j6 p1' jo)⟩
       exact g3 σ α3 F3 _ (R.to R4 ee) ee
     ·exact g3.elim
   | _=>cases hk:wu j <;> rw [hk] at g3 <;> exact g3.elim
 | _=>exact g3.elim
end
end M
set_option Elab.async false
set_option linter.all false
set_option maxRecDepth 100000
set_option maxHeartbeats 4000000
namespace M
open PySem PySem.Spec PyProof.Rows L2
section
variable {X:Cx} {EX:EXT} {a b:Expr} {pos p tpos:Pos} {ma mb:MX} {elts:List Expr} {x1:Nat}
end
end M
set_option Elab.async false
set_option linter.all false
set_option maxRecDepth 100000
set_option maxHeartbeats 4000000
namespace M
open PySem PySem.Spec PyProof.Rows L2
noncomputable def El (ks:List DK) (ms:MAs):MX:=fun ρ μ=>(ms ρ μ).bind fun ds μ1=>.ok (.ref μ1.length) (μ1++[.dic ks ds])
section
variable {X:Cx} {EX:EXT} {e a b c:Expr} {pos pos2:Pos} {m ma mb mc:MX} {es:List Expr} {ms:MAs}
theorem a22 {keys:List (Option Expr)} {values:List Expr} {ks:List DK} {ms:MAs} (h:MPs X EX pos keys values ks ms) (nd:ks.Nodup) (hall:keys.all (·.isSome)=true) (hl:keys.length=values.length) (h0:keys≠[]) (h15:keys.length≤15) :
  ME X EX (.Dict keys values pos) (El ks ms):=by
 obtain ⟨hk,⟨trs,pp,sp⟩,lp⟩:=h
 refine ⟨_,E4 pp hall hl h0 h15,fun Z α F H σ ρ μ Q R g=>?_⟩
 intro p hp
 have hz:Z.z p=none:=by
  cases e:Z.z p with
  | none=>rfl
  | some u=>rw [R.hp.zs _ _ e] at hp;cases hp
 refine sp (ZS.up Z p (.dK [])) α F (upd H p (.dK [])) σ ρ μ _ ⟨R.hp.hold _ hp,R.len,R.sl⟩ (GA.stepE (G:=GE X.K EX Z α F Q) g (fun _ _ h=>EX.mono _ _ _ _ _ hz h) (fun h=>h) fun ds μ1 vs α1 F1 H1 hm R1 e1 p1 g1=>?_)
 have hlen:=lp _ _ _ _ hm
 have hlen2:=p1.length
 refine ⟨R1.zs _ _ uo,(ks.map dk).zip vs,?_,?_,?_⟩
 ·show (ks.map fun k=>kV (dk k)).zip vs=((ks.map dk).zip vs).map fun kv=>(kV kv.1,kv.2)
  have:(ks.map fun k=>kV (dk k))=(ks.map dk).map kV:=by simp
  rw [this]
  exact Xz kV _ _
 ·rw [List.length_zip,List.length_map];omega
 ·have nd2:(((ks.map dk).zip vs).map (·.1)).Nodup:=by
   rw [List.map_fst_zip (by simp;omega)]
   exact Xb nd
  rw [Q8 _ [] (by simpa using nd2),List.nil_append]
  have R2:=R1.unholdC (o':=.dK ((ks.map dk).zip vs)) (c:=.dic ks ds) hz ⟨R1.zf p _ uo,vs,jt,by omega,p1.mono (u3 _ _ _)⟩
  refine g1 _ _ _ _ R2 (e1.trans (u3 _ _ _)) ?_
  unfold Rep
  exact ⟨p,by rw [← R1.len,List.getElem?_append_right (Nat.le_refl _)];simp,rfl⟩
end
end M
set_option Elab.async false
set_option linter.all false
set_option maxRecDepth 100000
set_option maxHeartbeats 4000000
namespace M
open PySem PySem.Spec PyProof.Rows L2
noncomputable def qe (h:Heap) (e:Addr) (C:Value) (dx:Option Addr) (tr:Option Addr):Prop :=
 ∃ vs sl,h.get? e=some ⟨C,dx,.fields vs,sl⟩∧1 < vs.size∧match tr with
  | none=>vs[1]? =some .none
  | some T=>vs[1]? =some (.ref T)∧T≠e∧∃ oT ts,h.get? T=some oT∧oT.data=.fields ts∧ts[3]? =some .none
structure Noted (fs:List Addr) (e:Addr) (tr:Option Addr) (h h':Heap):Prop where
 keep:∀ b o,h.get? b=some o→b∉fs→b≠e→tr≠some b→h'.get? b=some o
 slot:∀ b o,h.get? b=some o→b≠e→tr≠some b→∃ sl,h'.get? b=some { o with slots:=sl}
section
variable {Md:Model} {A:Around} {E:Value→Shared→Prop} {s:Shared} {base:Heap} {env:Env} {outer:List Env} {L e:Addr}
theorem W5 {C:Value} {dx:Option Addr} {vs:Array Value} {sl:Array (Option Value)} {head:Value} {had:Bool} {Q:Unit→Shared→Prop} (hfr:A.frames=some (env::outer)) (hl:s.heap.FunFrames base (env::outer)) (hf:env.frame=some L)
  (he:s.heap.get? e=some ⟨C,dx,.fields vs,sl⟩) (hz:1 < vs.size) (q:∀ h' T,qe h' e C dx (some T)→s.heap.objs.size≤T→Noted (frs (env::outer)) e none s.heap h'→Q () { s with heap:=h'}) :
  wpAny Md A (do let a ← frameOf env;let pl ← entryPlaceOf L had;let b ← EntryCells.newEntry head a .none (rawInt L) .none pl;setField (.ref e) 1 b) (fun _ s'=>wpAny Md A (setFlight (.ref e) none) Q E s') E s:=by
 have nf:e∉(env::outer).filterMap (·.frame):=fun hm=>by
  obtain ⟨_,o,ho,hn⟩:=hl.mem hm
  rw [he] at ho
  cases ho
  exact hn vs rfl
 refine wpAny_bind (wpAny_frameOf_fun hfr hl hf fun h1 so=>wpAny_bind (wpAny_entryPlaceOf fun pl hpl=>?_))
 unfold EntryCells.newEntry newFields
 refine wpAny_bind (wpAny_newObj_type ?_ (hpl.sizeOk5 _ _ _ _ _))
 generalize hts:([head,Value.ref L,Value.none,rawInt L,Value.none]++if pl.isEmpty=true then List.replicate 6 Value.none else pl).toArray=ts
 have t3:3 < ts.size:=by rw [← hts];simp only [List.size_toArray,List.length_append,List.length_cons,List.length_nil];omega
 have e1:h1.get? e=some ⟨C,dx,.fields vs,sl⟩:=(so.2.1 e nf).trans he
 have nT:h1.objs.size≠e:=Nat.ne_of_gt (Heap.lt_size e1)
 have e2:=Heap.get?_push_of_some (h:=h1) { cls:=.type "traceback",data:=.fields ts} e1
 refine wpAny_setField e2 rfl hz ?_
 have e3:((h1.push { cls:=.type "traceback",data:=.fields ts}).update e (Obj.mapFields (·.setIfInBounds 1 (.ref h1.objs.size)))).get? e=some ⟨C,dx,.fields (vs.setIfInBounds 1 (.ref h1.objs.size)),sl⟩:=Heap.get?_update_self _ e2 rfl
 have T3:((h1.push { cls:=.type "traceback",data:=.fields ts}).update e (Obj.mapFields (·.setIfInBounds 1 (.ref h1.objs.size)))).get? h1.objs.size=some { cls:=.type "traceback",data:=.fields ts} :=
  (Heap.get?_update_other _ _ (Ne.symm nT)).trans (Heap.get?_push_size h1 rfl)
 have v1:(vs.setIfInBounds 1 (Value.ref h1.objs.size))[1]? =some (.ref h1.objs.size):=by simp [hz]
 unfold setFlight
 refine wpAny_bind (wpAny_field e3 rfl v1 ?_)
 rw [if_pos (by simp)]
 refine wpAny_setField T3 rfl t3 (q _ h1.objs.size ?_ ?_ ?_)
 ·refine ⟨_,sl,(Heap.get?_update_other _ _ nT).trans e3,by simpa using hz,v1,nT,_,_,Heap.get?_update_self _ T3 rfl,rfl,?_⟩
  simp [t3]
 ·exact Nat.le_of_eq so.1.symm
 ·have up:∀ b o,h1.get? b=some o→b≠e→(((h1.push { cls:=.type "traceback",data:=.fields ts}).update e (Obj.mapFields (·.setIfInBounds 1 (.ref h1.objs.size)))).update h1.objs.size (Obj.mapFields (·.setIfInBounds 3 ((none:Option Addr).elim Value.none fun f=>rawInt f)))).get? b=some o:=fun b o hb hbe=>by
   rw [Heap.get?_update_other _ _ (Nat.ne_of_gt (Heap.lt_size hb)),Heap.get?_update_other _ _ (Ne.symm hbe)]
   exact Heap.get?_push_of_some _ hb
  refine ⟨fun b o hb hn hbe _=>up b o ((so.2.1 b hn).trans hb) hbe,fun b o hb hbe _=>?_⟩
  obtain ⟨sl',e'⟩:=so.2.2 b o hb
  exact ⟨sl',up b _ e' hbe⟩
theorem ai6 {C:Value} {dx tr:Option Addr} {Q:Unit→Shared→Prop} (hfr:A.frames=some (env::outer)) (hl:s.heap.FunFrames base (env::outer)) (hf:env.frame=some L) (x:qe s.heap e C dx tr)
  (q:∀ h' T,qe h' e C dx (some T)→s.heap.objs.size≤T→Noted (frs (env::outer)) e tr s.heap h'→Q () { s with heap:=h'}) :
  wpAny Md A (noteFrame (.ref e) env) (fun _ s'=>wpAny Md A (setFlight (.ref e) none) Q E s') E s:=by
 obtain ⟨vs,sl,he,hz,ht⟩:=x
 unfold noteFrame
 simp only [hf]
 cases tr with
 | none =>
  refine wpAny_bind (wpAny_field he rfl ht ?_)
  rw [if_neg (by decide)]
  exact W5 hfr hl hf he hz q
 | some T0 =>
  obtain ⟨h1,hne,oT,ts,hT,hd,h3⟩:=ht
  refine wpAny_bind (wpAny_field he rfl h1 ?_)
  rw [if_pos (by simp)]
  refine wpAny_bind (wpAny_field hT hd h3 ?_)
  rw [if_neg (by simp [rawInt])]
  refine wpAny_bind (wpAny_setField hT hd (Array.getElem?_eq_some_iff.mp h3).1 ?_)
  have ot:∀ b,b≠T0→(s.heap.update T0 (Obj.mapFields (·.setIfInBounds 3 Value.none))).get? b=s.heap.get? b:=fun b hb=>Heap.get?_update_other _ _ (Ne.symm hb)
  have nr:∀ b o,s.heap.get? b=some o→(∀ vs,o.data≠.fields vs)→b≠T0:=fun b o hb hn z=>by
   rw [z,hT] at hb
   cases hb
   exact hn ts hd
  refine W5 (s:={ s with heap:=s.heap.update T0 (Obj.mapFields (·.setIfInBounds 3 Value.none))}) hfr (hl.of_keeps fun b o hb hn=>⟨o,(ot b (nr b o hb hn)).trans hb,rfl⟩) hf ((ot e (Ne.symm hne)).trans he) hz fun h' T x' n' N=>q h' T x' ?_ ?_
  ·have n2:(s.heap.update T0 (Obj.mapFields (·.setIfInBounds 3 Value.none))).objs.size≤T:=n'
   rw [Heap.size_update] at n2
   exact n2
  ·exact ⟨fun b o hb hn hbe hbt=>N.keep b o ((ot b fun z=>hbt (by rw [z])).trans hb) hn hbe (by simp),fun b o hb hbe hbt=>N.slot b o ((ot b fun z=>hbt (by rw [z])).trans hb) hbe (by simp)⟩
end
end M
set_option Elab.async false
set_option linter.all false
set_option maxRecDepth 100000
set_option maxHeartbeats 4000000
namespace M
open PySem PySem.Spec PyProof.Rows L2
theorem qe.p {h:Heap} {e:Addr} {C:Value} {dx tr:Option Addr} (x:qe h e C dx tr):U9 e C dx h:=let ⟨vs,sl,he,_⟩:=x;⟨vs,sl,he⟩
theorem Fv {P:Program} {w:World} {H:Hp} {h:Heap} {a:Addr} {C:Value} {dx:Option Addr} (x:U9 a C dx h):ul P w H h a (.ext (U9 a C dx)) :=
 ⟨x,let ⟨_,_,e⟩:=x;⟨_,e⟩,fun _ _ ⟨vs,sl,e⟩ k=>⟨vs,sl,k _ e⟩⟩
section
variable {P:Program} {w:World} {H H0 H':Hp} {h h' h0:Heap} {a T L:Addr} {C:Value} {dx tr tr':Option Addr} {fs:List Addr} {env:Env} {outer:List Env}
theorem cx (x:HOk P w H h) (ha:H a=some (.ext (U9 a C dx))) (ht:∀ T,tr=some T→H T=none) (xo:qe h' a C dx tr') (N:Noted fs a tr h h') (hf:∀ b∈fs,H b=none):HOk P w H h':=fun b u e=>by
 by_cases hb:b=a
 ·subst hb
  rw [ha] at e
  cases e
  exact Fv xo.p
 ·refine (x b u e).stay (fun c v hc q=>?_) (fun _ q=>q) fun _ _ q=>q
  have hn:∃ u',H c=some u'∧c≠a:=by
   rcases hc with rfl | hc
   ·exact ⟨u,e,hb⟩
   ·exact ⟨_,hc,fun z=>by rw [z,ha] at hc;cases hc⟩
  obtain ⟨u',e',hca⟩:=hn
  exact N.keep c v q (fun z=>by rw [hf c z] at e';cases e') hca (fun z=>by rw [ht c z] at e';cases e')
theorem Cn {ex:List Addr} (u:Un (frs outer) ex H0 H' h0 h) (N:Noted (frs (env::outer)) a tr h h') (hL:env.frame=some L) (nL:h0.get? L=none) (na:h0.get? a=none) (nt:∀ T,tr=some T→h0.get? T=none):Un (frs outer) ex H0 H' h0 h' where
 keep:=fun b o q n hc hx=>by
  refine N.keep b o (u.keep b o q n hc hx) (fun z=>?_) (fun z=>by rw [z,na] at q;cases q) (fun z=>by rw [nt b z] at q;cases q)
  unfold frs at z hc
  rw [List.filterMap_cons,hL] at z
  rcases List.mem_cons.mp z with z | z
  ·rw [z,nL] at q;cases q
  ·exact hc z
 slot:=fun b o q n hc hx=>by
  obtain ⟨sl,e⟩:=u.slot b o q n hc hx
  obtain ⟨sl',e'⟩:=N.slot b _ e (fun z=>by rw [z,na] at q;cases q) (fun z=>by rw [nt b z] at q;cases q)
  exact ⟨sl',e'⟩
 free:=u.free
 there:=fun b o q hx=>by
  obtain ⟨o',e⟩:=u.there b o q hx
  obtain ⟨sl',e'⟩:=N.slot b _ e (fun z=>by rw [z,na] at q;cases q) (fun z=>by rw [nt b z] at q;cases q)
  exact ⟨_,e'⟩
 tups:=u.tups
 frzs:=u.frzs
 tbls:=u.tbls
end
inductive CXRp (P:Program) (w:World) (outer:List Env) (H:Hp) (s:Shared) (E:XK) (e:Value) (s':Shared):Prop
 | mk (a:Addr) (C:Value) (dx:Option Addr) (T:Addr) (H':Hp):e=.ref a→s'.os=s.os→AllBare s'.gens→Un (frs outer) [] H H' s.heap s'.heap→HOk P w H' s'.heap→qe s'.heap a C dx (some T)→H' a=some (.ext (U9 a C dx))→H' T=none→s.heap.objs.size≤a→s.heap.objs.size≤T→E e (some a) H'→CXRp P w outer H s E e s'
noncomputable abbrev CXR (P:Program) (w:World):CXT:=CXRp P w
section
variable {P:Program} {w:World} {K:PySem.W.Frag} {mg:Str→Option Value} {base:Heap} {N:List Str} {qual:Str} {sc:Scope} {f:Addr} {cdv:Value} {A:Around} {outer:List Env} {s:Shared} {H:Hp} {E:XK}
end
end M
set_option Elab.async false
set_option linter.all false
set_option maxRecDepth 100000
set_option maxHeartbeats 4000000
namespace M
open PySem PySem.Spec PyProof.Rows L2
noncomputable abbrev XCs:=Nat→Str×Option Str
noncomputable def del (H:Hp) (a b:Addr):Hp:=fun c=>if c=a∨c=b then none else H c
noncomputable def XH (K:PySem.W.Frag) (c:Str×Option Str) (H:Hp) (a dx:Addr) (v:V):Prop:=match c.2 with
 | some nm=>H a=some (.ext (U9 a (.ref (cA K c.1)) (some dx)))∧H dx=some (.xd [(nm,v)])
 | none=>dx=a∧H a=some (.ext (U9 a (.ref (cA K c.1)) none))
noncomputable def exT (K:PySem.W.Frag) (xc:XCs) (E:XK):EXT where
 P:=fun Z x μ=>∀ (a dx:Addr) (v:V) (α':List Addr) (F' H':Hp),RH K Z α' F' (del H' a dx) μ→Rep K F' α' x.d v→XH K (xc x.c) H' a dx v→E (.ref a) (some a) H'
 mono:=fun Z p o x μ hz h a dx v α' F' H' R=>h a dx v α' F' H' (R.drop hz)
noncomputable def ZS.at (Z:ZS) (α:List Addr) (F:Hp):ZS:=⟨Z.z,α,F⟩
theorem RH.rebase {K:PySem.W.Frag} {Z:ZS} {α:List Addr} {F H:Hp} {μ:Mu} (r:RH K Z α F H μ):RH K (Z.at α F) α F H μ:=⟨r.sub,r.len,r.cell,r.zs,r.zf,r.zc,r.dis,Ext.refl _ _⟩
theorem RH.back {K:PySem.W.Frag} {Z:ZS} {α α':List Addr} {F F' H':Hp} {μ:Mu} (r:RH K (Z.at α F) α' F' H' μ) (e:Ext Z.a0 Z.f0 α F):RH K Z α' F' H' μ:=⟨r.sub,r.len,r.cell,r.zs,r.zf,r.zc,r.dis,e.trans r.ext⟩
noncomputable def spX (K:PySem.W.Frag) (xc:XCs) (n:Nat) (φ:Fn):Sp:=fun vs H Q E=>∃ Z α F ds μ,RH K Z α F H μ∧Reps K F α ds vs∧ds.length=n∧GE K (exT K xc E) (Z.at α F) α F Q (φ ds μ)
section
variable {P:Program} {w:World} {K:PySem.W.Frag} {mg:Str→Option Value} {base:Heap} {xc:XCs}
theorem ai5 {x qual:Str} {st:Stmt} {f:Addr} {fd:FuncData} {N ps:List Str} {k j:Nat} {n:MSt} (F:Fun K x qual st f fd) (S:FnScope N ps (defScope st)) (hj:N.length - ps.length=j)
  (hb:∀ (cdv:Value) (A:Around) (outer:List Env) (s:Shared) (H:Hp) (E:XK),Room k (A.deeper (envOfC qual (defScope st) s.heap.objs.size f cdv)) →
   MSs (ub (CXR P w) P w K mg base N qual (defScope st) f cdv A outer s H E) (exT K xc E) (defBody st) n):FnOk P w K mg base (CXR P w) (k + 1) f fd ps (spX K xc ps.length (fnOf j n)):=by
 obtain ⟨oc,od,kV,doc,pm,an,cdv,ct,osl,rfl,lk,hcd⟩:=F.ex
 refine a83 lk hcd S (fun vs H Q E h=>?_) fun A outer s H vs Q E hr h=>?_
 ·obtain ⟨Z,α,G,ds,μ,R,r,hl,_⟩:=h
  rw [← hl,r.length]
 ·obtain ⟨Z,α,G,ds,μ,R,r,hl,g⟩:=h
  obtain ⟨t,p,s'⟩:=hb cdv A outer s H E hr
  refine ⟨t,p,s' (Z.at α G) α G H (start N vs) (ds.map some++List.replicate j none) μ _ (Kf N j (by rw [← r.length,hl];exact hj) R.rebase r) ?_⟩
  unfold fnOf fin at g
  cases e:n (ds.map some++List.replicate j none) μ with
  | exc x μ1=>rw [e] at g;exact g
  | bad=>rw [e] at g;exact g
  | ok o μ1 =>
   rw [e] at g
   cases o with
   | rt d=>exact g
   | nx ρ=>exact fun σ' α' F' H' R' e'=>g .non α' F' H' R'.hp e' Zd
   | bk ρ=>exact g.elim
   | ct ρ=>exact g.elim
end
noncomputable def yj (φ:Fn) (ms:MAs):MX:=fun ρ μ=>(ms ρ μ).bind φ
section
variable {X:Cx} {e a b c:Expr} {pos:Pos} {m ma mb mc:MX} {es rest:List Expr} {ms:MAs} {E:XK} {xc:XCs}
theorem cm {K:PySem.W.Frag} {Z:ZS} {α1:List Addr} {F1:Hp} {Q:VK} {α:List Addr} {F:Hp} {r:Res D} (e0:Ext Z.a0 Z.f0 α1 F1) (e1:Ext α F α1 F1) (h:GE K (exT K xc E) Z α F Q r):GE K (exT K xc E) (Z.at α1 F1) α1 F1 Q r:=by
 cases r with
 | ok d μ=>exact fun v α' F' H' R e' q=>h v α' F' H' (R.back e0) (e1.trans e') q
 | exc x μ=>exact fun a dx v α' F' H' R p h1=>h a dx v α' F' H' (R.back e0) p h1
 | bad=>exact h
theorem Bi {x:Str} {p:Pos} {k:Nat} {f:Addr} {fd:FuncData} {ps:List Str} {φ:Fn} (hx:yu (CXR X.prog X.w) X E) (F:FnOk X.prog X.w X.K X.mg X.base (CXR X.prog X.w) k f fd ps (spX X.K xc ps.length φ)) (hr:Room k X.A) (hg:Gl X x) (hm:X.mg x=some (.ref f)) (hk:PySem.W.keepIn X.K (.ref f)=true) (hb:xz X.K fd ps [])
  (ha:MA X (exT X.K xc E) (e::es) ms) (hl:(e::es).length=ps.length) (hdb:(x == ("__debug__":Str))=false:=by decide) (he:starEach (e::es) X.env=(false,eval e X.env)::starEach es X.env:=by rfl) (hpl:(backTo pos (starEach es X.env)).any (·.1)=false:=by rfl) :
  ME X (exT X.K xc E) (.Call (.Name x p) (e::es) [] pos) (yj φ ms):=by
 obtain ⟨t,pt,st,lt⟩:=ha
 refine ⟨_,E5 F hr hg hm hk hb .nil hx pt hdb he hpl,fun Z α G H σ ρ μ Q R g=>?_⟩
 refine st Z α G H σ ρ μ _ R (GA.stepE (G:=GE X.K (exT X.K xc E) Z α G Q) g (fun _ _ h=>h) (fun h=>h) fun ds μ1 vs α1 F1 H1 hm1 R1 e1 p1 g1=>?_)
 rw [List.append_nil]
 exact ⟨Z,α1,F1,ds,μ1,R1,p1,(lt _ _ _ _ hm1).trans hl,cm R1.ext e1 g1⟩
end
end M
set_option Elab.async false
set_option linter.all false
set_option maxRecDepth 100000
set_option maxHeartbeats 4000000
namespace M
open PySem PySem.Spec PyProof.Rows L2
section
variable {prog:Program} {w:World} {A:Around} {E:Value→Shared→Prop} {h:Heap} {g:Array GenState} {d:Drawn} {t:Nat} {os:OsState}
variable {nm q:Str} {C N f:Addr} {bs bm bmB:List Value} {hdct:Bool} {sn:List Str} {sub:List Value} {ab:Bool} {col:Option Bool} {dd:Option Addr} {k0 k1 k2 k3 k5:Option Value} {B newId initId:String}
noncomputable abbrev bz (C a:Addr):Obj:={ cls:=.ref C,data:=.fields #[.ref a,.none,.none,.none,.bool false,.none]}
noncomputable abbrev xp (h:Heap) (C:Addr) (us:List Value):Heap:=(h.push { cls:=.type "tuple",data:=.seq us.toArray}).push (bz C h.objs.size)
end
end M
set_option Elab.async false
set_option linter.all false
set_option maxRecDepth 100000
set_option maxHeartbeats 4000000
namespace M
open PySem PySem.Spec PyProof.Rows L2 PySem.Builtin PySem.Builtin.ObjectAttr
noncomputable def Ga:List Value:=[.type "ValueError",.type "Exception",.type "BaseException",.type "object"]
noncomputable def v8:List Value→Bool
 | .ref _::r=>v8 r
 | l=>l == Ga
theorem Qi:∀ {l:List Value},v8 l=true→l=Ga∨∃ c r,l=.ref c::r∧v8 r=true
 | [],e=>.inl (beq_iff_eq.mp e)
 | .ref c::r,e=>.inr ⟨c,r,rfl,e⟩
 | .type n::r,e=>.inl (beq_iff_eq.mp e)
 | .none::r,e=>.inl (beq_iff_eq.mp e)
 | .bool _::r,e=>.inl (beq_iff_eq.mp e)
 | .int _ _::r,e=>.inl (beq_iff_eq.mp e)
 | .str _ _::r,e=>.inl (beq_iff_eq.mp e)
 | v::r,e=>by
  cases v <;> first | exact .inl (beq_iff_eq.mp e) | exact .inr ⟨_,r,rfl,e⟩
theorem Vv (self:Value):∀ (l:List Value),v8 l=true→refuseLoop self "__setattr__" l=pure ()
 | [],e=>by cases e
 | v::r,e=>by
  rcases Qi e with q | ⟨c,r',q,e'⟩
  ·rw [q];exact F.store_ValueError.passes self
  ·injection q with q1 q2
   subst q1 q2
   rw [refuseLoop_ref]
   exact Vv self r e'
theorem vg {T:String} (hT:Ga.contains (.type T)=true):∀ (l:List Value),v8 l=true→l.contains (.type T)=true
 | [],e=>by cases e
 | v::r,e=>by
  rcases Qi e with q | ⟨c,r',q,e'⟩
  ·rw [q];exact hT
  ·injection q with q1 q2
   subst q1 q2
   rw [List.contains_cons,vg hT r e',Bool.or_true]
noncomputable def fm (K:PySem.W.Frag) (C:Addr):Bool:=(PySem.W.clsIn K C).any fun cd=>v8 cd.mro
section
variable {prog:Program} {w:World} {A:Around} {E:Value→Shared→Prop} {s:Shared} {K:PySem.W.Frag} {x C:Addr} {name:Str} {v:Value}
theorem F8 {T:String} (X:K.In s.heap) (hp:fm K C=true) {ox:Obj} {od:Option Obj} (I:PySem.W.InstAt s.heap x ox C od) (hT:Ga.contains (.type T)=true) :
  PySem.W.Looks (model prog w) s.heap (isInstance (.ref x) (.type T)) true:=by
 obtain ⟨cd,hc,ho⟩:=PySem.W.any_some hp
 have ne:cd.mro.isEmpty=false:=by
  cases q:cd.mro with
  | nil=>rw [q] at ho;cases ho
  | cons _ _=>rfl
 refine I.type.andThen (PySem.W.looks_mroIn X ?_)
 unfold PySem.W.mroIn
 rw [hc,Option.bind_some,if_neg (by rw [ne];decide),vg hT _ ho]
end
section
variable {prog:Program} {w:World} {A:Around} {E:Value→Shared→Prop} {s:Shared} {K:PySem.W.Frag} {x C f:Addr} {name:Str} {v:Value}
end
end M
set_option Elab.async false
set_option linter.all false
set_option maxRecDepth 100000
set_option maxHeartbeats 4000000
namespace M
open PySem PySem.Spec PyProof.Rows L2
noncomputable def Dr (e:Addr) (C:Value) (dx:Option Addr):Heap→Prop:=fun h=>∃ t,h.get? e=some ⟨C,dx,.fields #[.ref t,.none,.none,.none,.bool false,.none],#[]⟩
theorem raw_ok {P:Program} {w:World} {H:Hp} {h:Heap} {a:Addr} {C:Value} {dx:Option Addr} (x:Dr a C dx h):ul P w H h a (.ext (Dr a C dx)) :=
 ⟨x,let ⟨_,e⟩:=x;⟨_,e⟩,fun _ _ ⟨t,e⟩ k=>⟨t,k _ e⟩⟩
theorem Dr.x {h:Heap} {e:Addr} {C:Value} {dx:Option Addr} (x:Dr e C dx h):qe h e C dx none:=let ⟨t,e'⟩:=x;⟨_,_,e',show 1 < 6 by decide,rfl⟩
section
variable {X:Cx} {pos p1 p2 p3 p4 p5 p6 p7:Pos} {self at_:Str} {txt:Str} {j:Nat} {D C f:Addr} {nm:Str} {xD:Str}
end
end M
set_option Elab.async false
set_option linter.all false
set_option maxRecDepth 100000
set_option maxHeartbeats 4000000
namespace M
open PySem PySem.Spec PyProof.Rows L2
end M
set_option Elab.async false
set_option linter.all false
set_option maxRecDepth 100000
set_option maxHeartbeats 4000000
namespace M
open PySem PySem.Spec PyProof.Rows L2
section
variable {P:Program} {w:World} {K:PySem.W.Frag} {mg:Str→Option Value} {base:Heap} {N:List Str} {qual:Str} {sc:Scope} {f:Addr} {cdv:Value} {A:Around} {outer:List Env} {s:Shared} {H:Hp} {E:XK}
end
end M
set_option Elab.async false
set_option linter.all false
set_option maxRecDepth 100000
set_option maxHeartbeats 4000000
namespace M
open PySem PySem.Spec PyProof.Rows L2
structure Hnd (K:PySem.W.Frag) (D:Addr):Prop where
 ty:PySem.W.typeIn K (.ref D)=some (.type "type")
 cl:(PySem.W.clsIn K D).isSome=true
 sub:PySem.W.subIn K (.ref D) (.type "BaseException")=some true
theorem ge {K:PySem.W.Frag} {M:Model} {h:Heap} {e C D:Addr} {o:Obj} (X:K.In h) (d:Hnd K D) (he:h.get? e=some o) (hc:o.cls=.ref C) (hs:PySem.W.subIn K (.ref C) (.ref D)=some true):PySem.W.Looks M h (excMatches (.ref e) (.ref D)) true:=by
 have k:=PySem.W.kit_cls (M:=M) (c:=.ref D) (t:=.ref C) (v:=true) X (by unfold PySem.W.kitCls;dsimp only;rw [d.cl,d.ty];simpa using hs)
 have ty:PySem.W.Looks M h (typeOf (.ref e)) (.ref C):=hc ▸ (PySem.W.Looks.ld he).andThen .now
 have l1:PySem.W.Looks M h (isInstance (.ref D) (.type "tuple")) false:=k.1.andThen (PySem.W.Looks.of_pure tc_notTuple)
 have l2:PySem.W.Looks M h (isExcClass (.ref D)) true:=k.2.1.andThen (PySem.W.looks_subIn X d.sub)
 unfold excMatches
 refine l1.andThen (PySem.W.Looks.now.andThen ?_)
 simp only [List.forIn_cons,List.forIn_nil]
 refine PySem.W.Looks.andThen (a:=()) ?_ (ty.andThen ?_)
 ·refine PySem.W.Looks.andThen (a:=ForInStep.yield ()) (l2.andThen ?_) .now
  exact .now
 ·refine PySem.W.Looks.andThen (a:=(some true,())) (PySem.W.Looks.andThen (a:=ForInStep.done (some true,())) (k.2.2.andThen ?_) ?_) ?_
  ·exact .now
  ·exact .now
  ·exact .now
theorem cq {Md:Model} {A:Around} {E:Value→Shared→Prop} {s:Shared} {e T:Addr} {C:Value} {dx:Option Addr} {Q:Unit→Shared→Prop} (x:qe s.heap e C dx (some T))
  (q:∀ h',qe h' e C dx (some T)→Noted [] e (some T) s.heap h'→Q () { s with heap:=h'}):wpAny Md A (setFlight (.ref e) none) Q E s:=by
 obtain ⟨vs,sl,he,hz,h1,ne,oT,ts,hT,hd,h3⟩:=x
 have z3:3 < ts.size:=(Array.getElem?_eq_some_iff.mp h3).1
 have ot:∀ b o,s.heap.get? b=some o→b≠T→(s.heap.update T (Obj.mapFields (·.setIfInBounds 3 Value.none))).get? b=some o:=fun b o hb n=>(Heap.get?_update_other _ _ (Ne.symm n)).trans hb
 have nw:(s.heap.update T (Obj.mapFields (·.setIfInBounds 3 Value.none))).get? T=some (Obj.mapFields (·.setIfInBounds 3 Value.none) oT):=Heap.get?_update_self _ hT (by
  obtain ⟨c,d,dt,sl⟩:=oT
  cases hd
  rfl)
 refine wpAny_setFlight_none he rfl h1 hT hd z3 (q _ ⟨vs,sl,ot _ _ he (Ne.symm ne),hz,h1,ne,_,ts.setIfInBounds 3 .none,nw,?_,?_⟩ ⟨fun b o hb _ _ hn=>ot b o hb fun z=>hn (by rw [z]),fun b o hb _ hn=>⟨o.slots,ot b o hb fun z=>hn (by rw [z])⟩⟩)
 ·obtain ⟨c,d,dt,sl⟩:=oT
  cases hd
  rfl
 ·simp [z3]
section
variable {X:Cx} {pins:List (Addr×Obj)} {σ:L2.St} {H:Hp} {s:Shared} {h':Heap} {a:Addr} {C:Value} {dx tr tr':Option Addr} {fs:List Addr}
theorem vh (I:Inv X pins σ H s) (xo:qe h' a C dx tr') (N:Noted fs a tr s.heap h') (hfs:∀ b∈fs,b∈frs X.stack) (ha:H a=some (.ext (U9 a C dx)))
  (ht:∀ T,tr=some T→H T=none∧X.s₀.heap.objs.size≤T∧T≠X.env.locals∧(∀ x c,X.env.cells.lookup x=some c→c≠T)∧∀ p∈X.pn++pins,p.1≠T):Inv X pins σ H { s with heap:=h'}:=by
 have na:∀ b,H b=none→b≠a:=fun b n z=>by rw [z,ha] at n;cases n
 refine I.call' (s':={ s with heap:=h'}) (ch:=tr.toList) rfl ⟨fun b o q n hc hx=>?_,fun b o q n hc hx=>?_,fun b o q n hx=>n,fun b o q hx=>?_,fun b xs q=>q,fun b o u q=>q,fun b ps q=>⟨#[],by rw [q];simp⟩⟩
  (cx I.hok ha (fun T z=>(ht T z).1) xo N fun b hb=>I.stkFree b (hfs b hb)) I.bare fun b hb=>?_
 ·exact N.keep b o q (fun z=>hc (hfs b z)) (na b n) fun z=>hx (by rw [z];simp)
 ·obtain ⟨sl,e⟩:=N.slot b o q (na b n) fun z=>hx (by rw [z];simp)
  exact ⟨sl,e⟩
 ·by_cases z:b=a
  ·obtain ⟨vs,sl,e,_⟩:=xo
   exact ⟨_,by rw [z];exact e⟩
  ·obtain ⟨sl,e⟩:=N.slot b o q z fun z=>hx (by rw [z];simp)
   exact ⟨_,e⟩
 ·have z:tr=some b:=by
   cases tr with
   | none=>cases hb
   | some T=>simp at hb;rw [hb]
  obtain ⟨_,h1,h2,h3,h4⟩:=ht b z
  exact ⟨.inr h1,h2,h3,h4⟩
end
section
variable {X:Cx} {pins:List (Addr×Obj)} {σ:L2.St} {H:Hp} {s:Shared}
theorem qt (I:Inv X pins σ H s) {T:Addr} (h:s.heap.objs.size≤T):X.s₀.heap.objs.size≤T∧T≠X.env.locals∧(∀ x c,X.env.cells.lookup x=some c→c≠T)∧∀ p∈X.pn++pins,p.1≠T :=
 ⟨Nat.le_trans I.sz h,Nat.ne_of_gt (Nat.lt_of_lt_of_le I.lt h),fun x c e=>let ⟨_,_,z,_⟩:=I.cell x c e;Nat.ne_of_lt (Nat.lt_of_lt_of_le (Heap.lt_size z) h),fun p hp=>Nat.ne_of_lt (Nat.lt_of_lt_of_le (Heap.lt_size (I.pin p hp).1) h)⟩
theorem v0 {M:Model} {A:Around} {E:Value→Shared→Prop} {i:Nat} {x:Str} {pos:Pos} {Q:Unit→Shared→Prop} (I:Inv X pins σ H s) (hN:X.nd) (hi:X.N[i]? =some x) (hk:X.env.scope.names.lookup x=some .local)
  (h:∀ s',Inv X pins (σ.set i none) H s'→Q () s'):wpAny M A (do bindName X.env x .none;unbindBehindTheSuite X.env x pos) Q E s:=by
 obtain ⟨m,hn,hl⟩:=id I.loc
 have hcls:(X.env.scope.kind == .class || (X.env.scope.kind == .module && X.env.locals != X.env.globals))=false:=by rw [I.ok.kind];rfl
 refine wpAny_nameGoes_keeps hk hn hcls fun h' v hn' hs=>h _ ?_
 obtain ⟨oL,_,_,hoL,_⟩:=id hn
 have nb:∀ b o,X.s₀.heap.get? b=some o→b≠X.env.locals:=fun b o e=>Nat.ne_of_lt (Nat.lt_of_lt_of_le (Heap.lt_size e) I.ok.above)
 refine ⟨I.ok,I.os,I.bare,⟨fun b o e n hb hx=>(hs.2 b (nb b o e)).trans (I.base.keep b o e n hb hx),fun b o e n hb hx=>?_,I.base.free,fun b o e hx=>?_,I.base.tups,I.base.frzs,I.base.tbls⟩,⟨_,hn',fun j y v' e1 e2 e3=>?_⟩,fun y c e=>?_,I.free,I.freeC,fun p hp=>?_,fun b ob e=>?_,by simpa using I.len,fun f e=>by rw [hN.2] at e;cases e⟩
 ·obtain ⟨sl,e1⟩:=I.base.slot b o e n hb hx
  exact ⟨sl,(hs.2 b (nb b o e)).trans e1⟩
 ·obtain ⟨o',e1⟩:=I.base.there b o e hx
  exact ⟨o',(hs.2 b (nb b o e)).trans e1⟩
 ·have hj:j≠i:=fun z=>by
   subst z
   by_cases hz:j < σ.length
   ·rw [List.getElem?_set_self hz] at e2;cases e2
   ·rw [List.getElem?_eq_none (by rw [List.length_set];omega)] at e2;cases e2
  rw [List.getElem?_set_ne (Ne.symm hj)] at e2
  obtain ⟨u',r',q⟩:=hl j y v' e1 e2 e3
  refine ⟨u',r',?_⟩
  rcases q with ⟨k,e⟩ | ⟨k,c,e,z⟩
  ·have ne:y≠x:=fun e=>hj (Xd hN.1 e1 (e ▸ hi))
   exact .inl ⟨k,by simp [ne,e]⟩
  ·exact .inr ⟨k,c,e,z.sameBut hs (I.cne y c e)⟩
 ·obtain ⟨w',z⟩:=I.cell y c e
  exact ⟨w',z.sameBut hs (I.cne y c e)⟩
 ·obtain ⟨e,n,ne,nf,d⟩:=I.pin p hp
  exact ⟨(hs.2 p.1 ne).trans e,n,ne,nf,d⟩
 ·refine (I.hok b ob e).stay (fun c w' hc q=>(hs.2 c ?_).trans q) (fun _ q=>q) fun _ _ q=>q
  intro z
  subst z
  rcases hc with hc | hc
  ·rw [← hc,I.free] at e;cases e
  ·rw [I.free] at hc;cases hc
end
noncomputable def hand (X:Cx) (a:Addr) (pn:List (Addr×Obj)):Cx:={ X with A:=X.A.mark (some (.ref a)),calm:=false,pn:=pn,xe:=fun _ _=>False}
noncomputable def tryX (X:Cx) (pn:List (Addr×Obj)) (xe:Value→Shared→Prop):Cx:={ X with pn:=pn,xe:=xe}
section
variable {X:Cx} {pins pins':List (Addr×Obj)} {σ:L2.St} {H:Hp} {s:Shared} {xe:Value→Shared→Prop} {a:Addr}
theorem Cx.Ok.tryX {pn:List (Addr×Obj)} (o:X.Ok):(M.tryX X pn xe).Ok:=⟨o.mod,o.kind,o.glob,o.blt,o.above,o.inj,o.has,o.cab,o.hd,o.frames,o.stk,o.exf,o.bs,o.bsz,o.noex,o.exfs,o.funs,o.frf⟩
theorem Cx.Ok.hand {pn:List (Addr×Obj)} (o:X.Ok):(M.hand X a pn).Ok:=⟨o.mod,o.kind,o.glob,o.blt,o.above,o.inj,o.has,o.cab,(fun z=>by cases z),o.frames,o.stk,o.exf,o.bs,o.bsz,o.noex,o.exfs,o.funs,o.frf⟩
theorem wr (ok:X.Ok) (I:Inv (hand X a (X.pn++pins)) pins' σ H s):Inv X pins σ H s:=⟨ok,I.os,I.bare,I.base,I.loc,I.cell,I.free,I.freeC,fun p hp=>I.pin p (List.mem_append_left _ hp),I.hok,I.len,I.fx⟩
end
end M
set_option Elab.async false
set_option linter.all false
set_option maxRecDepth 100000
set_option maxHeartbeats 4000000
namespace M
open PySem PySem.Spec PyProof.Rows L2
noncomputable def xMu (c:Str×Option Str) (d:D) (μ:Mu):Mu:=match c.2 with
 | some nm=>μ++[.xdc nm d]++[.exn c.1 μ.length]
 | none=>μ++[.exz c.1]
noncomputable def xRf (c:Str×Option Str) (μ:Mu):D:=match c.2 with
 | some _=>.ref (μ.length + 1)
 | none=>.ref μ.length
noncomputable def Ya (i ie:Nat) (ok:Nat→Bool) (xc:XCs) (ne:MX) (ns:MSt):MSt:=fun ρ μ=>match ne ρ μ with
 | .ok d μ1=>.ok (.nx (ρ.set i (some d))) μ1
 | .bad=>.bad
 | .exc x μ1=>if ok x.c then (noX (ns (ρ.set ie (some (xRf (xc x.c) μ1))) (xMu (xc x.c) x.d μ1))).bind fun o μ2=>match o with
   | .nx ρ2=>.ok (.nx (ρ2.set ie none)) μ2
   | .rt d=>.ok (.rt d) μ2
   | _=>.bad
  else .bad
theorem RS.unset {K:PySem.W.Frag} {Z:ZS} {α:List Addr} {F H:Hp} {σ:L2.St} {ρ:En} {μ:Mu} (R:RS K Z α F H σ ρ μ) (i:Nat):RS K Z α F H (σ.set i none) (ρ.set i none) μ :=
 ⟨R.hp,by simp [R.len],fun j d hd=>by
  have hj:j≠i:=fun z=>by
   subst z
   by_cases hz:j < ρ.length
   ·rw [List.getElem?_set_self hz] at hd;cases hd
   ·rw [List.getElem?_eq_none (by rw [List.length_set];omega)] at hd;cases hd
  rw [List.getElem?_set_ne (Ne.symm hj)] at hd ⊢
  exact R.sl j d hd⟩
theorem am {h:Heap} {a:Addr} {C C':Value} {dx dx':Option Addr} (x:U9 a C dx h) (y:U9 a C' dx' h):C=C'∧dx=dx':=by
 obtain ⟨_,_,e⟩:=x
 obtain ⟨_,_,e'⟩:=y
 rw [e] at e'
 cases e'
 exact ⟨rfl,rfl⟩
theorem a90 {K:PySem.W.Frag} {Z:ZS} {α:List Addr} {F H:Hp} {μ:Mu} {c:Str×Option Str} {a dx:Addr} {v:V} {d:D} (R:RH K Z α F (del H a dx) μ) (rep:Rep K F α d v) (x:XH K c H a dx v) :
  ∃ α',RH K Z α' F H (xMu c d μ)∧Ext α F α' F∧Rep K F α' (xRf c μ) (.ref a):=by
 unfold XH at x
 have fn0:∀ b,del H a dx b=none→F b=none:=fun b hb=>d0 R hb
 have da:del H a dx a=none:=by unfold del;rw [if_pos (.inl rfl)]
 have dd:del H a dx dx=none:=by unfold del;rw [if_pos (.inr rfl)]
 unfold xMu xRf
 cases hc:c.2 with
 | some nm =>
  rw [hc] at x
  obtain ⟨h1,h2⟩:=x
  have nad:a≠dx:=fun z=>by rw [z,h2] at h1;cases h1
  have R1:=R.newCell (o':=.xd [(nm,v)]) (c:=.xdc nm d) dd ⟨fn0 dx dd,v,jt,rep.mono (u3 _ _ _)⟩
  have R2:=R1.newCell (p:=a) (o':=.ext (U9 a (.ref (cA K c.1)) (some dx))) (c:=.exn c.1 μ.length) (by rw [jw nad];exact da) ⟨fn0 a da,dx,by rw [← R.len];simp,jt⟩
  have eH:upd (upd (del H a dx) dx (.xd [(nm,v)])) a (.ext (U9 a (.ref (cA K c.1)) (some dx)))=H:=by
   funext b
   by_cases z:b=a
   ·rw [z,jt,h1]
   ·rw [jw z]
    by_cases z':b=dx
    ·rw [z',jt,h2]
    ·rw [jw z']
     unfold del
     rw [if_neg (fun q=>q.elim z z')]
  rw [eH] at R2
  refine ⟨_,R2,(u3 _ _ _).trans (u3 _ _ _),?_⟩
  unfold Rep
  exact ⟨a,by rw [← R.len];simp,rfl⟩
 | none =>
  rw [hc] at x
  obtain ⟨rfl,h1⟩:=x
  have R1:=R.newCell (p:=dx) (o':=.ext (U9 dx (.ref (cA K c.1)) none)) (c:=.exz c.1) dd ⟨fn0 dx dd,jt⟩
  have eH:upd (del H dx dx) dx (.ext (U9 dx (.ref (cA K c.1)) none))=H:=by
   funext b
   by_cases z:b=dx
   ·rw [z,jt,h1]
   ·rw [jw z]
    unfold del
    rw [if_neg (fun q=>q.elim z z)]
  rw [eH] at R1
  refine ⟨_,R1,u3 _ _ _,?_⟩
  unfold Rep
  exact ⟨dx,by rw [← R.len];simp,rfl⟩
theorem a91 {K:PySem.W.Frag} {c:Str×Option Str} {H:Hp} {a dx:Addr} {v:V} (x:XH K c H a dx v):∃ o,H a=some (.ext (U9 a (.ref (cA K c.1)) o)):=by
 unfold XH at x
 split at x
 ·exact ⟨_,x.1⟩
 ·exact ⟨_,x.2⟩
noncomputable def tryK (X:Cx) (pn:List (Addr×Obj)) (xe:Value→Shared→Prop) (f:Str→Option Value):Cx:={ X with pn:=pn,xe:=xe,kn:=some f}
section
variable {X:Cx} {pins pins':List (Addr×Obj)} {σ:L2.St} {H:Hp} {s:Shared} {xe:Value→Shared→Prop} {a:Addr} {f:Str→Option Value}
theorem Cx.Ok.tryK {pn:List (Addr×Obj)} (o:X.Ok):(M.tryK X pn xe f).Ok:=⟨o.mod,o.kind,o.glob,o.blt,o.above,o.inj,o.has,o.cab,o.hd,o.frames,o.stk,o.exf,o.bs,o.bsz,o.noex,o.exfs,o.funs,o.frf⟩
theorem a9 (I:Inv X pins σ H s) (hf:s.heap.Ns X.env.locals f):Inv (tryK X (X.pn++pins) xe f) [] σ H s:=⟨Cx.Ok.tryK I.ok,I.os,I.bare,I.base,I.loc,I.cell,I.free,I.freeC,fun p hp=>I.pin p (by rw [List.append_nil] at hp;exact hp),I.hok,I.len,fun g e=>by cases e;exact hf⟩
theorem Fx (ok:X.Ok) (hk:X.kn=none) (I:Inv (tryK X (X.pn++pins) xe f) pins' σ H s):Inv X pins σ H s:=⟨ok,I.os,I.bare,I.base,I.loc,I.cell,I.free,I.freeC,fun p hp=>I.pin p (List.mem_append_left _ hp),I.hok,I.len,fun g e=>by rw [hk] at e;cases e⟩
theorem cz (ok:X.Ok) (hk:X.kn=none) (I:Inv (tryK X (X.pn++pins) xe f) pins' σ H s):Inv (hand X a (X.pn++pins)) pins' σ H s:=⟨Cx.Ok.hand ok,I.os,I.bare,I.base,I.loc,I.cell,I.free,I.freeC,I.pin,I.hok,I.len,fun g e=>by rw [show (hand X a (X.pn++pins)).kn=none from hk] at e;cases e⟩
theorem cy {σ0:L2.St} {s0:Shared} {H0:Hp} (I0:Inv X pins σ0 H0 s0) (hl:∀ x∈X.N,X.env.kindOf x=some .local) {m:Str→Option Value} (hm:∀ (i:Nat) (x:Str) (v:V),X.N[i]? =some x→σ0[i]? =some (some v)→Vis X.env.scope x→∃ u,J3 v u∧as4 X.env s0.heap m x u)
  (I:Inv (hand X a (X.pn++pins)) pins' σ H s) (hf:s.heap.Ns X.env.locals m):Inv (hand X a (X.pn++pins)) pins' σ0 H s:=by
 refine ⟨I.ok,I.os,I.bare,I.base,⟨m,hf,fun i x v e1 e2 e3=>?_⟩,I.cell,I.free,I.freeC,I.pin,I.hok,I0.len,I.fx⟩
 obtain ⟨u,r,l⟩:=hm i x v e1 e2 e3
 refine ⟨u,r,?_⟩
 rcases l with l | ⟨l,_⟩
 ·exact .inl l
 ·have:=hl x (List.mem_of_getElem? e1)
  rw [this] at l
  rcases l with l | l <;> cases l
end
section
variable {X:Cx} {EX:EXT}
theorem a17 {i ie:Nat} {x xn nE:Str} {D:Addr} {ok:Nat→Bool} {xc:XCs} {e:Expr} {suite:List Stmt} {b0:Stmt} {ne:MX} {ns:MSt} {p1 hp pos pos' apos:Pos} (hst:X.stack=X.env::X.outer) (hfr:X.env.frame=some X.env.locals)
  (hN:X.nd) (hlo:∀ x∈X.N,X.env.kindOf x=some .local) (hix:X.N[i]? =some x) (hi:X.N[ie]? =some nE) (hl:X.env.scope.names.lookup nE=some .local) (hlx:Loc X.env.scope x) (hfx:X.fn x=true) (d:Hnd X.K D) (hg:Gl X xn) (hm:X.mg xn=some (.ref D)) (hok:∀ k,ok k=true→PySem.W.subIn X.K (.ref (cA X.K (xc k).1)) (.ref D)=some true)
  (hb:∀ pn xe f E,yu (CXR X.prog X.w) (tryK X pn xe f) E→ME (tryK X pn xe f) (exT X.K xc E) e ne) (hs:∀ a pn,MSs (hand X a pn) NoX (b0::suite) ns)
  (hsw:swapsWith e (some (.Name x pos')) apos.line X.env=pure false:=by rfl) (hdb:(xn == ("__debug__":Str))=false:=by decide) :
  MS X EX (.Try [.Assign [.Name x pos'] e apos] [.ExceptHandler (some (.Name xn p1)) (some nE) (b0::suite) hp] [] [] pos) (Ya i ie ok xc ne ns):=by
 refine ⟨fun N σ H=>∀ pins s,Inv X pins σ H s→wpAny (model X.prog X.w) X.A (exec (.Try [.Assign [.Name x pos'] e apos] [.ExceptHandler (some (.Name xn p1)) (some nE) (b0::suite) hp] [] [] pos) X.env) (SP X pins N) X.xe s,fun pins s σ H D I h=>h pins s I,fun Z α F H σ ρ μ N R g pins s I=>?_⟩
 have okX:=I.ok
 obtain ⟨mm,hmm,hml⟩:=id I.loc
 let E:XK:=fun e _ H'=>∃ x μ1 a dx v α' F',e=.ref a∧ne ρ μ=.exc x μ1∧RH X.K (Z.at α F) α' F' (del H' a dx) μ1∧Rep X.K F' α' x.d v∧XH X.K (xc x.c) H' a dx v
 let W:Value→Shared→Prop:=fun e s₁=>wpAny (model X.prog X.w) X.A (noteFrame e X.env) (fun _ s₂=>wpAny (model X.prog X.w) X.A (setFlight e none) (fun _ s₃=>wpAny (model X.prog X.w) X.A (handleBy e X.env [.ExceptHandler (some (.Name xn p1)) (some nE) (b0::suite) hp]) (SP X pins N) X.xe s₃) X.xe s₂) X.xe s₁
 have pass:yu (CXR X.prog X.w) (tryK X (X.pn++pins) W mm) E:=by
  intro pins0 σ0 H0 s0 e s' I0 hcx
  obtain ⟨a,C,dx0,T,H',rfl,os,bare,un,hok',xo,ha,hT,na,nT,hE⟩:=hcx
  obtain ⟨x,μ1,a',dx,v,α',F',ea,enb,RH',rep,xh⟩:=hE
  cases ea
  have I1:=I0.call' (ch:=[]) os un hok' bare fun b z=>absurd z (by simp)
  obtain ⟨o1,h1⟩:=a91 xh
  have ho:=I1.hok a _ h1
  obtain ⟨rfl,rfl⟩:=am xo.p ho.1
  have frT:=qt I0 nT
  show wpAny _ _ _ _ _ _
  refine ai6 (L:=X.env.locals) (outer:=X.outer) (base:=X.base) (by have:=okX.frames;rw [hst] at this;exact this) (by have:=I1.stack;rw [show (tryK X (X.pn++pins) W mm).stack=X.env::X.outer from hst] at this;exact this) hfr xo fun h2' T' xo' nT' Nd=>?_
  have I2:=vh I1 xo' Nd (fun b hb=>by rw [show (tryK X (X.pn++pins) W mm).stack=X.env::X.outer from hst];exact hb) h1 fun T'' z=>by cases z;exact ⟨hT,frT⟩
  have hT':H' T'=none:=I1.hok.fresh nT'
  have frT':=qt I1 nT'
  have I3:Inv (hand X a (X.pn++pins)) pins0 σ H' { s' with heap:=h2'}:=cy I hlo hml (cz okX hN.2 I2) (I2.fx mm rfl)
  refine wpAny_handleBy_cons (codeAny_handlers_test (zq I3 hg hm ?_ hdb)) (by intro q;cases q)
  obtain ⟨vo,so,eo,_⟩:=id xo'
  have bok:ok x.c=true∧GS X.K EX Z α F N ((noX (ns (ρ.set ie (some (xRf (xc x.c) μ1))) (xMu (xc x.c) x.d μ1))).bind fun o μ2=>match o with
    | .nx ρ2=>.ok (.nx (ρ2.set ie none)) μ2
    | .rt d=>.ok (.rt d) μ2
    | _=>.bad):=by
   unfold Ya at g
   rw [enb] at g
   dsimp only at g
   split at g
   ·rename_i z;exact ⟨z,g⟩
   ·exact g.elim
  refine (ge I3.kIn d eo rfl (hok _ bok.1)).here ?_
  show codeAny _ _ _ _ _
  refine codeAny_handlers_suite_as (cq xo' fun h3' xo3 Nd3=>?_)
  have I4:=vh I3 xo3 Nd3 (fun b hb=>by cases hb) h1 fun T'' z=>by cases z;exact ⟨hT',frT'⟩
  refine Zj (X:=hand X a (X.pn++pins)) (v:=.ref a) I4 hN hi (.inl hl) rfl (fun s5 I5=>?_) (.inr hl)
  have I6:Inv (hand X a (X.pn++pins)) [] (σ.set ie (some (.ref a))) H' s5:=I5.pins_of (pins':=[]) fun p hp=>by cases hp
  obtain ⟨α2,R2,e2,rp⟩:=a90 RH' rep xh
  have RS2:RS X.K (Z.at α F) α2 F' H' (σ.set ie (some (.ref a))) (ρ.set ie (some (xRf (xc x.c) μ1))) (xMu (xc x.c) x.d μ1) :=
   RS.set ie ⟨R2,R.len,fun j d' hd=>let ⟨v',h1,h2⟩:=R.sl j d' hd;⟨v',h1,h2.mono (RH'.ext.trans e2)⟩⟩ rp
  obtain ⟨ts,pts,sts⟩:=hs a (X.pn++pins)
  let Dn:Ends:={ nx:=fun σ2 H2=>N.nx (σ2.set ie none) H2,rt:=N.rt}
  have gs:GS X.K NoX (Z.at α F) α2 F' Dn (ns (ρ.set ie (some (xRf (xc x.c) μ1))) (xMu (xc x.c) x.d μ1)):=by
   have g2:=bok.2
   cases er:ns (ρ.set ie (some (xRf (xc x.c) μ1))) (xMu (xc x.c) x.d μ1) with
   | bad=>rw [er] at g2;exact g2
   | exc y μ2=>rw [er] at g2;exact g2
   | ok o μ2 =>
    rw [er] at g2
    cases o with
    | nx ρ2=>exact fun σ3 α3 F3 H3 R3 e3=>g2 _ α3 F3 H3 ((⟨R3.hp.back R.hp.ext,R3.len,R3.sl⟩:RS X.K Z α3 F3 H3 σ3 ρ2 μ2).unset ie) R3.hp.ext
    | rt w=>exact fun u α3 F3 H3 R3 e3 r3=>g2 u α3 F3 H3 (R3.back R.hp.ext) R3.ext r3
    | bk ρ2=>exact g2.elim
    | ct ρ2=>exact g2.elim
  refine wpAny_mono (pts [] s5 _ H' Dn I6 (sts _ _ _ _ _ _ _ _ RS2 gs)) (fun f s7 hf=>?_) fun _ _ z=>z.elim
  cases f with
  | next =>
   obtain ⟨σ2,H2,I7,q⟩:=hf
   exact v0 (wr okX I7) hN hi hl fun s8 I8=>⟨_,_,I8,q⟩
  | ret u =>
   obtain ⟨w,σ2,H2,I7,rw',q⟩:=hf
   exact v0 (wr okX I7) hN hi hl fun s8 I8=>⟨w,_,_,I8,rw',q⟩
  | brk=>obtain ⟨_,_,_,q⟩:=hf;exact q.elim
  | cont=>obtain ⟨_,_,_,q⟩:=hf;exact q.elim
 obtain ⟨tb,ptb,stb⟩:=hb (X.pn++pins) W mm E pass
 have IY:Inv (tryK X (X.pn++pins) W mm) [] σ H s:=a9 I hmm
 have gb:GE X.K (exT X.K xc E) (Z.at α F) α F (fun v H1=>N.nx (σ.set i (some v)) H1) (ne ρ μ):=by
  cases er:ne ρ μ with
  | bad=>unfold Ya at g;rw [er] at g;exact g
  | exc x μ1=>exact fun a dx v α' F' H' RH' rep xh=>⟨x,μ1,a,dx,v,α',F',rfl,er,RH',rep,xh⟩
  | ok d1 μ1 =>
   unfold Ya at g
   rw [er] at g
   exact fun v α3 F3 H3 R3 e3 r3=>g _ α3 F3 H3 ((R.to (R3.back R.hp.ext) e3).set i r3) e3
 refine wpAny_Try_except (wpAny_mono (Q:=fun fl s1=>fl=.next∧SP X pins N .next s1) ?_ (fun f s1 hf=>?_) fun _ _ z=>z)
 ·refine wpAny_execs_cons (wpAny_mono (wpAny_Assign_Name (Q:=fun fl s1=>fl=.next∧SP X pins N .next s1) (thn (ptb [] s σ H _ IY (stb _ _ _ _ _ _ _ _ ⟨R.hp.rebase,R.len,R.sl⟩ gb)) fun v s1 ⟨y,H1,I1,r1,q1⟩=>?_) hsw) (fun f s1 hf=>?_) fun _ _ z=>z)
  ·exact Zj (Fx (pins:=pins) okX hN.2 I1) hN hix hlx r1 (fun s2 I2=>⟨rfl,_,H1,I2,q1⟩) (.inl hfx)
  ·obtain ⟨rfl,hf⟩:=hf
   exact wpAny_execs_nil ⟨rfl,hf⟩
 ·obtain ⟨rfl,hf⟩:=hf
  exact wpAny_execs_nil hf
end
end M
set_option Elab.async false
set_option linter.all false
set_option maxRecDepth 100000
set_option maxHeartbeats 4000000
namespace M
open PySem PySem.Spec PyProof.Rows L2 PySem.Builtin PySem.Builtin.ObjectAttr
structure XGet (K:PySem.W.Frag) (C:Addr):Prop where
 over:fm K C=true
 ga:PySem.W.findIn K (.ref C) "__getattribute__"=some (some (.builtin "BaseException.__getattribute__"))
 hook:PySem.W.findIn K (.ref C) "__getattr__"=some none
 dict:PySem.W.hasDictIn K C=true
 cl:PySem.W.findIn K (.ref C) "__class__"=some (some (.builtin "object.__class__"))
 gt:PySem.W.specialIn K (.builtin "object.__class__") "__get__"=some (some (.builtin "getset_descriptor.__get__"))
 tk:PySem.W.takesIn K (.builtin "object.__class__")=some true
 ob:PySem.W.mroIn K C (.type "object")=some true
section
variable {prog:Program} {w:World} {A:Around} {E:Value→Shared→Prop} {s:Shared} {K:PySem.W.Frag} {x C:Addr} {name:Str} {v:Value} {ox:Obj} {od:Option Obj}
theorem cn {Q:Option Value→Shared→Prop} (c:XGet K C) (X:K.In s.heap) (I:PySem.W.InstAt s.heap x ox C od) (h:Q (some (.ref C)) { s with toks:=s.toks + 1}):wpAny (model prog w) A (getAttr? (.ref x) "__class__") Q E s:=by
 have ga:=F.attrBase_ValueError.ga
 have L0:=I.type (M:=model prog w)
 have L1:=PySem.W.looks_findIn (M:=model prog w) X c.ga
 have hf:PySem.W.findObj K C od "__class__"=some (.bind (.builtin "getset_descriptor.__get__") (.builtin "object.__class__")):=by
  obtain ⟨cd,hc,_⟩:=PySem.W.any_some c.dict
  unfold PySem.W.findObj
  rw [hc,Option.bind_some,c.cl,Option.bind_some]
  simp [c.gt,c.tk]
 have L2:=PySem.W.looks_find (M:=model prog w) X I hf
 unfold getAttr? getAttrBy? getAttrBy
 refine wpAny_bind (wpAny_mkText (wpAny_bind (wpAny_attempt (wpAny_holding (wpAny_bind (L0 _ _ _ _ (fun _ _ e=>e) (wpAny_bind (L1 _ _ _ _ (fun _ _ e=>e) ?_))))))))
 dsimp only
 rw [show (Value.builtin "BaseException.__getattribute__" == Value.builtin "object.__getattribute__")=false from by decide +kernel,Bool.and_false,if_neg (by decide)]
 refine wpAny_bind ((PySem.W.looks_hook X (r:=none) (by rw [if_pos (show onTheHeap (.ref C)=true from rfl)];exact c.hook)) _ _ _ _ (fun _ _ e=>e) (wpAny_bind (wpAny_attempt (wpAny_holding ?_))))
 unfold callGetattribute
 rw [show (false && onTheHeap (Value.builtin "BaseException.__getattribute__"))=false from rfl,if_neg (by decide)]
 unfold boundAndCalled
 rw [ga.bind]
 refine wpAny_bind (wpAny_pure ?_)
 show wpAny _ _ (call (.builtin "BaseException.__getattribute__") [.ref x,.str "__class__" s.toks]) _ _ _
 refine wpAny_call (codeAny_call_builtin ga.plain F.entry_bexc_ga ?_)
 refine @PySem.W.check_slot (model prog w) _ _ { s with toks:=s.toks + 1} "BaseException.__getattribute__" "BaseException" "__getattribute__" (.ref x) [.str "__class__" s.toks] [] _ (by decide +kernel) (by decide +kernel) (F8 (s:={ s with toks:=s.toks + 1}) X c.over I (by decide)) (F.args_bexc_ga _ _) ?_
 refine wpAny_bind (wpAny_pure (wpAny_bind (wpAny_pure (wpAny_bind (L0 _ _ _ _ (fun _ _ e=>e) (wpAny_bind (L2 _ _ _ _ (fun _ _ e=>e) ?_)))))))
 show wpAny _ _ (holding [Value.builtin "object.__class__"] (call (.builtin "getset_descriptor.__get__") [.builtin "object.__class__",.ref x,.ref C]) >>= ret) _ _ _
 refine wpAny_bind (wpAny_holding (wpAny_call (PySem.W.class_get (s:={ s with toks:=s.toks + 1}) (ox:=ox) (od:=od) X I c.ob ?_)))
 refine wpAny_pure ?_
 show wpAny _ _ (handedOut (.ref C)) _ _ _
 rw [PySem.W.handedOut_of (show PySem.W.handedIn (.ref C)=true from rfl)]
 exact wpAny_pure (wpAny_pure h)
theorem Bd (c:XGet K C):PySem.W.KitX K (.ref x) (.ref C) (fun h=>PySem.W.InstAt h x ox C od) where
 ty:=fun _ _ _ I=>I.type
 it:=fun _ _ X _=>by
  obtain ⟨cd,hcD,_⟩:=PySem.W.any_some c.dict
  unfold PySem.W.clsIn at hcD
  split at hcD
  ·rename_i ho
   intro A' Q' E' s' k q
   unfold isType loadHead
   exact wpAny_bind (wpAny_loadPart (k _ _ (X _ _ ho)) (wpAny_pure q))
  ·cases hcD
 ne:=fun h tp dd its n sl X htp=>by
  obtain ⟨cd,hcD,_⟩:=PySem.W.any_some c.dict
  refine Bool.eq_false_iff.mpr fun q=>?_
  have e:C=tp:=Value.ref.inj (beq_iff_eq.mp q)
  subst e
  unfold PySem.W.clsIn at hcD
  split at hcD
  ·rename_i ho
   have z:=(X _ _ ho).symm.trans htp
   cases z
  ·cases hcD
 ca:=fun X I k=>cn c X I k
end
theorem ao {P:Program} {w:World} {H:Hp} {h:Heap} {a dx C:Addr} {fs:List (Str×V)} (hok:HOk P w H h) (h1:H a=some (.ext (U9 a (.ref C) (some dx)))) (h2:H dx=some (.xd fs)) :
  ∃ (ox od:Obj) (mA:Str→Option Value),PySem.W.InstAt h a ox C (some od)∧(∀ f,Zt (fs.lookup f) (mA f))∧∀ name,PySem.W.lookIn name od=some (mA name):=by
 obtain ⟨⟨vs,sl,e⟩,-,-⟩:=hok a _ h1
 obtain ⟨mA,n,r⟩:=hok dx _ h2
 obtain ⟨od,ho,hl⟩:=vm n
 exact ⟨_,od,mA,⟨e,rfl,rfl,ho⟩,r,hl⟩
section
variable {X:Cx} {EX:EXT} {e:Expr} {m:MX} {pos:Pos}
noncomputable def mXat (ok:Str→Bool) (nm:Str) (m:MX):MX:=fun ρ μ=>(m ρ μ).bind fun d μ1=>match d with
 | .ref k=>match μ1[k]? with
  | some (.exn C j)=>match μ1[j]? with
   | some (.xdc nm' d')=>if ok C=true∧nm'=nm then .ok d' μ1 else .bad
   | _=>.bad
  | _=>.bad
 | _=>.bad
noncomputable def a34 (g:Str→Option Bool) (d:D) (μ1:Mu):Res D:=match d with
 | .ref k=>match μ1[k]? with
  | some (.exn C j)=>match μ1[j]? with
   | some (.xdc _ _)=>ofO μ1 ((g C).map .bl)
   | _=>.bad
  | some (.exz C)=>ofO μ1 ((g C).map .bl)
  | _=>.bad
 | _=>.bad
noncomputable def w8 (g:Str→Option Bool) (m:MX):MX:=fun ρ μ=>(m ρ μ).bind (a34 g)
noncomputable def XI (K:PySem.W.Frag) (H:Hp) (a:Addr) (C:Str):Prop:=(∃ dx fs,H a=some (.ext (U9 a (.ref (cA K C)) (some dx)))∧H dx=some (.xd fs))∨H a=some (.ext (U9 a (.ref (cA K C)) none))
theorem XI.inst {P:Program} {w:World} {K:PySem.W.Frag} {H:Hp} {h:Heap} {a:Addr} {C:Str} (x:XI K H a C) (hok:HOk P w H h):∃ ox od,PySem.W.InstAt h a ox (cA K C) od:=by
 rcases x with ⟨dx,fs,h1,h2⟩ | h1
 ·obtain ⟨ox,od,mA,J,_,_⟩:=ao hok h1 h2
  exact ⟨ox,some od,J⟩
 ·obtain ⟨⟨vs,sl,e⟩,_⟩:=hok a _ h1
  exact ⟨_,none,⟨e,rfl,rfl,trivial⟩⟩
theorem a8 {g:Str→Option Bool} {α:List Addr} {F:Hp} {Z:ZS} {Q:VK} {d:D} {μ1:Mu} {v:V} {α1:List Addr} {F1 H1:Hp} (R1:RH X.K Z α1 F1 H1 μ1) (e1:Ext α F α1 F1) (p1:Rep X.K F1 α1 d v)
  (g1:GE X.K EX Z α F Q (a34 g d μ1)):∃ a C b,v=.ref a∧g C=some b∧XI X.K H1 a C∧∀ v' α' F' H',RH X.K Z α' F' H' μ1→Ext α F α' F'→Rep X.K F' α' (.bl b) v'→Q v' H':=by
 cases d with
 | ref k =>
  unfold Rep at p1
  obtain ⟨a,ha,rfl⟩:=p1
  unfold a34 at g1
  dsimp only at g1
  split at g1
  ·rename_i C j hk
   split at g1
   ·rename_i nm' d' hj
    obtain ⟨_,dx,h3,h4⟩:=R1.cell k a _ ha hk
    obtain ⟨_,u,h5,h6⟩:=R1.cell j dx _ h3 hj
    cases hg:g C with
    | none=>rw [hg] at g1;exact g1.elim
    | some b =>
     rw [hg] at g1
     exact ⟨a,C,b,rfl,hg,.inl ⟨dx,_,h4,h5⟩,g1⟩
   ·exact g1.elim
  ·rename_i C hk
   obtain ⟨_,h4⟩:=R1.cell k a _ ha hk
   cases hg:g C with
   | none=>rw [hg] at g1;exact g1.elim
   | some b =>
    rw [hg] at g1
    exact ⟨a,C,b,rfl,hg,.inr h4,g1⟩
  ·exact g1.elim
 | _=>exact g1.elim
theorem ah {g:Str→Option Bool} {c:V} {cl:Value} (rc:J3 c cl) (hu:∀ u,J3 c u→u=cl) (hg:∀ C b,g C=some b→XGet X.K (cA X.K C)∧PySem.W.kitOne X.K (.ref (cA X.K C)) cl=some b) :
  qd X (.builtin "isinstance") (fun xs H Q=>∃ a C b,xs=[.ref a,c]∧g C=some b∧XI X.K H a C∧Q (.bl b) H):=by
 intro pins s σ H xs us Q I r h
 obtain ⟨a,C,b,rfl,hb,h1,q⟩:=h
 obtain ⟨u,w',rfl,r1,r2⟩:=Cq r
 obtain rfl:u=.ref a:=r1
 obtain rfl:=hu _ r2
 obtain ⟨ox,od,J⟩:=h1.inst I.hok
 obtain ⟨c',kit⟩:=hg C b hb
 exact PySem.W.kia_one (Bd (ox:=ox) (od:=od) c') I.kIn J kit (fun z=>nomatch z) fun tk=>⟨.bl b,H,I.tok _,rfl,q⟩
theorem vw {g:Str→Option Bool} {c:V} {cl:Value} {ec:Expr} {p:Pos} (rc:J3 c cl) (hu:∀ u,J3 c u→u=cl) (hc:PE X ec (tC c)) (hg:∀ C b,g C=some b→XGet X.K (cA X.K C)∧PySem.W.kitOne X.K (.ref (cA X.K C)) cl=some b)
  (hG:Gl X "isinstance") (hm:X.mg "isinstance"=none) (ha:ME X EX e m) (hs:starEach [e,ec] X.env=(false,eval e X.env)::starEach [ec] X.env:=by rfl) (hs2:starEach [ec] X.env=[(false,eval ec X.env)]:=by rfl) :
  ME X EX (.Call (.Name "isinstance" p) [e,ec] [] pos) (w8 g m):=by
 obtain ⟨t,pt,st⟩:=ha
 refine ⟨_,g9 (ah rc hu hg) hG hm PyProof.Rows.boot_isinstance (xm pt (xm hc fo hs2) hs) (by decide) (by decide) hs (by rw [hs2];rfl),fun Z α F H σ ρ μ Q R g=>?_⟩
 refine st Z α F H σ ρ μ _ R (GE.step (G:=GE X.K EX Z α F Q) g (fun _ _ h=>h) (fun h=>h) fun d μ1 v α1 F1 H1 R1 e1 p1 g1=>?_)
 obtain ⟨a,C,b,rfl,hb,h1,q⟩:=a8 R1 e1 p1 g1
 exact ⟨a,C,b,rfl,hb,h1,q _ α1 F1 H1 R1 e1 (Yh _)⟩
theorem Bl {g:Str→Option Bool} {x:Str} {T:Addr} {p p2:Pos} (hg2:Gl X x) (hm2:X.mg x=some (.ref T)) (hg:∀ C b,g C=some b→XGet X.K (cA X.K C)∧PySem.W.kitOne X.K (.ref (cA X.K C)) (.ref T)=some b)
  (hG:Gl X "isinstance") (hm:X.mg "isinstance"=none) (ha:ME X EX e m) (hd:(x == ("__debug__":Str))=false:=by decide) (hs:starEach [e,.Name x p2] X.env=(false,eval e X.env)::starEach [.Name x p2] X.env:=by rfl) :
  ME X EX (.Call (.Name "isinstance" p) [e,.Name x p2] [] pos) (w8 g m) :=
 vw (c:=.ref T) (cl:=.ref T) rfl (fun u r=>r) (E3 hg2 hm2 rfl hd) hg hG hm ha hs
theorem a21 {g:Str→Option Bool} {x:Str} {T:String} {p p2:Pos} (hg2:Gl X x) (hm2:X.mg x=none) (hv:bootBuiltins x=some (.type T)) (hg:∀ C b,g C=some b→XGet X.K (cA X.K C)∧PySem.W.kitOne X.K (.ref (cA X.K C)) (.type T)=some b)
  (hG:Gl X "isinstance") (hm:X.mg "isinstance"=none) (ha:ME X EX e m) (hn:x≠"__name__":=by decide) (hd:(x == ("__debug__":Str))=false:=by decide) (hs:starEach [e,.Name x p2] X.env=(false,eval e X.env)::starEach [.Name x p2] X.env:=by rfl) :
  ME X EX (.Call (.Name "isinstance" p) [e,.Name x p2] [] pos) (w8 g m) :=
 vw (c:=.ty T) (cl:=.type T) rfl (fun u r=>r) (Aa hg2 hm2 hv rfl hn hd) hg hG hm ha hs
end
end M
set_option Elab.async false
set_option linter.all false
set_option maxRecDepth 100000
set_option maxHeartbeats 4000000
namespace M
open PySem PySem.Spec PyProof.Rows L2
structure Ch (X:Cx) (N G:List Str):Prop where
 hN:X.N=N
 nd:N.Nodup
 loc:∀ x∈N,Loc X.env.scope x∧(x == ("__debug__":Str))=false∧(x == ("__classdict__":Str))=false
 gl:∀ x∈G,Gl X x
 fn:∀ x,X.fn x=true
 un:X.A.units + 200 < cLine
section
variable {X:Cx} {EX:EXT} {N G:List Str}
theorem ar7 {a:Addr} {pn:List (Addr×Obj)} (C:Ct X N G):Ch (hand X a pn) N G:=⟨C.hN,C.nd,C.loc,C.gl,C.fn,C.un⟩
theorem a50 {pn:List (Addr×Obj)} {xe:Value→Shared→Prop} {f:Str→Option Value} (C:Ct X N G):Ct (tryK X pn xe f) N G:=⟨C.hN,C.nd,C.loc,C.gl,C.fn,C.calm,C.un⟩
theorem K8 {pn:List (Addr×Obj)} {xe:Value→Shared→Prop} (C:Ct X N G):Ct (tryX X pn xe) N G:=⟨C.hN,C.nd,C.loc,C.gl,C.fn,C.calm,C.un⟩
theorem Ch.at (C:Ch X N G) {i:Nat} {x:Str} (h:N[i]? =some x):X.N[i]? =some x:=by rw [C.hN];exact h
theorem Ch.ndX (C:Ch X N G):X.N.Nodup:=by rw [C.hN];exact C.nd
theorem svh (C:Ch X N G) (i:Nat) {x:Str} {pos:Pos} (h:N[i]? =some x):ME X EX (.Name x pos) (mVar i) :=
 ff (C.at h) (Loc.vis (C.loc x (uu h)).1) (C.loc x (uu h)).2.1 (C.loc x (uu h)).2.2
theorem sah (C:Ch X N G) (i:Nat) {x:Str} {pos pos':Pos} {e:Expr} {m:MX} (h:N[i]? =some x) (he:ME X EX e m) (hs:swapsWith e (some (.Name x pos')) pos.line X.env=pure false:=by rfl) (hk:X.kn=none:=by rfl) :
  MS X EX (.Assign [.Name x pos'] e pos) (Ju i m):=Br ⟨C.ndX,hk⟩ (C.at h) (C.loc x (uu h)).1 (.inl (C.fn x)) he hs
end
section
variable {P:Program} {w:World} {K:PySem.W.Frag} {mg:Str→Option Value} {base:Heap} {xc:XCs}
theorem K9 {CX:CXT} {N G:List Str} {qual:Str} {sc:Scope} {f:Addr} {cdv:Value} {A:Around} {outer:List Env} {s:Shared} {H:Hp} {E:XK} {k:Nat} (nd:N.Nodup)
  (loc:∀ x∈N,Loc sc x∧(x == ("__debug__":Str))=false∧(x == ("__classdict__":Str))=false) (gl:∀ x∈G,sc.names.lookup x=some .globalImplicit) (hr:Room k (A.deeper (envOfC qual sc s.heap.objs.size f cdv))) :
  Ct (ub CX P w K mg base N qual sc f cdv A outer s H E) N G :=
 ⟨rfl,nd,loc,gl,fun _=>rfl,rfl,by have:=hr.un;show (A.deeper _).units + 200 < cLine;omega⟩
noncomputable def V4 (P:Program) (w:World) (K:PySem.W.Frag) (mg:Str→Option Value) (base:Heap) (xc:XCs) (x:Str) (k n:Nat) (φ:Fn):Prop :=
 ∃ f fd ps,mg x=some (.ref f)∧PySem.W.keepIn K (.ref f)=true∧Yt fd ps∧ps.length=n∧FnOk P w K mg base (CXR P w) k f fd ps (spX K xc n φ)
theorem aq {x:Str} {st:Stmt} {N ps:List Str} {k j n:Nat} {b:MSt} {f:Addr} {fd:FuncData} (F:Fun K x x st f fd) (S:FnScope N ps (defScope st)) (hj:N.length - ps.length=j) (hn:ps.length=n)
  (hb:∀ (cdv:Value) (A:Around) (outer:List Env) (s:Shared) (H:Hp) (E:XK),Room k (A.deeper (envOfC x (defScope st) s.heap.objs.size f cdv)) →
   MSs (ub (CXR P w) P w K mg base N x (defScope st) f cdv A outer s H E) (exT K xc E) (defBody st) b):FnOk P w K mg base (CXR P w) (k + 1) f fd ps (spX K xc n (fnOf j b)):=by
 subst hn
 exact ai5 F S hj hb
theorem qq {x:Str} {st:Stmt} {ps:List Str} {k n:Nat} {φ:Fn} (D:Jp K mg x st ps) (hn:ps.length=n)
  (hb:∀ (f:Addr) (fd:FuncData),Fun K x x st f fd→FnOk P w K mg base (CXR P w) k f fd ps (spX K xc n φ)):V4 P w K mg base xc x k n φ:=by
 obtain ⟨f,fd,h1,h2,h3⟩:=D
 exact ⟨f,fd,ps,h1,h2.kp,h3,hn,hb f fd h2⟩
theorem w5 {X:Cx} {x:Str} {p pos:Pos} {k n:Nat} {φ:Fn} {e:Expr} {es:List Expr} {ms:MAs} {E:XK} (F:V4 X.prog X.w X.K X.mg X.base xc x k n φ) (hx:yu (CXR X.prog X.w) X E) (hr:Room k X.A) (hg:Gl X x)
  (ha:MA X (exT X.K xc E) (e::es) ms) (hl:(e::es).length=n) (hdb:(x == ("__debug__":Str))=false:=by decide) (he:starEach (e::es) X.env=(false,eval e X.env)::starEach es X.env:=by rfl) (hpl:(backTo pos (starEach es X.env)).any (·.1)=false:=by rfl) :
  ME X (exT X.K xc E) (.Call (.Name x p) (e::es) [] pos) (yj φ ms):=by
 obtain ⟨f,fd,ps,h1,h2,h3,h4,h5⟩:=F
 subst h4
 exact Bi hx h5 hr hg h1 h2 (.all h3) ha hl hdb he hpl
noncomputable def a89 (K:PySem.W.Frag) (mg:Str→Option Value) (x:Str):Prop:=mg x=some (.ref (cA K x))∧Hnd K (cA K x)
noncomputable def Dz (K:PySem.W.Frag) (mg:Str→Option Value) (x:Str):Prop:=mg x=some (.ref (cA K x))
noncomputable def A0 (N:List Str) (sc:Scope):Bool:=N.all fun x=>sc.names.lookup x == some .local
theorem Bs {X:Cx} {EX:EXT} {N G:List Str} {i ie:Nat} {x xn nE:Str} {ok:Nat→Bool} {e:Expr} {suite:List Stmt} {b0:Stmt} {ne:MX} {ns:MSt} {p1 hp pos pos' apos:Pos} (C:Ct X N G) (h:a89 X.K X.mg xn) (hg:Gl X xn) (hlo:A0 N X.env.scope=true) (hix:N[i]? =some x) (hi:N[ie]? =some nE)
  (hok:∀ k,ok k=true→PySem.W.subIn X.K (.ref (cA X.K (xc k).1)) (.ref (cA X.K xn))=some true)
  (hb:∀ pn xe f E,yu (CXR X.prog X.w) (tryK X pn xe f) E→Ct (tryK X pn xe f) N G→ME (tryK X pn xe f) (exT X.K xc E) e ne) (hs:∀ a pn,Ch (hand X a pn) N G→MSs (hand X a pn) NoX (b0::suite) ns)
  (hsw:swapsWith e (some (.Name x pos')) apos.line X.env=pure false:=by rfl) (hst:X.stack=X.env::X.outer:=by rfl) (hfr:X.env.frame=some X.env.locals:=by rfl) (hk:X.kn=none:=by rfl) (hkd:∀ x,X.env.kindOf x=X.env.scope.names.lookup x:=by intro _;rfl) (hdb:(xn == ("__debug__":Str))=false:=by decide) :
  MS X EX (.Try [.Assign [.Name x pos'] e apos] [.ExceptHandler (some (.Name xn p1)) (some nE) (b0::suite) hp] [] [] pos) (Ya i ie ok xc ne ns):=by
 have lo:∀ y∈N,X.env.scope.names.lookup y=some .local:=fun y hy=>by have:=List.all_eq_true.mp hlo y hy;simpa using this
 exact a17 hst hfr ⟨C.ndX,hk⟩ (fun y hy=>by rw [C.hN] at hy;rw [hkd];exact lo y hy) (C.at hix) (C.at hi) (lo nE (uu hi)) (C.loc x (uu hix)).1 (C.fn x) h.2 hg h.1 hok (fun pn xe f E hx=>hb pn xe f E hx (a50 C)) (fun a pn=>hs a pn (ar7 C)) hsw hdb
theorem of_mem {L:List Str} {Q:Str→Prop} (h:∀ x∈L,Q x) (C:Str) (hc:L.contains C=true):Q C:=h C (List.contains_iff_mem.mp hc)
theorem Vn {L:List (Str×Bool)} {Q:Str→Bool→Prop} (h:∀ x∈L,Q x.1 x.2) (C:Str) (b:Bool) (hc:L.lookup C=some b):Q C b:=h (C,b) (PySem.mem_of_lookup hc)
end
theorem boot_ValueError:bootBuiltins "ValueError"=some (.type "ValueError"):=by decide +kernel
noncomputable def a51:Stmt→List Stmt
 | .ClassDef _ _ _ b .. =>b
 | _=>[]
end M
set_option Elab.async false
set_option linter.all false
set_option maxRecDepth 100000
set_option maxHeartbeats 4000000
namespace M
open PySem PySem.Spec PyProof.Rows L2
theorem A8 {K:PySem.W.Frag} {φ:Fn} {H:Hp} {a:Addr} {ns:List Int} (hS:SqL K H a (ns.map V.int)) (h:∃ μ,φ [.lst (ns.map .int)] []=.ok (.bl true) μ):spM K 1 φ [.ref a] H (fun v _=>v=.bl true) (fun _ _ _=>False):=by
 obtain ⟨μ,h⟩:=h
 refine ⟨⟨fun _=>none,[],fun _=>none⟩,[],H,[.lst (ns.map .int)],[],⟨J4.refl H,rfl,fun k a c hk=>(by simp at hk),fun b o e=>(by cases e),fun b o e=>(by cases e),fun k a c hk=>(by simp at hk),fun j k a c c' hk=>(by simp at hk),⟨fun b o e=>(by cases e),fun k a hk=>(by simp at hk)⟩⟩,?_,rfl,?_⟩
 ·refine j6 ?_ jo
  unfold Rep
  exact ⟨a,_,rfl,hS,v5 ns⟩
 ·rw [h]
  intro v α' F' H' _ _ r
  unfold Rep at r
  exact r
theorem walk_lawM {l:PySem.W.OpenLaw} {q:Program} {loose:List Str} {XP:(Str→Option Value)→Heap→Prop} {YP:World→Heap→Prop} {d:DefRec} {K:Params→PySem.W.Frag} {k:Nat} {x:Str} {φ:Fn} (hn:l.most=some 63) (hdf:d.params.defaults=[]) (hr:Room k callerA)
  (hY:∀ (w:World) (h:Heap),YP w h→(K w.params).In h)
  (F:∀ (w:World) (mg:Str→Option Value) (fa:Addr) (h:Heap),(K w.params).In h→h.Ns mainGlobals mg→mg d.name=some (.ref fa) →
   ∃ fd:FuncData,Yt fd [x]∧∀ base:Heap,FnOk l.prog w (K w.params) mg base CX0 k fa fd [x] (spM (K w.params) 1 φ))
  (hlaw:∀ ns:List Int,ns.length≤63→∃ μ,φ [.lst (ns.map .int)] []=.ok (.bl true) μ) :
  PySem.W.WalkO q loose XP YP l.row.toRowW d [] (fun f vs=>PySem.call f vs) :=
 L2.walk_of (n:=63) (k:=k) (x:=x) (CX:=fun _=>CX0) (sp:=fun w=>spM (K w.params) 1 φ) hn (by decide) hdf hr hY
  (fun w mg fa h hK hG hm=>by
   obtain ⟨fd,hb,hf⟩:=F w mg fa h hK hG hm
   exact ⟨fd,fun s u=>.of_eq (hb [u] rfl),fun base _ _=>hf base⟩)
  (fun w H a ns hl _ hS=>A8 hS (hlaw ns hl)) fun _ _ _ _ _ z=>z
end M
set_option Elab.async false
set_option linter.all false
set_option maxRecDepth 100000
set_option maxHeartbeats 4000000
namespace M
open PySem PySem.Spec PyProof.Rows L2
noncomputable def Gj (h:Heap) (e:Addr) (C:Value) (dx:Option Addr) (tr:Option Addr) (L:Addr):Prop :=
 qe h e C dx tr∨∃ T vs sl,tr=some T∧h.get? e=some ⟨C,dx,.fields vs,sl⟩∧1 < vs.size∧vs[1]? =some (.ref T)∧T≠e∧∃ oT ts,h.get? T=some oT∧oT.data=.fields ts∧ts[3]? =some (rawInt L)
theorem Gj.p {h:Heap} {e:Addr} {C:Value} {dx tr:Option Addr} {L:Addr} (x:Gj h e C dx tr L):U9 e C dx h:=by
 rcases x with x | ⟨T,vs,sl,_,e,_⟩
 ·exact x.p
 ·exact ⟨vs,sl,e⟩
section
variable {Md:Model} {A:Around} {E:Value→Shared→Prop} {s:Shared} {base:Heap} {env:Env} {outer:List Env} {L e:Addr}
theorem W4 {C:Value} {dx:Option Addr} {vs:Array Value} {sl:Array (Option Value)} {head:Value} {had:Bool} {Q:Unit→Shared→Prop} (hfr:A.frames=some (env::outer)) (hl:s.heap.FunFrames base (env::outer)) (hf:env.frame=some L)
  (he:s.heap.get? e=some ⟨C,dx,.fields vs,sl⟩) (hz:1 < vs.size) (q:∀ h' T,Gj h' e C dx (some T) L→s.heap.objs.size≤T→Noted (frs (env::outer)) e none s.heap h'→Q () { s with heap:=h'}) :
  wpAny Md A (do let a ← frameOf env;let pl ← entryPlaceOf L had;let b ← EntryCells.newEntry head a .none (rawInt L) .none pl;setField (.ref e) 1 b) Q E s:=by
 have nf:e∉(env::outer).filterMap (·.frame):=fun hm=>by
  obtain ⟨_,o,ho,hn⟩:=hl.mem hm
  rw [he] at ho
  cases ho
  exact hn vs rfl
 refine wpAny_bind (wpAny_frameOf_fun hfr hl hf fun h1 so=>wpAny_bind (wpAny_entryPlaceOf fun pl hpl=>?_))
 unfold EntryCells.newEntry newFields
 refine wpAny_bind (wpAny_newObj_type ?_ (hpl.sizeOk5 _ _ _ _ _))
 generalize hts:([head,Value.ref L,Value.none,rawInt L,Value.none]++if pl.isEmpty=true then List.replicate 6 Value.none else pl).toArray=ts
 have t3:ts[3]? =some (rawInt L):=by rw [← hts];simp
 have e1:h1.get? e=some ⟨C,dx,.fields vs,sl⟩:=(so.2.1 e nf).trans he
 have nT:h1.objs.size≠e:=Nat.ne_of_gt (Heap.lt_size e1)
 have e2:=Heap.get?_push_of_some (h:=h1) { cls:=.type "traceback",data:=.fields ts} e1
 refine wpAny_setField e2 rfl hz (q _ h1.objs.size ?_ ?_ ?_)
 ·refine .inr ⟨h1.objs.size,vs.setIfInBounds 1 (.ref h1.objs.size),sl,rfl,Heap.get?_update_self _ e2 rfl,by simpa using hz,by simp [hz],nT,_,ts,(Heap.get?_update_other _ _ (Ne.symm nT)).trans (Heap.get?_push_size h1 rfl),rfl,t3⟩
 ·exact Nat.le_of_eq so.1.symm
 ·have up:∀ b o,h1.get? b=some o→b≠e→((h1.push { cls:=.type "traceback",data:=.fields ts}).update e (Obj.mapFields (·.setIfInBounds 1 (.ref h1.objs.size)))).get? b=some o:=fun b o hb hbe=>by
   rw [Heap.get?_update_other _ _ (Ne.symm hbe)]
   exact Heap.get?_push_of_some _ hb
  refine ⟨fun b o hb hn hbe _=>up b o ((so.2.1 b hn).trans hb) hbe,fun b o hb hbe _=>?_⟩
  obtain ⟨sl',e'⟩:=so.2.2 b o hb
  exact ⟨sl',up b _ e' hbe⟩
theorem Ew {C:Value} {dx tr:Option Addr} {Q:Unit→Shared→Prop} (hfr:A.frames=some (env::outer)) (hl:s.heap.FunFrames base (env::outer)) (hf:env.frame=some L) (x:Gj s.heap e C dx tr L)
  (q:∀ h' T,Gj h' e C dx (some T) L→(s.heap.objs.size≤T∨tr=some T)→Noted (frs (env::outer)) e tr s.heap h'→Q () { s with heap:=h'}) :
  wpAny Md A (noteFrame (.ref e) env) Q E s:=by
 rcases x with ⟨vs,sl,he,hz,ht⟩ | ⟨T,vs,sl,rfl,he,hz,h1,ne,oT,ts,hT,hd,h3⟩
 ·unfold noteFrame
  simp only [hf]
  cases tr with
  | none =>
   refine wpAny_bind (wpAny_field he rfl ht ?_)
   rw [if_neg (by decide)]
   exact W4 hfr hl hf he hz fun h' T x' n' N=>q h' T x' (.inl n') N
  | some T0 =>
   obtain ⟨h1,hne,oT,ts,hT,hd,h3⟩:=ht
   refine wpAny_bind (wpAny_field he rfl h1 ?_)
   rw [if_pos (by simp)]
   refine wpAny_bind (wpAny_field hT hd h3 ?_)
   rw [if_neg (by simp [rawInt])]
   refine wpAny_bind (wpAny_setField hT hd (Array.getElem?_eq_some_iff.mp h3).1 ?_)
   have ot:∀ b,b≠T0→(s.heap.update T0 (Obj.mapFields (·.setIfInBounds 3 Value.none))).get? b=s.heap.get? b:=fun b hb=>Heap.get?_update_other _ _ (Ne.symm hb)
   have nr:∀ b o,s.heap.get? b=some o→(∀ vs,o.data≠.fields vs)→b≠T0:=fun b o hb hn z=>by
    rw [z,hT] at hb
    cases hb
    exact hn ts hd
   refine W4 (s:={ s with heap:=s.heap.update T0 (Obj.mapFields (·.setIfInBounds 3 Value.none))}) hfr (hl.of_keeps fun b o hb hn=>⟨o,(ot b (nr b o hb hn)).trans hb,rfl⟩) hf ((ot e (Ne.symm hne)).trans he) hz fun h' T x' n' N=>q h' T x' (.inl ?_) ?_
   ·have n2:(s.heap.update T0 (Obj.mapFields (·.setIfInBounds 3 Value.none))).objs.size≤T:=n'
    rw [Heap.size_update] at n2
    exact n2
   ·exact ⟨fun b o hb hn hbe hbt=>N.keep b o ((ot b fun z=>hbt (by rw [z])).trans hb) hn hbe (by simp),fun b o hb hbe hbt=>N.slot b o ((ot b fun z=>hbt (by rw [z])).trans hb) hbe (by simp)⟩
 ·exact wpAny_noteFrame_inFlight hf he rfl h1 hT hd h3 (q s.heap T (.inr ⟨T,vs,sl,rfl,he,hz,h1,ne,oT,ts,hT,hd,h3⟩) (.inr rfl) ⟨fun b o hb _ _ _=>hb,fun b o hb _ _=>⟨o.slots,hb⟩⟩)
theorem W3 {C:Value} {dx:Option Addr} {T:Addr} {fl:Option Addr} {Q:Unit→Shared→Prop} (x:Gj s.heap e C dx (some T) L) (hfl:fl=none∨fl=some L)
  (q:∀ h',Gj h' e C dx (some T) L→(fl=none→qe h' e C dx (some T))→Noted [] e (some T) s.heap h'→Q () { s with heap:=h'}):wpAny Md A (setFlight (.ref e) fl) Q E s:=by
 obtain ⟨vs,sl,he,hz,h1,ne,oT,ts,hT,hd,z3⟩:∃ vs sl,s.heap.get? e=some ⟨C,dx,.fields vs,sl⟩∧1 < vs.size∧vs[1]? =some (.ref T)∧T≠e∧∃ oT ts,s.heap.get? T=some oT∧oT.data=.fields ts∧3 < ts.size:=by
  rcases x with ⟨vs,sl,he,hz,h1,ne,oT,ts,hT,hd,h3⟩ | ⟨T',vs,sl,eT,he,hz,h1,ne,oT,ts,hT,hd,h3⟩
  ·exact ⟨vs,sl,he,hz,h1,ne,oT,ts,hT,hd,(Array.getElem?_eq_some_iff.mp h3).1⟩
  ·cases eT;exact ⟨vs,sl,he,hz,h1,ne,oT,ts,hT,hd,(Array.getElem?_eq_some_iff.mp h3).1⟩
 obtain ⟨w,hw⟩:∃ w:Value,w=fl.elim Value.none fun f=>rawInt f:=⟨_,rfl⟩
 have ot:∀ b o,s.heap.get? b=some o→b≠T→(s.heap.update T (Obj.mapFields (·.setIfInBounds 3 w))).get? b=some o:=fun b o hb n=>(Heap.get?_update_other _ _ (Ne.symm n)).trans hb
 have nw:(s.heap.update T (Obj.mapFields (·.setIfInBounds 3 w))).get? T=some (Obj.mapFields (·.setIfInBounds 3 w) oT):=Heap.get?_update_self _ hT (by
  obtain ⟨c,d,dt,sl⟩:=oT
  cases hd
  rfl)
 have nd:(Obj.mapFields (·.setIfInBounds 3 w) oT).data=.fields (ts.setIfInBounds 3 w):=by
  obtain ⟨c,d,dt,sl⟩:=oT
  cases hd
  rfl
 have n3:(ts.setIfInBounds 3 w)[3]? =some w:=by simp [z3]
 have kp:Noted [] e (some T) s.heap (s.heap.update T (Obj.mapFields (·.setIfInBounds 3 w))):=⟨fun b o hb _ _ hn=>ot b o hb fun z=>hn (by rw [z]),fun b o hb _ hn=>⟨o.slots,ot b o hb fun z=>hn (by rw [z])⟩⟩
 unfold setFlight
 refine wpAny_bind (wpAny_field he rfl h1 ?_)
 rw [if_pos (show (Value.ref T != Value.none)=true from by simp),← hw]
 refine wpAny_setField hT hd z3 ?_
 rcases hfl with rfl | rfl
 ·have hw:w=.none:=hw
  subst hw
  have xo:qe (s.heap.update T (Obj.mapFields (·.setIfInBounds 3 .none))) e C dx (some T):=⟨vs,sl,ot _ _ he (Ne.symm ne),hz,h1,ne,_,_,nw,nd,n3⟩
  exact q _ (.inl xo) (fun _=>xo) kp
 ·have hw:w=rawInt L:=hw
  subst hw
  exact q _ (.inr ⟨T,vs,sl,rfl,ot _ _ he (Ne.symm ne),hz,h1,ne,_,_,nw,nd,n3⟩) (fun z=>by cases z) kp
end
section
variable {X:Cx} {pins:List (Addr×Obj)} {σ:L2.St} {H:Hp} {s:Shared} {h h':Heap} {a:Addr} {C:Value} {dx tr:Option Addr} {fs:List Addr} {P:Program} {w:World}
theorem wo (x:HOk P w H h) (ha:H a=some (.ext (U9 a C dx))) (ht:∀ T,tr=some T→H T=none) (xo:U9 a C dx h') (N:Noted fs a tr h h') (hf:∀ b∈fs,H b=none):HOk P w H h':=fun b u e=>by
 by_cases hb:b=a
 ·subst hb
  rw [ha] at e
  cases e
  exact Fv xo
 ·refine (x b u e).stay (fun c v hc q=>?_) (fun _ q=>q) fun _ _ q=>q
  have hn:∃ u',H c=some u'∧c≠a:=by
   rcases hc with rfl | hc
   ·exact ⟨u,e,hb⟩
   ·exact ⟨_,hc,fun z=>by rw [z,ha] at hc;cases hc⟩
  obtain ⟨u',e',hca⟩:=hn
  exact N.keep c v q (fun z=>by rw [hf c z] at e';cases e') hca (fun z=>by rw [ht c z] at e';cases e')
theorem Zy (I:Inv X pins σ H s) (xo:U9 a C dx h') (N:Noted fs a tr s.heap h') (hfs:∀ b∈fs,b∈frs X.stack) (ha:H a=some (.ext (U9 a C dx)))
  (ht:∀ T,tr=some T→H T=none∧X.s₀.heap.objs.size≤T∧T≠X.env.locals∧(∀ x c,X.env.cells.lookup x=some c→c≠T)∧∀ p∈X.pn++pins,p.1≠T):Inv X pins σ H { s with heap:=h'}:=by
 have na:∀ b,H b=none→b≠a:=fun b n z=>by rw [z,ha] at n;cases n
 refine I.call' (s':={ s with heap:=h'}) (ch:=tr.toList) rfl ⟨fun b o q n hc hx=>?_,fun b o q n hc hx=>?_,fun b o q n hx=>n,fun b o q hx=>?_,fun b xs q=>q,fun b o u q=>q,fun b ps q=>⟨#[],by rw [q];simp⟩⟩
  (wo I.hok ha (fun T z=>(ht T z).1) xo N fun b hb=>I.stkFree b (hfs b hb)) I.bare fun b hb=>?_
 ·exact N.keep b o q (fun z=>hc (hfs b z)) (na b n) fun z=>hx (by rw [z];simp)
 ·obtain ⟨sl,e⟩:=N.slot b o q (na b n) fun z=>hx (by rw [z];simp)
  exact ⟨sl,e⟩
 ·by_cases z:b=a
  ·obtain ⟨vs,sl,e⟩:=xo
   exact ⟨_,by rw [z];exact e⟩
  ·obtain ⟨sl,e⟩:=N.slot b o q z fun z=>hx (by rw [z];simp)
   exact ⟨_,e⟩
 ·have z:tr=some b:=by
   cases tr with
   | none=>cases hb
   | some T=>simp at hb;rw [hb]
  obtain ⟨_,h1,h2,h3,h4⟩:=ht b z
  exact ⟨.inr h1,h2,h3,h4⟩
end
inductive Rzp (X:Cx) (E:XK) (e:Value) (s':Shared):Prop
 | mk (pins:List (Addr×Obj)) (σ:L2.St) (H':Hp) (a:Addr) (C:Value) (dx tr:Option Addr):e=.ref a→Inv X pins σ H' s'→Gj s'.heap a C dx tr X.env.locals→H' a=some (.ext (U9 a C dx)) →
 (∀ T,tr=some T→H' T=none∧X.s₀.heap.objs.size≤T∧T≠X.env.locals∧(∀ x c,X.env.cells.lookup x=some c→c≠T)∧∀ p∈X.pn++pins,p.1≠T)→X.s₀.heap.objs.size≤a→E e (some a) H'→Rzp X E e s'
noncomputable abbrev Rz (X:Cx) (E:XK):Value→Shared→Prop:=Rzp X E
section
variable {X:Cx} {E:XK}
theorem Qv {xe:Value→Shared→Prop} {pins:List (Addr×Obj)} {σ:L2.St} {H:Hp} {s:Shared} (I:Inv (tryX X X.pn xe) pins σ H s) (ok:X.Ok):Inv X pins σ H s:=⟨ok,I.os,I.bare,I.base,I.loc,I.cell,I.free,I.freeC,I.pin,I.hok,I.len,I.fx⟩
theorem ah9 {xe:Value→Shared→Prop} {pins:List (Addr×Obj)} {σ:L2.St} {H:Hp} {s:Shared} (I:Inv X pins σ H s):Inv (tryX X X.pn xe) pins σ H s:=⟨Cx.Ok.tryX I.ok,I.os,I.bare,I.base,I.loc,I.cell,I.free,I.freeC,I.pin,I.hok,I.len,I.fx⟩
theorem Vs (hst:X.stack=X.env::X.outer) (hfr:X.env.frame=some X.env.locals):PassesOwn (model X.prog X.w) X.A X.env (Rz X E):=by
  rintro e s' ⟨pins,σ,H',a,C,dx,tr,rfl,I,x,ha,ht,na,hE⟩
  have fr:X.A.frames=some (X.env::X.outer):=by have:=I.ok.frames;rw [hst] at this;exact this
  have st:s'.heap.FunFrames X.base (X.env::X.outer):=by have:=I.stack;rw [hst] at this;exact this
  show wpAny _ _ (noteFrame (.ref a) X.env) _ _ s'
  refine Ew fr st hfr x fun h1 T x1 hT N1=>?_
  have I1:=Zy I x1.p N1 (fun b hb=>by rw [hst];exact hb) ha ht
  have fT:H' T=none∧X.s₀.heap.objs.size≤T∧T≠X.env.locals∧(∀ x c,X.env.cells.lookup x=some c→c≠T)∧∀ p∈X.pn++pins,p.1≠T:=by
    rcases hT with hT | hT
    · exact ⟨I.hok.fresh hT,qt I hT⟩
    · exact ht T hT
  obtain ⟨vs,sl,he,h1'⟩:∃ vs sl,h1.get? a=some ⟨C,dx,.fields vs,sl⟩∧vs[1]? =some (.ref T):=by
    rcases x1 with ⟨vs,sl,he,hz,h1',_⟩ | ⟨T',vs,sl,eT,he,hz,h1',_⟩
    · exact ⟨vs,sl,he,h1'⟩
    · cases eT;exact ⟨vs,sl,he,h1'⟩
  show wpAny _ _ (do if (← field (.ref a) 1) == .none then unsupported "frame.own-activation:exception-without-traceback"
                     setFlight (.ref a) X.env.frame) _ _ _
  refine wpAny_bind (wpAny_field he rfl h1' ?_)
  rw [if_neg (by simp)]
  show wpAny _ _ (setFlight (.ref a) X.env.frame) _ _ _
  refine (W3 (s:={ s' with heap:=h1}) x1 (.inr hfr) fun h2 x2 _ N2=>?_)
  exact ⟨pins,σ,H',a,C,dx,some T,rfl,Zy I1 x2.p N2 (fun b hb=>by cases hb) ha (fun T' z=>by cases z;exact fT),x2,ha,fun T' z=>by cases z;exact fT,na,hE⟩
theorem Vt:yu (CXR X.prog X.w) (tryX X X.pn (Rz X E)) E:=by
 intro pins σ H1 s1 e s' I h
 obtain ⟨a,C,dx,T,H',rfl,os,bare,un,hok,x,ha,hT,na,nT,hE⟩:=h
 have ok:X.Ok:=⟨I.ok.mod,I.ok.kind,I.ok.glob,I.ok.blt,I.ok.above,I.ok.inj,I.ok.has,I.ok.cab,I.ok.hd,I.ok.frames,I.ok.stk,I.ok.exf,I.ok.bs,I.ok.bsz,I.ok.noex,I.ok.exfs,I.ok.funs,I.ok.frf⟩
 have I':=I.call' (ch:=[]) os un hok bare fun b z=>absurd z (by simp)
 exact ⟨pins,σ,H',a,C,dx,some T,rfl,Qv I' ok,.inl x,ha,fun T' z=>by cases z;exact ⟨hT,qt I nT⟩,Nat.le_trans I.sz na,hE⟩
end
section
variable {P:Program} {w:World} {K:PySem.W.Frag} {mg:Str→Option Value} {base:Heap} {N:List Str} {qual:Str} {sc:Scope} {f:Addr} {cdv:Value} {A:Around} {outer:List Env} {s:Shared} {H:Hp} {E:XK}
theorem Bf {e:Value} {s':Shared} (h:Rz (ub (CXR P w) P w K mg base N qual sc f cdv A outer s H E) E e s'):(ub (CXR P w) P w K mg base N qual sc f cdv A outer s H E).xe e s':=by
 obtain ⟨pins,σ,H',a,C,dx,tr,rfl,I,x,ha,ht,na,hE⟩:=h
 show wpAny _ _ (leaving _ (.ref a)) _ _ s'
 unfold leaving
 refine wpAny_bind (Ew (L:=s.heap.objs.size) I.ok.frames I.stack rfl x fun h1 T x1 hT N1=>?_)
 have I1:=Zy I x1.p N1 (fun b hb=>hb) ha ht
 have fT:H' T=none∧s.heap.objs.size≤T:=by
  rcases hT with hT | hT
  ·exact ⟨I.hok.fresh hT,Nat.le_trans I.sz hT⟩
  ·exact ⟨(ht T hT).1,(ht T hT).2.1⟩
 refine W3 (s:={ s' with heap:=h1}) x1 (.inl rfl) fun h2 x2 xo N2=>?_
 have xo:=xo rfl
 refine ⟨a,C,dx,T,H',rfl,I.os,I.bare,?_,wo (fs:=[]) (tr:=some T) I1.hok ha (fun T' z=>by cases z;exact fT.1) xo.p N2 (fun b hb=>by cases hb),xo,ha,fT.1,na,fT.2,hE⟩
 have n0:s.heap.get? a=none:=Heap.get?_none_of_le na
 have nT0:s.heap.get? T=none:=Heap.get?_none_of_le fT.2
 have u1:Un (frs outer) [] H H' s.heap h1:=Cn (L:=s.heap.objs.size) I.base N1 rfl (Heap.get?_none_of_le (Nat.le_refl _)) (Heap.get?_none_of_le na) (fun T' z=>Heap.get?_none_of_le (ht T' z).2.1)
 refine ⟨fun b o q n hc hx=>N2.keep b o (u1.keep b o q n hc hx) (by simp) (fun z=>by rw [z,n0] at q;cases q) (fun z=>by cases z;rw [nT0] at q;cases q),fun b o q n hc hx=>?_,u1.free,fun b o q hx=>?_,u1.tups,u1.frzs,u1.tbls⟩
 ·obtain ⟨sl,e⟩:=u1.slot b o q n hc hx
  obtain ⟨sl',e'⟩:=N2.slot b _ e (fun z=>by rw [z,n0] at q;cases q) (fun z=>by cases z;rw [nT0] at q;cases q)
  exact ⟨sl',e'⟩
 ·obtain ⟨o',e⟩:=u1.there b o q hx
  obtain ⟨sl',e'⟩:=N2.slot b _ e (fun z=>by rw [z,n0] at q;cases q) (fun z=>by cases z;rw [nT0] at q;cases q)
  exact ⟨_,e'⟩
end
end M
set_option Elab.async false
set_option linter.all false
set_option maxRecDepth 100000
set_option maxHeartbeats 4000000
namespace M
open PySem PySem.Spec PyProof.Rows L2
section
variable {P:Program} {w:World} {K:PySem.W.Frag} {mg:Str→Option Value} {base:Heap} {xc:XCs}
theorem qr {x:Str} {st:Stmt} {N ps:List Str} {k j n:Nat} {b:MSt} {f:Addr} {fd:FuncData} (F:Fun K x x st f fd) (S:FnScope N ps (defScope st)) (hj:N.length - ps.length=j) (hn:ps.length=n)
  (hb:∀ (cdv:Value) (A:Around) (outer:List Env) (s:Shared) (H:Hp) (E:XK),Room k (A.deeper (envOfC x (defScope st) s.heap.objs.size f cdv)) →
   MSs (tryX (ub (CXR P w) P w K mg base N x (defScope st) f cdv A outer s H E) [] (Rz (ub (CXR P w) P w K mg base N x (defScope st) f cdv A outer s H E) E)) (exT K xc E) (defBody st) b):FnOk P w K mg base (CXR P w) (k + 1) f fd ps (spX K xc n (fnOf j b)):=by
 refine aq F S hj hn fun cdv A outer s H E hr=>?_
 obtain ⟨t,p,q⟩:=hb cdv A outer s H E hr
 refine ⟨t,fun pins s' σ H' D I h=>?_,q⟩
 refine wpAny_mono (p pins s' σ H' D (ah9 I) h) (fun fl s2 z=>?_) fun e s2 z=>Bf z
 cases fl with
 | next=>obtain ⟨σ2,H2,I2,q2⟩:=z;exact ⟨σ2,H2,Qv I2 I.ok,q2⟩
 | brk=>obtain ⟨σ2,H2,I2,q2⟩:=z;exact ⟨σ2,H2,Qv I2 I.ok,q2⟩
 | cont=>obtain ⟨σ2,H2,I2,q2⟩:=z;exact ⟨σ2,H2,Qv I2 I.ok,q2⟩
 | ret u=>obtain ⟨v,σ2,H2,I2,r,q2⟩:=z;exact ⟨v,σ2,H2,Qv I2 I.ok,r,q2⟩
end
noncomputable def yg (t:MB) (n:MSt):Nat→En→Mu→Res Out
 | 0,_,_=>.bad
 | k + 1,ρ,μ=>(t ρ μ).bind fun b μ1=>if b=true then (n ρ μ1).bind fun o μ2=>match o with
   | .nx ρ2=>yg t n k ρ2 μ2
   | .ct ρ2=>yg t n k ρ2 μ2
   | .bk ρ2=>.ok (.nx ρ2) μ2
   | .rt d=>.ok (.rt d) μ2
  else .ok (.nx ρ) μ1
noncomputable def F4 (k:Nat) (t:MB) (n:MSt):MSt:=fun ρ μ=>yg t n k ρ μ
theorem gq {X:Cx} {EX:EXT} {c:Expr} {body:List Stmt} {t:MB} {n:MSt} {pos:Pos} (k:Nat) (hp:PassesOwn (model X.prog X.w) X.A X.env X.xe) (hc:MT X EX c t) (hb:MSs X EX body n):MS X EX (.While c body [] pos) (F4 k t n):=by
 obtain ⟨tc,pc,sc⟩:=hc
 obtain ⟨tb,pb,sb⟩:=hb
 refine ⟨_,bq hp pc pb,fun Z α F H σ ρ μ D R g=>?_⟩
 refine ⟨fun m σ H=>∃ α' F' ρ' μ',RS X.K Z α' F' H σ ρ' μ'∧Ext α F α' F'∧GS X.K EX Z α F D (yg t n m ρ' μ'),⟨k,α,F,ρ,μ,R,Ext.refl _ _,g⟩,?_⟩
 rintro m σ1 H1 ⟨α1,F1,ρ1,μ1,R1,e1,g1⟩
 cases m with
 | zero=>exact g1.elim
 | succ m =>
  refine sc Z α1 F1 H1 σ1 ρ1 μ1 _ R1 (GB.step (G:=GS X.K EX Z α F D) g1 (fun _ _ h=>h) (fun h=>h) fun b μ2 α2 F2 H2 R2 e2 g2=>?_)
  cases b with
  | false =>
   rw [if_neg (by decide)] at g2 ⊢
   exact g2 σ1 α2 F2 H2 (R1.to R2 e2) (e1.trans e2)
  | true =>
   rw [if_pos rfl] at g2 ⊢
   refine ⟨fun σ' H'=>∃ α' F' ρ' μ',RS X.K Z α' F' H' σ' ρ' μ'∧Ext α F α' F'∧GS X.K EX Z α F D (yg t n m ρ' μ'),fun σ' H' h=>⟨m,Nat.lt_succ_self m,h⟩,?_⟩
   refine sb Z α2 F2 H2 σ1 ρ1 μ2 _ (R1.to R2 e2) ?_
   cases er:n ρ1 μ2 with
   | bad=>rw [er] at g2;exact g2
   | exc x μ3=>rw [er] at g2;exact g2
   | ok o μ3 =>
    rw [er] at g2
    cases o with
    | nx ρ3=>exact fun σ' α' F' H' R' e'=>⟨α',F',ρ3,μ3,R',e1.trans (e2.trans e'),g2⟩
    | ct ρ3=>exact fun σ' α' F' H' R' e'=>⟨α',F',ρ3,μ3,R',e1.trans (e2.trans e'),g2⟩
    | bk ρ3=>exact fun σ' α' F' H' R' e'=>g2 σ' α' F' H' R' (e1.trans (e2.trans e'))
    | rt d=>exact fun v α' F' H' R' e' r'=>g2 v α' F' H' R' (e1.trans (e2.trans e')) r'
end M
set_option Elab.async false
set_option linter.all false
set_option maxRecDepth 100000
set_option maxHeartbeats 4000000
namespace M
open PySem PySem.Spec PyProof.Rows L2
noncomputable def zi {β:Type} (nm:Str):List Str→List β→Option β
 | n::ns,d::ds=>if n=nm then some d else zi nm ns ds
 | _,_=>none
noncomputable def putN {β:Type} (nm:Str) (v:β):List Str→List β→List Str×List β
 | n::ns,d::ds=>if n=nm then (n::ns,v::ds) else (n::(putN nm v ns ds).1,d::(putN nm v ns ds).2)
 | _,_=>([nm],[v])
theorem wg {nm:Str}:∀ (ns:List Str) (vs:List V),(ns.zip vs).lookup nm=zi nm ns vs
 | [],_=>rfl
 | _::_,[]=>rfl
 | n::ns,v::vs=>by
  show List.lookup nm ((n,v)::ns.zip vs)=_
  rw [List.lookup_cons]
  unfold zi
  by_cases h:n=nm
  ·subst h;rw [if_pos rfl];simp
  ·rw [if_neg h,show (nm == n)=false from beq_eq_false_iff_ne.mpr fun z=>h z.symm]
   exact wg ns vs
theorem g0 {nm:Str} {v:V}:∀ (ns:List Str) (vs:List V),ns.length=vs.length→yb nm v (ns.zip vs)=(putN nm v ns vs).1.zip (putN nm v ns vs).2
 | [],[],_=>rfl
 | [],_::_,h=>by simp at h
 | _::_,[],h=>by simp at h
 | n::ns,w::vs,h=>by
  show (if n=nm then (n,v)::ns.zip vs else (n,w)::yb nm v (ns.zip vs))=_
  unfold putN
  by_cases z:n=nm
  ·rw [if_pos z,if_pos z];rfl
  ·rw [if_neg z,if_neg z,g0 ns vs (by simpa using h)];rfl
theorem wf {K:PySem.W.Frag} {F:Hp} {α:List Addr} {nm:Str}:∀ {ns:List Str} {ds:List D} {vs:List V} {d:D},Reps K F α ds vs→zi nm ns ds=some d→∃ v,zi nm ns vs=some v∧Rep K F α d v
 | [],_,_,_,_,h=>by cases h
 | _::_,[],_,_,_,h=>by cases h
 | n::ns,d::ds,vs,e,r,h=>by
  unfold Reps at r
  obtain ⟨v,vr,rfl,r1,r2⟩:=r
  unfold zi at h ⊢
  split at h
  ·rename_i z;cases h;exact ⟨v,by rw [if_pos z],r1⟩
  ·rename_i z;rw [if_neg z];exact wf r2 h
theorem g7 {K:PySem.W.Frag} {F:Hp} {α:List Addr} {nm:Str} {d:D} {v:V} (hd:Rep K F α d v):∀ {ns:List Str} {ds:List D} {vs:List V},ns.length=ds.length→Reps K F α ds vs→(putN nm d ns ds).1=(putN nm v ns vs).1∧Reps K F α (putN nm d ns ds).2 (putN nm v ns vs).2∧(putN nm d ns ds).1.length=(putN nm d ns ds).2.length
 | [],[],vs,_,r=>by
  have:vs=[]:=List.length_eq_zero_iff.mp r.length.symm
  subst this
  exact ⟨rfl,j6 hd jo,rfl⟩
 | [],_::_,_,h,_=>by simp at h
 | _::_,[],_,h,_=>by simp at h
 | n::ns,e::ds,vs,h,r=>by
  unfold Reps at r
  obtain ⟨w,vr,rfl,r1,r2⟩:=r
  unfold putN
  by_cases z:n=nm
  ·rw [if_pos z,if_pos z];exact ⟨rfl,j6 hd r2,by simpa using h⟩
  ·rw [if_neg z,if_neg z]
   obtain ⟨h1,h2,h3⟩:=g7 hd (ns:=ns) (by simpa using h) r2
   exact ⟨by rw [h1],j6 r1 h2,by simp [h3]⟩
noncomputable def Q6 (ok:Str→Bool) (d:D) (μ:Mu):Option (Nat×Str×List Str×List D):=match d with
 | .ref k=>match μ[k]? with
  | some (.obj c ns ds)=>if ok c=true then some (k,c,ns,ds) else none
  | _=>none
 | _=>none
theorem Vm {K:PySem.W.Frag} {Z:ZS} {α:List Addr} {F H:Hp} {μ:Mu} {ok:Str→Bool} {d:D} {v:V} {k:Nat} {c:Str} {ns:List Str} {ds:List D} (R:RH K Z α F H μ) (p:Rep K F α d v) (h:Q6 ok d μ=some (k,c,ns,ds)) :
  ∃ a dx vs,v=.ref a∧d=.ref k∧ok c=true∧α[k]? =some a∧μ[k]? =some (.obj c ns ds)∧F a=none∧H a=some (.ins (cA K c) dx (ns.zip vs))∧ns.length=ds.length∧Reps K F α ds vs:=by
 cases d with
 | ref j =>
  unfold Q6 at h
  dsimp only at h
  split at h
  ·rename_i c' ns' ds' hj
   split at h
   ·rename_i hok
    cases h
    unfold Rep at p
    obtain ⟨a,ha,rfl⟩:=p
    obtain ⟨h1,dx,vs,h2,h3,h4⟩:=R.cell k a _ ha hj
    exact ⟨a,dx,vs,rfl,rfl,hok,ha,hj,h1,h2,h3,h4⟩
   ·cases h
  ·cases h
 | _=>cases h
section
variable {X:Cx} {EX:EXT} {o e value:Expr} {m mo mv:MX} {pos pos' tpos:Pos}
noncomputable abbrev ak2 (X:Cx) (ok:Str→Bool) (nm:Str):Prop:=∀ c,ok c=true→Cls X.K (cA X.K c)∧Uy X.K (cA X.K c) nm
noncomputable def Jl (ok:Str→Bool) (nm:Str) (m:MX):MX:=fun ρ μ=>(m ρ μ).bind fun d μ1=>ofO μ1 ((Q6 ok d μ1).bind fun q=>zi nm q.2.2.1 q.2.2.2)
theorem Je {ok:Str→Bool} {nm:Str} (hC:ak2 X ok nm) (ha:ME X EX e m) (hb:attributeBase e nm X.env (eval e X.env)=eval e X.env:=by rfl):ME X EX (.Attribute e nm pos) (Jl ok nm m):=by
 obtain ⟨t,pt,st⟩:=ha
 refine ⟨_,ad4 pt hb,fun Z α F H σ ρ μ Q R g=>?_⟩
 refine st Z α F H σ ρ μ _ R (GE.step (G:=GE X.K EX Z α F Q) g (fun _ _ h=>h) (fun h=>h) fun d μ1 v α1 F1 H1 R1 e1 p1 g1=>?_)
 cases h:Q6 ok d μ1 with
 | none=>rw [h] at g1;exact g1.elim
 | some q =>
  obtain ⟨k,c,ns,ds⟩:=q
  rw [h] at g1
  obtain ⟨a,dx,vs,rfl,rfl,hk,ha,hc,hF,hH,hl,hr⟩:=Vm R1 p1 h
  cases hg:zi nm ns ds with
  | none=>simp only [Option.bind_some,hg] at g1;exact g1.elim
  | some y =>
   simp only [Option.bind_some,hg] at g1
   obtain ⟨u,hu,ru⟩:=wf hr hg
   exact ⟨a,_,dx,_,u,rfl,hH,(hC c hk).1,(hC c hk).2,by rw [wg];exact hu,g1 u α1 F1 H1 R1 e1 ru⟩
noncomputable def Kh (ok:Str→Bool) (nm:Str) (ρ:En) (d v:D) (μ:Mu):Res Out:=match Q6 ok d μ with
 | some q=>if q.2.2.1.length < 900 then .ok (.nx ρ) (μ.set q.1 (.obj q.2.1 (putN nm v q.2.2.1 q.2.2.2).1 (putN nm v q.2.2.1 q.2.2.2).2)) else .bad
 | none=>.bad
theorem eu {K:PySem.W.Frag} {Z:ZS} {α:List Addr} {F H:Hp} {μ:Mu} {ok:Str→Bool} {nm:Str} {ρ:En} {d v:D} {x y:V} {G:Res Out→Prop} (hb:¬ G .bad) (R:RH K Z α F H μ) (p:Rep K F α d x) (q:Rep K F α v y) (g:G (Kh ok nm ρ d v μ)) :
  ∃ a c dx fs μ',x=.ref a∧ok c=true∧H a=some (.ins (cA K c) dx fs)∧fs.length < 1000∧RH K Z α F (upd H a (.ins (cA K c) dx (yb nm y fs))) μ'∧G (.ok (.nx ρ) μ'):=by
 unfold Kh at g
 cases h:Q6 ok d μ with
 | none=>rw [h] at g;exact absurd g hb
 | some w =>
  obtain ⟨k,c,ns,ds⟩:=w
  rw [h] at g
  dsimp only at g
  split at g
  ·rename_i hn
   obtain ⟨a,dx,vs,rfl,rfl,hk,ha,hc,hF,hH,hl,hr⟩:=Vm R p h
   obtain ⟨h1,h2,h3⟩:=g7 (nm:=nm) q hl hr
   refine ⟨a,c,dx,_,_,rfl,hk,hH,?_,R.setCell (c:=.obj c (putN nm v ns ds).1 (putN nm v ns ds).2) ha hc (by simp) ⟨hF,dx,(putN nm y ns vs).2,by rw [jt,g0 ns vs (hl.trans hr.length),← h1],h3,h2⟩,g⟩
   rw [List.length_zip]
   omega
  ·exact absurd g hb
noncomputable def U4 (ok:Str→Bool) (nm:Str) (mo mv:MX):MSt:=fun ρ μ=>(mv ρ μ).bind fun v μ1=>(mo ρ μ1).bind fun d μ2=>Kh ok nm ρ d v μ2
theorem uh {ok:Str→Bool} {nm:Str} (hC:ak2 X ok nm) (ho:ME X EX o mo) (hv:ME X EX value mv) (hs:swapsWith value (some (.Attribute o nm pos')) pos.line X.env=pure false:=by rfl):MS X EX (.Assign [.Attribute o nm pos'] value pos) (U4 ok nm mo mv):=by
 obtain ⟨to,po,so⟩:=ho
 obtain ⟨tv,pv,sv⟩:=hv
 refine ⟨_,ac7 po pv hs,fun Z α F H σ ρ μ N R g=>?_⟩
 refine sv Z α F H σ ρ μ _ R (GE.step (G:=GS X.K EX Z α F N) g (fun _ _ h=>h) (fun h=>h) fun v μ1 y α1 F1 H1 R1 e1 p1 g1=>?_)
 refine so Z α1 F1 H1 σ ρ μ1 _ (R.to R1 e1) (GE.step (G:=GS X.K EX Z α F N) g1 (fun _ _ h=>h) (fun h=>h) fun d μ2 x α2 F2 H2 R2 e2 p2 g2=>?_)
 obtain ⟨a,c,dx,fs,μ',rfl,hk,hH,hl,R3,g3⟩:=eu (G:=GS X.K EX Z α F N) (fun h=>h) R2 p2 (p1.mono e2) g2
 exact ⟨a,_,dx,fs,rfl,hH,(hC c hk).1,(hC c hk).2,hl,g3 σ α2 F2 _ ((R.to R2 (e1.trans e2)).to R3 (Ext.refl _ _)) (e1.trans e2)⟩
noncomputable def as1 (a b:D):Option D:=match a,b with
 | .int i,.int j=>some (.int (i + j))
 | _,_=>none
noncomputable def gh (ok:Str→Bool) (nm:Str) (mo mv:MX):MSt:=fun ρ μ=>(mo ρ μ).bind fun d μ1=>match (Q6 ok d μ1).bind fun q=>zi nm q.2.2.1 q.2.2.2 with
 | some w=>(mv ρ μ1).bind fun y μ2=>match as1 w y with
  | some z=>Kh ok nm ρ d z μ2
  | none=>.bad
 | none=>.bad
theorem Et {ok:Str→Bool} {nm:Str} (hC:ak2 X ok nm) (hone:∀ c c',ok c=true→ok c'=true→c=c') (ho:ME X EX o mo) (hv:ME X EX value mv):MS X EX (.AugAssign (.Attribute o nm tpos) .Add value pos) (gh ok nm mo mv):=by
 obtain ⟨to,po,so⟩:=ho
 obtain ⟨tv,pv,sv⟩:=hv
 refine ⟨_,Dp po pv ai0,fun Z α F H σ ρ μ N R g=>?_⟩
 refine so Z α F H σ ρ μ _ R (GE.step (G:=GS X.K EX Z α F N) g (fun _ _ h=>h) (fun h=>h) fun d μ1 x α1 F1 H1 R1 e1 p1 g1=>?_)
 cases h:Q6 ok d μ1 with
 | none=>rw [h] at g1;exact g1.elim
 | some q =>
  obtain ⟨k,c,ns,ds⟩:=q
  rw [h] at g1
  obtain ⟨a,dx,vs,rfl,rfl,hk,ha,hc,hF,hH,hl,hr⟩:=Vm R1 p1 h
  cases hg:zi nm ns ds with
  | none=>simp only [Option.bind_some,hg] at g1;exact g1.elim
  | some w =>
   simp only [Option.bind_some,hg] at g1
   obtain ⟨u,hu,ru⟩:=wf hr hg
   refine ⟨a,_,dx,_,u,rfl,hH,(hC c hk).1,(hC c hk).2,by rw [wg];exact hu,?_⟩
   refine sv Z α1 F1 H1 σ ρ μ1 _ (R.to R1 e1) (GE.step (G:=GS X.K EX Z α F N) g1 (fun _ _ h=>h) (fun h=>h) fun y μ2 v α2 F2 H2 R2 e2 p2 g2=>?_)
   cases hz:as1 w y with
   | none=>rw [hz] at g2;exact g2.elim
   | some z =>
    rw [hz] at g2
    have g2:GS X.K EX Z α F N (Kh ok nm ρ (.ref k) z μ2):=g2
    cases w with
    | int i =>
     cases y with
     | int j =>
      cases hz
      obtain rfl:u=.int i:=ru
      obtain rfl:v=.int j:=p2
      obtain ⟨a',c',dx',fs',μ',ea,hk',hH',hl',R3,g3⟩:=eu (G:=GS X.K EX Z α F N) (y:=.int (i + j)) (fun h=>h) R2 (p1.mono e2) (u7 _) g2
      cases ea
      obtain rfl:=hone c c' hk hk'
      exact ⟨i,j,rfl,rfl,dx',fs',hH',hl',g3 σ α2 F2 _ ((R.to R2 (e1.trans e2)).to R3 (Ext.refl _ _)) (e1.trans e2)⟩
     | _=>cases hz
    | _=>cases hz
end
theorem RH.extra {K:PySem.W.Frag} {Z:ZS} {α:List Addr} {F H:Hp} {μ:Mu} {p:Addr} (o:HO) (r:RH K Z α F H μ) (hp:H p=none):RH K Z α F (upd H p o) μ:=by
 refine ⟨fun b u e=>?_,r.len,fun k a c ha hc=>?_,fun b u e=>?_,r.zf,r.zc,r.dis,r.ext⟩
 ·rw [jw (jj (r.sub b u e) hp)];exact r.sub b u e
 ·have h:=r.cell k a c ha hc
  exact h.go (Ext.refl _ _) (fun _=>rfl) fun hd=>let ⟨_,_,z⟩:=h.live hd;jw (jj z hp)
 ·rw [jw (jj (r.zs b u e) hp)];exact r.zs b u e
noncomputable def Bv (c:Str) (φ:Fn) (ds:List D) (μ:Mu):Res D:=(noX (φ (.ref μ.length::ds) (μ++[.obj c [] []]))).bind fun r μ2=>match r with
 | .non=>.ok (.ref μ.length) μ2
 | _=>.bad
noncomputable def ag7 (c:Str) (φ:Fn) (ms:MAs):MX:=fun ρ μ=>(ms ρ μ).bind (Bv c φ)
noncomputable def ak0 (P:Program) (w:World) (K:PySem.W.Frag) (mg:Str→Option Value) (base:Heap) (x:Str) (k n:Nat) (φ:Fn):Prop :=
 ∃ f fd ps,mg x=some (.ref (cA K x))∧Mk K (cA K x) f∧Yt fd ps∧ps.length=n + 1∧FnOk P w K mg base CX0 k f fd ps (spM K (n + 1) φ)
section
variable {X:Cx} {EX:EXT} {e:Expr} {es:List Expr} {ms:MAs} {p pos:Pos}
theorem Bw {Z:ZS} {α:List Addr} {F:Hp} {Q:VK} {α1:List Addr} {F1 H1:Hp} {μ1:Mu} {ds:List D} {vs:List V} {c:Str} {φ:Fn} {n:Nat} (R1:RH X.K Z α1 F1 H1 μ1) (e1:Ext α F α1 F1) (r:Reps X.K F1 α1 ds vs) (hl:ds.length=n) (g:GE X.K EX Z α F Q (Bv c φ ds μ1)) :
  ∀ x dx,H1 x=none→H1 dx=none→dx≠x→spM X.K (n + 1) φ (.ref x::vs) (upd (upd H1 dx (.own x)) x (.ins (cA X.K c) dx [])) (fun v H2=>v=.non∧Q (.ref x) H2) E0:=by
 intro x dx hx hd ne
 have R2:=(R1.extra (.own x) hd).newCell (p:=x) (o':=.ins (cA X.K c) dx []) (c:=.obj c [] []) (by rw [jw (Ne.symm ne)];exact hx) ⟨d0 R1 hx,dx,[],jt,rfl,jo⟩
 have hrx:Rep X.K F1 (α1++[x]) (.ref μ1.length) (.ref x):=by
  unfold Rep
  exact ⟨x,by rw [← R1.len,List.getElem?_append_right (Nat.le_refl _),Nat.sub_self];rfl,rfl⟩
 refine ⟨Z,α1++[x],F1,.ref μ1.length::ds,μ1++[.obj c [] []],R2,j6 hrx (r.mono (u3 _ _ _)),by rw [List.length_cons,hl],?_⟩
 unfold Bv at g
 cases er:φ (.ref μ1.length::ds) (μ1++[.obj c [] []]) with
 | bad=>rw [er] at g;exact g
 | exc y μ2=>rw [er] at g;exact g.elim
 | ok d μ2 =>
  rw [er] at g
  cases d with
  | non =>
   intro v α' F' H' R' e' r'
   refine ⟨?_,g _ α' F' H' R' (e1.trans ((u3 _ _ _).trans e')) (hrx.mono e')⟩
   unfold Rep at r'
   exact r'
  | _=>exact g.elim
theorem a20 {c:Str} {k:Nat} {φ:Fn} (mka:ak0 X.prog X.w X.K X.mg X.base c k 0 φ) (hr:Room (k + 1) X.A) (hg:Gl X c) (hdb:(c == ("__debug__":Str))=false:=by decide):ME X EX (.Call (.Name c p) [] [] pos) (ag7 c φ mNil):=by
 obtain ⟨f,fd,ps,h1,mk,hb,hl,F⟩:=mka
 refine ⟨_,bg mk F hr hg h1 (.all hb) .nil a67 hdb,fun Z α G H σ ρ μ Q R g=>?_⟩
 intro x dx hx hd ne
 exact Bw (n:=0) R.hp (Ext.refl _ _) jo rfl g x dx hx hd ne
end
end M
set_option Elab.async false
set_option linter.all false
set_option maxRecDepth 100000
set_option maxHeartbeats 4000000
namespace M
open PySem PySem.Spec PyProof.Rows L2
section
variable {P:Program} {w:World} {K:PySem.W.Frag} {mg:Str→Option Value} {base:Heap}
theorem ap {x qual:Str} {st:Stmt} {N ps:List Str} {k j n:Nat} {b:MSt} {f:Addr} {fd:FuncData} (F:Fun K x qual st f fd) (S:FnScope N ps (defScope st)) (hj:N.length - ps.length=j) (hn:ps.length=n)
  (hb:∀ (cdv:Value) (A:Around) (outer:List Env) (s:Shared) (H:Hp) (E:XK),Room k (A.deeper (envOfC qual (defScope st) s.heap.objs.size f cdv)) →
   MSs (ub CX0 P w K mg base N qual (defScope st) f cdv A outer s H E).nox NoX (defBody st) b):FnOk P w K mg base CX0 (k + 1) f fd ps (spM K n (fnOf j b)):=by
 subst hn
 exact a82 F S hj hb
noncomputable def MkD (K:PySem.W.Frag) (mg:Str→Option Value) (x qual:Str) (st:Stmt) (ps:List Str):Prop:=∃ f fd,mg x=some (.ref (cA K x))∧Mk K (cA K x) f∧Fun K "__init__" qual st f fd∧Yt fd ps
theorem a18 {x qual:Str} {st:Stmt} {ps:List Str} {k n:Nat} {φ:Fn} (D:MkD K mg x qual st ps) (hn:ps.length=n + 1) (hb:∀ (f:Addr) (fd:FuncData),Fun K "__init__" qual st f fd→FnOk P w K mg base CX0 k f fd ps (spM K (n + 1) φ)):ak0 P w K mg base x k n φ:=by
 obtain ⟨f,fd,h1,h2,h3,h4⟩:=D
 exact ⟨f,fd,ps,h1,h2,h4,hn,hb f fd h3⟩
end
noncomputable def Ek:MX:=fun _ μ=>.ok (.ref μ.length) (μ++[.dic [] []])
theorem a23 {X:Cx} {EX:EXT} {pos:Pos}:ME X EX (.Dict [] [] pos) Ek:=by
 refine ⟨_,bd,fun Z α F H σ ρ μ Q R g=>?_⟩
 intro p hp
 have R1:=R.hp.newCell (p:=p) (o':=.dK []) (c:=.dic [] []) hp ⟨d0 R.hp hp,[],jt,rfl,jo⟩
 refine g _ (α++[p]) F _ R1 (u3 _ _ _) ?_
 unfold Rep
 exact ⟨p,by rw [← R.hp.len,List.getElem?_append_right (Nat.le_refl _),Nat.sub_self];rfl,rfl⟩
theorem len_0 {β:Type} {us:List β} (h:us.length=0):us=[]:=List.length_eq_zero_iff.mp h
theorem G1 {β:Type} {us:List β} {n:Nat} (h:us.length=n + 1):∃ a vs,us=a::vs∧vs.length=n:=by
 cases us with
 | nil=>cases h
 | cons a vs=>exact ⟨a,vs,rfl,Nat.succ.inj h⟩
theorem len_1 {β:Type} {us:List β} (h:us.length=1):∃ a,us=[a]:=by
 obtain ⟨a,vs,rfl,q⟩:=G1 h
 cases len_0 q
 exact ⟨a,rfl⟩
theorem len_2 {β:Type} {us:List β} (h:us.length=2):∃ a b,us=[a,b]:=by
 obtain ⟨a,vs,rfl,q⟩:=G1 h
 obtain ⟨b,rfl⟩:=len_1 q
 exact ⟨a,b,rfl⟩
theorem len_3 {β:Type} {us:List β} (h:us.length=3):∃ a b c,us=[a,b,c]:=by
 obtain ⟨a,vs,rfl,q⟩:=G1 h
 obtain ⟨b,c,rfl⟩:=len_2 q
 exact ⟨a,b,c,rfl⟩
theorem len_4 {β:Type} {us:List β} (h:us.length=4):∃ a b c d,us=[a,b,c,d]:=by
 obtain ⟨a,vs,rfl,q⟩:=G1 h
 obtain ⟨b,c,d,rfl⟩:=len_3 q
 exact ⟨a,b,c,d,rfl⟩
theorem len_5 {β:Type} {us:List β} (h:us.length=5):∃ a b c d e,us=[a,b,c,d,e]:=by
 obtain ⟨a,vs,rfl,q⟩:=G1 h
 obtain ⟨b,c,d,e,rfl⟩:=len_4 q
 exact ⟨a,b,c,d,e,rfl⟩
end M
set_option Elab.async false
set_option linter.all false
set_option maxRecDepth 100000
set_option maxHeartbeats 4000000
namespace M
open PySem PySem.Spec PyProof.Rows L2
noncomputable def ac8 (d:D) (μ:Mu):Res D:=match d with
 | .ref k=>match μ[k]? with
  | some (.lst ds)=>match ds[ds.length - 1]? with
   | some y=>.ok y (μ.set k (.lst ds.dropLast))
   | none=>.bad
  | _=>.bad
 | _=>.bad
noncomputable def a28 (mo:MX):MX:=fun ρ μ=>(mo ρ μ).bind fun d μ1=>ac8 d μ1
section
variable {X:Cx} {EX:EXT} {o:Expr} {mo:MX}
theorem Reps.dropLast {K:PySem.W.Frag} {F:Hp} {α:List Addr}:∀ {ds:List D} {vs:List V},Reps K F α ds vs→Reps K F α ds.dropLast vs.dropLast
 | [],vs,h=>by
  unfold Reps at h
  rw [h]
  exact jo
 | [d],vs,h=>by
  have:=h.length
  match vs,this with
  | [v],_=>exact jo
 | d::e::ds,vs,h=>by
  unfold Reps at h
  obtain ⟨v,r,rfl,h1,h2⟩:=h
  have hl:=h2.length
  match r,hl,h2 with
  | w::r,_,h2 =>
   rw [List.dropLast_cons₂,List.dropLast_cons₂]
   exact j6 h1 (Reps.dropLast h2)
theorem Reps.at {K:PySem.W.Frag} {F:Hp} {α:List Addr} {y:D}:∀ {ds:List D} {vs:List V} {i:Nat},Reps K F α ds vs→ds[i]? =some y→∃ v,vs[i]? =some v∧Rep K F α y v
 | [],vs,i,h,e=>by simp at e
 | d::ds,vs,0,h,e=>by
  unfold Reps at h
  obtain ⟨v,r,rfl,h1,h2⟩:=h
  have e:d=y:=by simpa using e
  subst e
  exact ⟨v,rfl,h1⟩
 | d::ds,vs,i + 1,h,e=>by
  unfold Reps at h
  obtain ⟨v,r,rfl,h1,h2⟩:=h
  obtain ⟨u,hu,ru⟩:=Reps.at (i:=i) h2 (by simpa using e)
  exact ⟨u,by simpa using hu,ru⟩
theorem ag2 {apos cpos:Pos} (ho:ME X EX o mo)
  (hbase:attributeBase o "pop" X.env (eval o X.env)=eval o X.env:=by rfl)
  (hline:(apos.endLine == cpos.line)=true:=by rfl) :
  ME X EX (.Call (.Attribute o "pop" apos) [] [] cpos) (a28 mo):=by
 obtain ⟨to,po,so⟩:=ho
 refine ⟨_,ad6 PySem.F.plainAttrs_list PySem.F.slot_list_pop PySem.F.type_list_pop af8 po hbase hline,fun Z α F H σ ρ μ Q R g=>?_⟩
 refine so Z α F H σ ρ μ _ R (GE.step (G:=GE X.K EX Z α F Q) g (fun _ _ h=>h) (fun h=>h) fun d μ1 v α1 F1 H1 R1 e1 p1 g1=>?_)
 unfold ac8 at g1
 cases d with
 | ref k =>
  simp only at g1
  cases hc:μ1[k]? with
  | none=>rw [hc] at g1;exact g1.elim
  | some cc =>
   rw [hc] at g1
   cases cc with
   | lst ds =>
    simp only at g1
    cases hy:ds[ds.length - 1]? with
    | none=>rw [hy] at g1;exact g1.elim
    | some y =>
     rw [hy] at g1
     obtain ⟨q,us,rfl,hα,hH,hr,hF⟩:=F7 R1 p1 hc
     obtain ⟨u,hu,ru⟩:=Reps.at hr hy
     refine ⟨.inl ⟨rfl,us,.inl (.inl hH)⟩,q,us,u,rfl,rfl,hH,by rw [← hr.length];exact hu,?_⟩
     exact g1 u α1 F1 _ (R1.setCell hα hc (by simp) ⟨hF,_,jt,Reps.dropLast hr⟩) e1 ru
   | _=>exact g1.elim
 | _=>exact g1.elim
noncomputable def Qu:List D→Option (List Int)
 | []=>some []
 | .int b::r=>(Qu r).map (b:: ·)
 | _=>none
noncomputable def ai2:GL:=fun ds=>match ds with
 | [.lst xs]=>(Qu xs).map fun bs=>.int bs.sum
 | _=>none
theorem eg {K:PySem.W.Frag} {F:Hp} {α:List Addr}:∀ {ds:List D} {vs:List V} {bs:List Int},Reps K F α ds vs→Qu ds=some bs→vs=bs.map V.int
 | [],vs,bs,h,e=>by
  cases e
  unfold Reps at h
  exact h
 | d::ds,vs,bs,h,e=>by
  unfold Reps at h
  obtain ⟨v,vr,rfl,h1,h2⟩:=h
  cases d with
  | int b =>
   simp only [Qu,Option.map_eq_some_iff] at e
   obtain ⟨br,e1,rfl⟩:=e
   unfold Rep at h1
   rw [h1,eg h2 e1]
   rfl
  | _=>cases e
theorem Fe:∀ {bs:List Int} {us:List Value},J7 (bs.map V.int) us→∃ xs:List (Int×Tok),us.toArray=intItems xs.toArray∧xs.map (·.1)=bs
 | [],us,h=>by cases h;exact ⟨[],by simp [intItems],rfl⟩
 | b::bs,us,h=>by
  cases h with
  | cons r rr =>
   obtain ⟨t,r⟩:=r
   obtain ⟨xs,e1,e2⟩:=Fe rr
   refine ⟨(b,t)::xs,?_,by rw [List.map_cons,e2]⟩
   rw [r]
   unfold intItems at e1 ⊢
   rw [List.map_toArray] at e1 ⊢
   rw [List.map_cons]
   have e3:=congrArg Array.toList e1
   simp only [List.toList_toArray] at e3
   rw [e3]
theorem C5 (hc:X.calm=true):qd X (.builtin "sum") (fun xs H Q=>∃ (p:Addr) (bs:List Int),xs=[.ref p]∧SqL X.K H p (bs.map V.int)∧Q (.int bs.sum) H):=by
 intro pins s σ H xs us Q I r h
 obtain ⟨p,bs,rfl,hq,q⟩:=h
 obtain ⟨u,rfl,rx⟩:=Kl r
 cases rx
 obtain ⟨its,r',pl,hz⟩:=I.list hq
 obtain ⟨xs,e1,e2⟩:=Fe r'
 have hl:=pl.isList
 rw [e1] at hl
 refine sum_intListG (I.ok.hd hc) hl fun h' tk t' hk=>?_
 have e3:preSum (numAt xs.toArray) xs.toArray.size=bs.sum:=by
  rw [preSum_eq,List.take_of_length_le (by simp),← e2]
 rw [e3]
 exact ⟨.int _,H,I.kept (t':=tk) hk,⟨_,rfl⟩,q⟩
theorem aj3 (hc:X.calm=true):Wo X (.builtin "sum") ai2:=by
 refine ⟨_,C5 hc,fun Z α F H μ ds c vs Q R hp hg k=>?_⟩
 match ds,hg with
 | [.lst xs],hg =>
  obtain ⟨v,r,rfl,⟨q,us,rfl,hs,hr⟩,hq⟩:=hp
  have hq:r=[]:=hq
  subst hq
  simp only [ai2,Option.map_eq_some_iff] at hg
  obtain ⟨bs,e,rfl⟩:=hg
  exact ⟨q,bs,rfl,by rw [← eg hr e];exact hs,k _ F H R (J4.refl _) (u7 _)⟩
end
end M
set_option Elab.async false
set_option linter.all false
set_option maxRecDepth 100000
set_option maxHeartbeats 4000000
namespace M
open PySem PySem.Spec PyProof.Rows L2
theorem W1 {P:Program} {w:World} {K:PySem.W.Frag} {mg:Str→Option Value} {base:Heap} {x:Str} {st:Stmt} {ps:List Str} {k n:Nat} (D:Jp K mg x st ps) (hn:ps.length=n):uj P w K mg base x k n (fun _ _=>.bad):=by
 refine d4 D hn fun f fd F=>⟨fun vs H Q E h=>?_,fun A outer s H args us vs Q E _ _ _ _ h=>?_⟩
 ·obtain ⟨Z,α,F,ds,μ,R,r,hl,g⟩:=h
  rw [← r.length,hl,hn]
 ·obtain ⟨Z,α,F,ds,μ,R,r,hl,g⟩:=h
  exact g.elim
theorem Db {l b:Addr} {xs ys:Array Value} {n m:Nat} {sl:Array (Option Value)} (h0:xs.size + ys.size≤sizeLine) :
  Meets (Builtin.«list.extend» ⟨[.ref l,.ref b],[]⟩) (fun _ R s=>s.heap.get? l=some { cls:=.type "list",dict:=none,data:=.seq xs n,slots:=#[]}∧s.heap.get? b=some { cls:=.type "list",dict:=none,data:=.seq ys m,slots:=sl} ∧
   R (.ok (.ret Value.none)) { s with heap:=s.heap.update l (Obj.mapSeq fun x=>x++ys),toks:=s.toks}) :=
 .of_wp fun prog w A R s h=>by
  have hn:¬ (!xs.isEmpty && Builtin.List.listTooLong (xs.size + ys.size))=true:=by rw [Bx h0,Bool.and_false];exact Bool.false_ne_true
  obtain ⟨hp,g,d,tk,os⟩:=s
  obtain ⟨hl,hb,h⟩:=h
  have f1:=AutoSeq1.idx_int
  have f2:=AutoSeq1.sub_tuple_tuple
  have f3:=AutoSeq1.sub_list_list
  have f4:=AutoSeq1.sub_tuple_list
  have f5:=AutoSeq1.sub_list_tuple
  have h1:xs.size≤sizeLine:=by omega
  have h2:(xs++ys).size≤sizeLine + 1:=by rw [Array.size_append];omega
  wp_walk using (wpAny_updateSeq hl rfl (hz:=h1) (_hz':=h2)),AutoSeq1.wpAny_loadPart' hl,AutoSeq1.wpAny_loadPart' hb
  exact ⟨_,rfl,h⟩
section
variable {X:Cx} {EX:EXT} {o a:Expr} {mo m:MX} {ms:MAs}
noncomputable def rExt (K:PySem.W.Frag):V→List V→Hp→VK→Prop:=fun x vs H Q=>∃ l b xs zs,x=.ref l∧vs=[.ref b]∧H l=some (.lst xs)∧SqL K H b zs∧xs.length + zs.length≤sizeLine∧Q .non (upd H l (.lst (xs++zs)))
theorem af9:MtM X "list.extend" (rExt X.K):=by
 intro pins s σ H x vs v us Q I rx rv h
 obtain ⟨l,b,xs,zs,rfl,rfl,hH,hB,hz,q⟩:=h
 cases rx
 obtain ⟨u,rfl,ru⟩:=rv.one
 cases ru
 obtain ⟨z,its,n,r,hl,e⟩:=I.lstM hH
 obtain ⟨its2,r2,pl,hz2⟩:=I.list hB
 obtain ⟨ob,m,e2,c2,d2,dat⟩:=pl
 have hl2:=r2.length
 have e2':s.heap.get? b=some { cls:=.type "list",dict:=none,data:=.seq its2.toArray m,slots:=ob.slots}:=by
  rw [e2]
  cases ob
  simp only at c2 d2 dat
  subst c2 d2 dat
  rfl
 refine call_meets F.slot_list_extend ⟨_,e,rfl⟩ F.entry_list_extend (F.args_list_extend_2 _ _) (Db (sl:=ob.slots) (n:=n) (m:=m) (xs:=its.toArray) (ys:=its2.toArray) (by rw [List.size_toArray,List.size_toArray];omega)) ⟨e,e2',?_⟩
 refine ⟨.non,_,I.lset (its':=its++its2) hH e (by simp) (r.append r2) ?_,rfl,q⟩
 rw [List.length_append]
 omega
noncomputable def a44 (d y:D) (μ:Mu):Res D:=match d with
 | .ref k=>match μ[k]?,j9 μ y with
  | some (.lst ds),.lst es=>if ds.length + es.length≤16777216 then .ok .non (μ.set k (.lst (ds++es))) else .bad
  | _,_=>.bad
 | _=>.bad
noncomputable def yn (mo m:MX):MX:=fun ρ μ=>(mo ρ μ).bind fun d μ1=>if Qd (j9 μ1 d)=true then (m ρ μ1).bind fun y μ2=>a44 d y μ2 else .bad
theorem Q9 {apos cpos:Pos} (ho:ME X EX o mo) (ha:MA X EX [a] ms) (hm:∀ ρ μ,ms ρ μ=(m ρ μ).bind fun d μ1=>.ok [d] μ1)
  (hbase:attributeBase o "extend" X.env (eval o X.env)=eval o X.env:=by rfl)
  (hfew:((backTo cpos (starEach [a] X.env)).all (fun x=> !x.1) && (backToKw cpos (keywordEach [] X.env)).all (fun x=>x.1.isSome)
   && decide ([a].length + ([]:List Keyword).length + (if ([]:List Keyword).isEmpty then 0 else 1) < 30))=true:=by rfl)
  (hline:(apos.endLine == cpos.line)=true:=by rfl) (hs:starEach [a] X.env=(false,eval a X.env)::starEach [] X.env:=by rfl) (hplain:(backTo cpos (starEach [] X.env)).any (·.1)=false:=by rfl) :
  ME X EX (.Call (.Attribute o "extend" apos) [a] [] cpos) (yn mo m):=by
 obtain ⟨to,po,so⟩:=ho
 obtain ⟨ta,pa,sa,_⟩:=ha
 refine ⟨_,a66 PySem.F.plainAttrs_list PySem.F.slot_list_extend PySem.F.type_list_extend af9 po pa hbase hfew hline hs hplain,fun Z α F H σ ρ μ Q R g=>?_⟩
 refine so Z α F H σ ρ μ _ R (GE.step (G:=GE X.K EX Z α F Q) g (fun _ _ h=>h) (fun h=>h) fun d μ1 v α1 F1 H1 R1 e1 p1 g1=>?_)
 by_cases hd:Qd (j9 μ1 d)=true
 ·rw [if_pos hd] at g1
  refine ⟨?_,?_⟩
  ·have k1:=R1.pk p1
   cases hq:j9 μ1 d with
   | lst xs =>
    rw [hq] at k1
    obtain ⟨q,us,rfl,hsq,hr⟩:=k1
    exact .inl ⟨rfl,us,hsq⟩
   | _=>rw [hq] at hd;cases hd
  ·refine sa Z α1 F1 H1 σ ρ μ1 _ (R.to R1 e1) ?_
   rw [hm]
   cases hy:m ρ μ1 with
   | exc x μ2=>rw [hy] at g1;exact g1
   | bad=>rw [hy] at g1;exact g1
   | ok y μ2 =>
    rw [hy] at g1
    intro vs α2 F2 H2 R2 e2 p2
    unfold Reps at p2
    obtain ⟨vy,r,rfl,p2,hr⟩:=p2
    have hr:r=[]:=hr
    subst hr
    have p1':=p1.mono e2
    have k2:=R2.pk p2
    have g1:GE X.K EX Z α F Q (a44 d y μ2):=g1
    unfold a44 at g1
    cases d with
    | ref k =>
     simp only at g1
     cases hc:μ2[k]? with
     | none=>rw [hc] at g1;exact g1.elim
     | some cc =>
      rw [hc] at g1
      cases cc with
      | lst ds =>
       cases hz:j9 μ2 y with
       | lst es =>
        rw [hz] at g1 k2
        simp only at g1
        split at g1
        ·rename_i hl
         obtain ⟨q,us,rfl,hα,hH,hr,hF⟩:=F7 R2 p1' hc
         obtain ⟨q2,us2,rfl,hs2,hr2⟩:=k2
         refine ⟨q,q2,us,us2,rfl,rfl,hH,hs2,by rw [← hr.length,← hr2.length,sizeLine_eq];exact hl,?_⟩
         exact g1 .non α2 F2 _ (R2.setCell hα hc (by simp) ⟨hF,_,jt,hr.append hr2⟩) (e1.trans e2) Zd
        ·exact g1.elim
       | _=>rw [hz] at g1;exact g1.elim
      | _=>exact g1.elim
    | _=>exact g1.elim
 ·rw [if_neg hd] at g1;exact g1.elim
end
end M
set_option Elab.async false
set_option linter.all false
set_option maxRecDepth 100000
set_option maxHeartbeats 1000000
namespace M
open PySem PySem.Spec PyProof.Rows L2
noncomputable def ah0:MSt:=fun _ _=>.bad
theorem Bq {X:Cx} {EX:EXT} {st:Stmt}:MS X EX st ah0:=⟨fun _ _ _=>False,fun _ _ _ _ _ _ h=>h.elim,fun Z α F H σ ρ μ N R g=>g⟩
theorem De:typeLookup (.type "list_reverseiterator") "__len__"=pure none:=by rw [typeLookup_type,builtinLookup_eq_fast];kernel_rfl
theorem ay:typeLookup (.type "list_reverseiterator") "__length_hint__"=pure (some (.builtin "list_reverseiterator.__length_hint__")):=by rw [typeLookup_type,builtinLookup_eq_fast];kernel_rfl
theorem A5:isSubtype (.type "list_reverseiterator") (.type "list_reverseiterator")=pure true:=by rw [isSubtype_type];kernel_rfl
section
variable {prog:Program} {w:World} {A:Around} {E:Value→Shared→Prop} {s:Shared}
theorem az {it l:Addr} {i:Int} {Q:Bool→Shared→Prop} (hit:s.heap.IsRevIter it l i) (h:Q false s):wpAny (model prog w) A (Builtin.List.listLengthHint (.ref it)) Q E s:=by
 unfold Builtin.List.listLengthHint
 refine wpAny_bind (wpAny_specialOf hit.typeIs De ?_)
 generalize hid:("list_reverseiterator.__length_hint__":String)=id0
 have hl:=ay
 rw [hid] at hl
 wp_delta
 refine wpAny_ite_split (fun hab=>absurd hab (by decide)) (fun _=>?_)
 refine wpAny_ite_split (fun hab=>absurd hab (by decide)) (fun _=>?_)
 refine wpAny_bind (wpAny_specialOf hit.typeIs hl ?_)
 dsimp only
 rw [show splitId id0=some ("list_reverseiterator","__length_hint__") from by subst hid;decide +kernel]
 dsimp only
 refine wpAny_bind (wpAny_isInstance (T:="list_reverseiterator") (b:=true) hit.typeIs A5 ?_)
 refine wpAny_ite_split (fun hab=>absurd hab (by decide)) (fun _=>?_)
 subst hid
 refine wpAny_ite_split (fun _=>?_) (fun hab=>absurd (by decide +kernel) hab)
 exact wpAny_ite_split (fun hab=>absurd hab (by decide +kernel)) (fun _=>wpAny_pure h)
theorem We {it l:Addr} {items:Array Value} {Q:Value→Shared→Prop} (hh:A.handled=none) (hit:s.heap.IsRevIter it l ((items.size:Int) - 1)) (hl:s.heap.IsList l items) (hne:l≠it) (hz:items.size≤sizeLine)
  (hQ:∀ h' tk acc c,(∀ b o,b≠it→s.heap.get? b=some o→h'.get? b=some o)→h'.get? s.heap.objs.size=some { cls:=.type "list",dict:=none,data:=.seq acc c,slots:=#[]} →
   ItemsOf (fun i v=>items[items.size - 1 - i]? =some v) acc items.size→Q (.ref s.heap.objs.size) { s with heap:=h',toks:=tk}) :
  wpAny (model prog w) A (call (.type "list") [.ref it]) Q E s:=by
 have hlt:it < s.heap.objs.size:=by obtain ⟨o,e,_⟩:=hit;exact Heap.lt_size e
 have hll:l < s.heap.objs.size:=by obtain ⟨o,e,_⟩:=hl;exact Heap.lt_size e
 refine callType_codes (Q₁:=fun obj s₁=>obj=.ref s.heap.objs.size∧s₁={ s with heap:=s.heap.push { cls:=.type "list",data:=.seq #[]}}) F.called_list (F.typeCall_list_1 _) F.entry_list_init (code_list_new _ ⟨rfl,rfl⟩) fun obj s₁ h₁=>?_
 obtain ⟨rfl,rfl⟩:=h₁
 have hS:(s.heap.push { cls:=.type "list",data:=.seq #[]}).get? s.heap.objs.size=some { cls:=.type "list",data:=.seq #[]}:=Heap.get?_push_size _ rfl
 refine ⟨⟨_,hS,rfl⟩,F.args_list_init_2 _ _,?_⟩
 generalize hSd:s.heap.objs.size=S at hS hlt hll hQ
 have hSi:S≠it:=Nat.ne_of_gt hlt
 have hSl:S≠l:=Nat.ne_of_gt hll
 show wpAny _ _ (Builtin.List.listItems (.ref S) >>= fun old=>Builtin.List.listUpdate (.ref S) (fun _=> #[]) >>= fun _=>letGo old.toList.reverse >>= fun _=>Builtin.List.listExtendWith (.ref S) (.ref it) .none) _ _ _
 refine wpAny_bind ?_
 unfold Builtin.List.listItems
 refine wpAny_bind (wpAny_seqItems hS rfl (wpAny_pure ?_))
 show wpAny _ _ (updateSeq S (fun _=> #[]) >>= _) _ _ _
 refine wpAny_bind (wpAny_updateSeq hS rfl ?_)
 have hS₂:=Heap.get?_update_self (Obj.mapSeq (fun _=>(#[]:Array Value))) hS rfl
 have oth:∀ b o,b≠S→s.heap.get? b=some o→((s.heap.push { cls:=.type "list",data:=.seq #[]}).update S (Obj.mapSeq (fun _=>(#[]:Array Value)))).get? b=some o :=
  fun b o hb e=>(Heap.get?_update_other _ _ (Ne.symm hb)).trans (Heap.get?_push_of_some _ e)
 refine wpAny_bind (wpAny_letGo ?_)
 have hit₂:=hit.at fun o e=>oth it o (Ne.symm hSi) e
 have hl₂:=hl.at fun o e=>oth l o (Ne.symm hSl) e
 unfold Builtin.List.listExtendWith
 refine wpAny_bind (wpAny_typeOf (T:="list_reverseiterator") hit₂.typeIs ?_)
 have h1:Builtin.List.listSameRef (.ref S) (.ref it)=false:=by simp [Builtin.List.listSameRef,hSi]
 have h2:(Value.type "list_reverseiterator" == Value.type "list")=false:=by decide
 have h3:(Value.type "list_reverseiterator" == Value.type "tuple")=false:=by decide
 simp only [h1,h2,h3,Bool.or_false,Bool.false_eq_true,if_false]
 refine wpAny_bind (wpAny_pyIter_revIter hit₂ ?_)
 refine wpAny_bind (wpAny_holding (az hit₂ ?_))
 refine wpAny_ite_split (fun hab=>absurd hab (by decide +kernel)) (fun _=>?_)
 have W:=(Walks.listRev (prog:=prog) (w:=w) (A:=A.in1.in1) hh it l hne items).toS
 refine wpAny_pure ⟨plainId_quiet F.plain_extend_loop _,codeAny_extend_loopS W hz S (fun hm=>?_) .none items.size 0 _ #[] _ rfl (Nat.zero_le _) ⟨Nat.zero_le _,by simpa using hit₂,hl₂⟩ hS₂ (ItemsOf.nil _) fun s' acc' c' hm hS' hacc=>?_⟩
 ·simp only [List.mem_cons,List.not_mem_nil,or_false] at hm
  exact hm.elim hSi hSl
 ·rw [Moved.eq_with hm]
  refine ⟨rfl,hQ s'.heap s'.toks acc' c' (fun b o hb e=>hm.heap b o (fun hmem=>?_) (oth b o (fun z=>?_) e)) hS' hacc⟩
  ·simp only [List.mem_cons,List.not_mem_nil,or_false] at hmem
   rcases hmem with z | z
   ·rw [z,← hSd] at e
    exact Nat.lt_irrefl _ (Heap.lt_size e)
   ·exact hb z
  ·rw [z,← hSd] at e
   exact Nat.lt_irrefl _ (Heap.lt_size e)
end
section
variable {X:Cx} {EX:EXT} {a:Expr} {ma:MX} {p1 p2 q1 q2:Pos}
noncomputable def revL (d:D):Option D:=match d with
 | .lst xs=>some (.lst xs.reverse)
 | _=>none
noncomputable def qx (m:MX):MX:=fun ρ μ=>(m ρ μ).bind fun d μ1=>ofO μ1 (revL (j9 μ1 d))
theorem Ke {K:PySem.W.Frag} {F:Hp} {α:List Addr}:∀ {ds:List D} {vs:List V},Reps K F α ds vs→Reps K F α ds.reverse vs.reverse
 | [],vs,h=>by
  unfold Reps at h
  rw [h]
  exact jo
 | d::ds,vs,h=>by
  unfold Reps at h
  obtain ⟨v,r,rfl,h1,h2⟩:=h
  rw [List.reverse_cons,List.reverse_cons]
  exact (Ke h2).append (j6 h1 jo)
theorem Km:∀ {vs:List V} {us:List Value},J7 vs us→J7 vs.reverse us.reverse
 | _,_,.nil=>.nil
 | _,_,.cons r rr=>by
  rw [List.reverse_cons,List.reverse_cons]
  exact (Km rr).append (.cons r .nil)
theorem c8 {its:List Value} {acc:Array Value} (h:ItemsOf (fun i v=>its.toArray[its.toArray.size - 1 - i]? =some v) acc its.toArray.size):acc=its.reverse.toArray:=by
 obtain ⟨h1,h2⟩:=h
 have h1:acc.size=its.length:=h1
 apply Array.ext
 ·rw [h1,List.size_toArray,List.length_reverse]
 ·intro i hi hj
  have:its.toArray[its.toArray.size - 1 - i]? =some acc[i]:=h2 i acc[i] (Array.getElem?_eq_getElem hi)
  rw [List.getElem?_toArray,List.size_toArray] at this
  have hi':i < its.length:=by rw [← h1];exact hi
  have e:its.reverse.toArray[i]? =some acc[i]:=by
   rw [List.getElem?_toArray,List.getElem?_reverse hi']
   exact this
  rw [Array.getElem?_eq_getElem hj] at e
  exact (Option.some.inj e).symm
theorem fe (hc:X.calm=true) (hg:Gl X "list") (hm:X.mg "list"=none) (hg2:Gl X "reversed") (hm2:X.mg "reversed"=none) (ha:ME X EX a ma)
  (hs:starEach [.Call (.Name "reversed" p1) [a] [] q1] X.env=[(false,eval (.Call (.Name "reversed" p1) [a] [] q1) X.env)]:=by rfl) (hs2:starEach [a] X.env=[(false,eval a X.env)]:=by rfl) :
  ME X EX (.Call (.Name "list" p2) [.Call (.Name "reversed" p1) [a] [] q1] [] q2) (qx ma):=by
 obtain ⟨t,pt,st,lt⟩:=ma_cons ha ma_nil (by rw [hs2];rfl)
 refine ⟨fun σ H Q=>∀ pins s,Inv X pins σ H s→wpAny (model X.prog X.w) X.A (eval (.Call (.Name "list" p2) [.Call (.Name "reversed" p1) [a] [] q1] [] q2) X.env) (EP X pins σ Q) X.xe s,fun pins s σ H Q I h=>h pins s I,fun Z α F H σ ρ μ Q R g pins s I=>?_⟩
 have hw:t σ H fun vs H1=>∃ x α1 F1 μ1 xs,RH X.K Z α1 F1 H1 μ1∧Ext α F α1 F1∧Reps X.K F1 α1 [x] vs∧j9 μ1 x=.lst xs∧(∀ v α' F' H',RH X.K Z α' F' H' μ1→Ext α F α' F'→Rep X.K F' α' (.lst xs.reverse) v→Q v H'):=by
  refine st Z α F H σ ρ μ _ R ?_
  unfold qx at g
  unfold mCons
  cases h1:ma ρ μ with
  | exc x μ1=>rw [h1] at g;exact g
  | bad=>rw [h1] at g;exact g
  | ok x μ1 =>
   rw [h1] at g
   simp only [bind_ok,mNil] at g ⊢
   intro vs α1 F1 H1 R1 e1 r1
   cases q1:j9 μ1 x with
   | lst xs =>
    rw [q1] at g
    exact ⟨x,α1,F1,μ1,xs,R1,e1,r1,q1,fun v α' F' H' R' e' r'=>g v α' F' H' R' e' r'⟩
   | _=>rw [q1] at g;exact g.elim
 refine Call_ (Qx I hg hm M.boot_list (PyProof.Rows.callWith_type1 ?_ (by rw [hs];rfl) rfl))
 rw [hs]
 refine Calls.spliced_cons (Call_ (Qx I hg2 hm2 PyProof.Rows.boot_reversed (PyProof.Rows.callWith_type1 (thn (pt q1 pins s σ H _ I hw) fun us s1 ⟨vs,H1,I1,rr,q⟩=>?_) (by rw [hs2];rfl) rfl)))
 obtain ⟨x,α1,F1,μ1,xs,R1,e1,r1,q1,fin⟩:=q
 unfold Reps at r1
 obtain ⟨v,r,rfl,p1,hr⟩:=r1
 have hr:r=[]:=hr
 subst hr
 obtain ⟨u1,rfl,rv⟩:=Kl rr
 have k1:=R1.pk p1
 rw [q1] at k1
 obtain ⟨l,v1,rfl,hsq,hr⟩:=k1
 cases rv
 obtain ⟨its,r',pl,hz⟩:=I1.list hsq
 have hl:=pl.isList
 have hll:l < s1.heap.objs.size:=by obtain ⟨o,e,_⟩:=hl;exact Heap.lt_size e
 refine call_reversed_list hl (Calls.spliced_nil ?_)
 have hlen:=r'.length
 refine We (I.ok.hd hc) ⟨_,Heap.get?_push_size _ rfl,rfl,rfl⟩ (hl.push _) (Nat.ne_of_lt hll) (by rw [List.size_toArray,← hlen];exact hz) fun h' tk acc c kp hS' hacc=>?_
 have hacc:=c8 hacc
 subst hacc
 have hsz:(s1.heap.push (revObj l ((its.toArray.size:Int) - 1))).objs.size=s1.heap.objs.size + 1:=Heap.size_push ..
 rw [hsz] at hS' ⊢
 have I2:Inv X pins σ (upd H1 (s1.heap.objs.size + 1) (.lst v1.reverse)) { s1 with heap:=h',toks:=tk} :=
  I1.laid (t':=tk) (fun b o e=>kp b o (fun z=>by rw [z] at e;exact Nat.lt_irrefl _ (Heap.lt_size e)) (Heap.get?_push_of_some _ e)) (Nat.le_succ _) ⟨by rw [List.length_reverse];exact hz,its.reverse,c,Km r',hS'⟩
 have hf:H1 (s1.heap.objs.size + 1)=none:=I1.hok.fresh (Nat.le_succ _)
 obtain ⟨a1,a2,a3⟩:=xk R1 (Ke hr) hf
 exact ⟨.ref _,_,I2,rfl,fin _ α1 _ _ a1 (e1.trans ⟨a2,fun _ _ h=>h⟩) a3⟩
end
end M
set_option Elab.async false
set_option linter.all false
set_option maxRecDepth 100000
set_option maxHeartbeats 1000000
namespace M
open PySem PySem.Spec PyProof.Rows L2
theorem fnC {P:Program} {w:World} {K:PySem.W.Frag} {mg:Str→Option Value} {base:Heap} {x:Str} {st:Stmt} {ps:List Str} {k n j:Nat} {b:MSt} (D:Jp K mg x st ps) (N G:List Str) (S:FnScope N ps (defScope st)) (hl:F9 (defScope st) N=true) (hg:glB (defScope st) G=true) (hj:N.length - ps.length=j) (hn:ps.length=n)
  (hb:∀ (f:Addr) (cdv:Value) (A:Around) (outer:List Env) (s:Shared) (H:Hp) (E:XK),Room k (A.deeper (envOfC x (defScope st) s.heap.objs.size f cdv))→Ct (ub CX0 P w K mg base N x (defScope st) f cdv A outer s H E).nox N G→MSs (ub CX0 P w K mg base N x (defScope st) f cdv A outer s H E).nox NoX (defBody st) b) :
  uj P w K mg base x (k + 1) n (fnOf j b) :=
 d4 D hn fun f fd F=>d3 F S hj hn fun cdv A outer s H E hr=>hb f cdv A outer s H E hr (ak S.nd (Z9 hl) (wm hg) hr)
noncomputable def Jc (K:PySem.W.Frag) (x:Str) (st:Stmt):Prop:=∃ (f:Addr) (oc:Value) (od:Option Addr) (kV doc pm:Value) (an:Option Addr) (cdv ct:Value) (osl:Array (Option Value)),PySem.W.nsIn K mainGlobals x=some (some (.ref f))∧K.lookup f=some ⟨oc,od,.func (PySem.W.fnOf x x (defArgs st) (defBody st) (defScope st) .none kV doc pm an cdv ct),osl⟩∧PySem.W.codeIn K cdv x=true∧PySem.W.keepIn K (.ref f)=true
theorem Jx {K:PySem.W.Frag} {mg:Str→Option Value} {h:Heap} {x:Str} {st:Stmt} {ps:List Str} (X:K.In h) (G:h.Ns mainGlobals mg) (d:Jc K x st) (hb:∀ (kV doc pm:Value) (an:Option Addr) (cdv ct:Value),Yt (PySem.W.fnOf x x (defArgs st) (defBody st) (defScope st) .none kV doc pm an cdv ct) ps):Jp K mg x st ps:=by
 obtain ⟨f,oc,od,kV,doc,pm,an,cdv,ct,osl,a,l,c,k⟩:=d
 exact aj0 X G a l c k (hb kV doc pm an cdv ct)
theorem dfact {K:PySem.W.Frag} {x:Str} {st:Stmt} {f:Addr} {oc:Value} {od an:Option Addr} {osl:Array (Option Value)} {kV doc pm cdv ct:Value} (a:PySem.W.nsIn K mainGlobals x=some (some (.ref f))) (l:K.lookup f=some ⟨oc,od,.func (PySem.W.fnOf x x (defArgs st) (defBody st) (defScope st) .none kV doc pm an cdv ct),osl⟩)
  (c:PySem.W.codeIn K cdv x=true) (k:PySem.W.keepIn K (.ref f)=true):Jc K x st:=⟨f,oc,od,kV,doc,pm,an,cdv,ct,osl,a,l,c,k⟩
end M
set_option Elab.async false
set_option linter.all false
set_option maxRecDepth 100000
set_option maxHeartbeats 1000000
namespace M
open PySem PySem.Spec PyProof.Rows L2
section
variable {X:Cx} {EX:EXT}
end
end M
set_option Elab.async false
set_option linter.all false
set_option maxRecDepth 100000
set_option maxHeartbeats 1000000
namespace M
open PySem PySem.Spec PyProof.Rows L2
section
variable {K:PySem.W.Frag} {Z:ZS} {F H:Hp} {α:List Addr} {μ:Mu} {k:Nat} {a:Addr} {c:Cell} {d:D} {o:HO}
end
section
variable {X:Cx} {EX:EXT}
variable {a:Expr} {ma:MX} {p1 p2 q1 q2:Pos}
end
end M
set_option Elab.async false
set_option linter.all false
set_option maxRecDepth 100000
set_option maxHeartbeats 1000000
namespace M
open PySem PySem.Spec PyProof.Rows L2 PySem.Builtin PySem.Builtin.ObjectAttr
section
variable {α:Type} {Md:Model} {A:Around} {E:Value→Shared→Prop} {s:Shared}
end
section
variable {prog:Program} {w:World} {A:Around} {E:Value→Shared→Prop} {h:Heap} {g:Array GenState} {d:Drawn} {t:Nat} {os:OsState} {a:Addr} {o:Obj}
end
section
variable {prog:Program} {w:World} {κ:Type} [DecidableEq κ] {knd:KeyKind prog w κ} {A:Around} {E:Value→Shared→Prop} {h h':Heap} {it d l:Addr}
end
section
variable {X:Cx} {EX:EXT}
end
end M
set_option Elab.async false
set_option linter.all false
set_option maxRecDepth 100000
set_option maxHeartbeats 4000000
namespace M
open PySem PySem.Spec PyProof.Rows L2
section
variable {X:Cx} {EX:EXT} {scope:Scope} {T caps:List Str} {ix:List Nat} {tg iter elt:Expr} {ifs:List Expr} {g:MG} {t:MB} {m:MX} {pos:Pos}
end
end M
set_option Elab.async false
set_option linter.all false
set_option maxRecDepth 100000
set_option maxHeartbeats 4000000
namespace M
open PySem PySem.Spec PyProof.Rows L2
noncomputable def gy (K:PySem.W.Frag) (C:Addr):Bool:=match K.lookup C with
 | some ⟨.type "type",_,.cls c,ss⟩=>(match c.mro,ss.toList with
  | .ref C1::tl,[_,_,_,_,some (.builtin i),_]=>C1 == C && i == "ValueError.__new__" && !c.hasDel && PySem.W.tailIn K Ga tl && PySem.W.nsOkIn K c.ns && PySem.W.nsIn K c.ns "__init__" == some none
  | _,_=>false)
 | _=>false
theorem fi {K:PySem.W.Frag} {h:Heap} {N:Addr} {y:Str} (X:K.In h) (q:PySem.W.nsIn K N y=some none):h.nsMap N y=none:=by
 unfold PySem.W.nsIn at q
 split at q
 ·rename_i ho
  unfold Heap.nsMap
  rw [X _ _ ho]
  split at q
  ·cases Option.some.inj q
  ·rename_i z
   split at q
   ·cases q
   ·show nsFind _ _=_
    unfold nsFind findBy
    rw [← Array.find?_toList,z]
    rfl
 ·cases q
inductive OwnX0At (h:Heap) (C:Addr):Prop
 | mk (nm qn N bs bm hd sn sub ab col dd k0 k1 k2 k3 k5 mN:_):h.get? C=some (excClassObj nm qn C N bs bm hd sn sub ab col dd k0 k1 k2 k3 k5 "ValueError.__new__")→h.Ns N mN→mN "__init__"=none→OwnTail h Ga bm→OwnX0At h C
theorem gz {K:PySem.W.Frag} {h:Heap} {C:Addr} (X:K.In h) (q:gy K C=true):OwnX0At h C:=by
 unfold gy at q
 split at q
 ·rename_i dd c ss ho
  split at q
  ·rename_i C1 tl k0 k1 k2 k3 i k5 e1 e2
   simp only [Bool.and_eq_true,beq_iff_eq,Bool.not_eq_true'] at q
   obtain ⟨⟨⟨⟨⟨rfl,rfl⟩,q1⟩,q2⟩,q3⟩,q4⟩:=q
   obtain ⟨nm,bs,mro,ns,qn,hd,sn,sub,ab,col,del⟩:=c
   dsimp only at e1 q1 q3 q4
   subst e1 q1
   obtain ⟨l⟩:=ss
   simp only at e2
   subst e2
   exact ⟨nm,qn,ns,bs,tl,hd,sn,sub,ab,col,dd,k0,k1,k2,k3,k5,_,X _ _ ho,.of_isNs (PySem.W.isNs_of_in X q3),fi X q4,PySem.W.tail_of_in X q2⟩
  ·cases q
 ·cases q
theorem Ka {M:Model} {A:Around} {E:Value→Shared→Prop} {env:Env} {s:Shared} {x:Sem Value} {Q:Flow→Shared→Prop} {K:PySem.W.Frag} {C:Addr} (hq:gy K C=true) (hh:A.handled=none)
  (h:wpAny M A x (fun v s₁=>∃ e dx,v=.ref e∧K.In s₁.heap∧Dr e (.ref C) dx s₁.heap∧E (.ref e) s₁) E s):wpAny M A (raiseStmt env (some x) none) Q E s:=by
 unfold raiseStmt
 refine wpAny_bind (wpAny_mono h (fun v s₁ h₁=>?_) fun _ _ x=>x)
 obtain ⟨e,dx,rfl,X,⟨t,he⟩,hE⟩:=h₁
 obtain ⟨nm,qn,N,bs,bm,hd,sn,sub,ab,col,dd,k0,k1,k2,k3,k5,mN,hC,hn,hi,T⟩:=gz X hq
 have hcB:(Value.ref C::bm).contains (.type "BaseException")=true:=by rw [List.contains_cons,T.hasType (show Ga.contains (.type "BaseException")=true by decide),Bool.or_true]
 obtain ⟨hp,g,d,tk,os⟩:=s₁
 repeat (first | with_reducible refine wpAny_loadPart_at he ?_ | with_reducible refine wpAny_loadPart_at hC ?_ | (with_reducible refine wpAny_isSubtype_exc hC ?_;rw [hcB]) | wp_step)
 exact wpAny_raiseNew_none hh hE
section
variable {prog:Program} {w:World} {A:Around} {E:Value→Shared→Prop} {h:Heap} {g:Array GenState} {d:Drawn} {t:Nat} {os:OsState}
variable {nm q:Str} {C N:Addr} {bs bm bmB:List Value} {hdct:Bool} {sn:List Str} {sub:List Value} {ab:Bool} {col:Option Bool} {dd:Option Addr} {k0 k1 k2 k3 k5:Option Value} {B newId initId:String}
theorem f7 (F:ExcBaseFacts B newId initId bmB) (T:OwnTail h bmB bm) {mN:Str→Option Value} {us:List Value} {Q:Fin→Shared→Prop}
  (hC:h.get? C=some (excClassObj nm q C N bs bm hdct sn sub ab col dd k0 k1 k2 k3 k5 newId)) (hn:h.Ns N mN) (hni:mN "__init__"=none) (hu:us.length≤sizeLine)
  (hq:∀ h' t',(∀ b o,h.get? b=some o→h'.get? b=some o)→h'.get? (h.objs.size + 1)=some { cls:=.ref C,data:=.fields #[.ref t',.none,.none,.none,.bool false,.none]}→Q (.done (.ret (.ref (h.objs.size + 1)))) ⟨h',g,d,t,os⟩) :
  wpAny (model prog w) A (Builtin.«type.__call__» ⟨.ref C::us,[]⟩) Q E ⟨h,g,d,t,os⟩:=by
 repeat (first | with_reducible refine wpAny_loadPart_at hC ?_ | with_reducible refine wpAny_madeBy_exc hC ?_ | wp_step)
 refine codeAny_call_builtin_code (Code.quiet_builtin _ F.quiet) (wpAny_check_new_subT F T hC (codeAny_exc_new_subT F T hC ?_ hu))
 have c1:(xp h C us).get? C=some _:=Heap.get?_push_of_some _ (Heap.get?_push_of_some _ hC)
 have n1:(xp h C us).Ns N mN:=hn.keeps fun b o e=>Heap.get?_push_of_some _ (Heap.get?_push_of_some _ e)
 have e1:(xp h C us).get? (h.objs.size + 1)=some (bz C h.objs.size):=Heap.get?_push_at (by rw [Heap.size_push]) rfl
 have k1:(Value.ref C::bm).contains (.ref C)=true:=by simp
 have t1:OwnTail (xp h C us) bmB bm:=T.keeps fun b o e=>Heap.get?_push_of_some _ (Heap.get?_push_of_some _ e)
 show wpAny _ _ _ _ _ _
 unfold isInstance
 repeat (first | with_reducible refine wpAny_loadPart_at e1 ?_ | (with_reducible refine wpAny_isSubtype_exc c1 ?_;rw [k1]) | wp_step)
 show wpAny _ _ (typeLookup (.ref C) _) _ _ _
 refine wpAny_typeLookup_tail c1 n1 t1 F.mroIs F.init.lookup ?_
 rw [hni]
 refine wpAny_holding (wpAny_bind (wpAny_of_eq (F.init.bind _) ?_))
 refine wpAny_bind (wpAny_call (codeAny_call_builtin F.init.plain F.initEntry (wpAny_check_init_subT F t1 c1 e1 rfl ?_)))
 wp_walk
 refine hq _ (h.objs.size + 2) (fun b o hb=>?_) ?_
 ·rw [Heap.get?_update_other _ _ (Nat.ne_of_gt (Nat.lt_succ_of_lt (Heap.lt_size hb)))]
  exact Heap.get?_push_of_some _ (Heap.get?_push_of_some _ (Heap.get?_push_of_some _ hb))
 ·rw [Heap.get?_update_self _ (Heap.get?_push_of_some _ e1) rfl]
  simp only [Heap.size_push]
  rfl
theorem C9 (F:ExcBaseFacts B newId initId bmB) (T:OwnTail h bmB bm) {mN:Str→Option Value} {us:List Value} {Q:Value→Shared→Prop}
  (hC:h.get? C=some (excClassObj nm q C N bs bm hdct sn sub ab col dd k0 k1 k2 k3 k5 newId)) (hn:h.Ns N mN) (hni:mN "__init__"=none) (hu:us.length≤sizeLine)
  (hq:∀ h' t',(∀ b o,h.get? b=some o→h'.get? b=some o)→h'.get? (h.objs.size + 1)=some { cls:=.ref C,data:=.fields #[.ref t',.none,.none,.none,.bool false,.none]}→Q (.ref (h.objs.size + 1)) ⟨h',g,d,t,os⟩) :
  wpAny (model prog w) A (call (.ref C) us) Q E ⟨h,g,d,t,os⟩:=by
 have f1:=tc_lookup
 have f2:=tc_bind (.ref C)
 have hT:(⟨h,g,d,t,os⟩:Shared).TypeIs (.ref C) "type":=⟨_,hC,rfl⟩
 refine wpAny_call (codeAny_of_tree ?_)
 show wpAny (model prog w) _ (callAny (.ref C) ⟨us,[]⟩) _ _ _
 repeat (any_goals (first | assumption | with_reducible refine wpAny_loadPart_at hC ?_ | wp_step))
 exact ⟨rfl,codeAny_call_builtin_at (Code.quiet_builtin _ (by decide +kernel)) entry_typeCall (wpAny_check_type_call_sub hC (f7 F T hC hn hni hu hq))⟩
end
noncomputable def Em (k:Nat):MSt:=fun _ μ=>.exc ⟨k,.non⟩ μ
noncomputable def a88 (K:PySem.W.Frag) (mg:Str→Option Value) (x:Str):Prop:=mg x=some (.ref (cA K x))∧gy K (cA K x)=true∧PySem.W.keepIn K (.ref (cA K x))=true
theorem ag0 {X:Cx} {E:XK} {x:Str} {k ki:Nat} {xc:XCs} {p cpos pos:Pos} (R:a88 X.K X.mg x) (hx:xc k=(x,none)) (hr:Room ki X.A) (hg:Gl X x) (hdb:(x == ("__debug__":Str))=false:=by decide)
  (he:∀ env,starEach [] env=([]:List (Bool×Sem Value)):=by intro env;rfl) :
  MS (tryX X X.pn (Rz X E)) (exT X.K xc E) (.Raise (some (.Call (.Name x p) [] [] cpos)) none pos) (Em k):=by
 obtain ⟨hm,own,kp⟩:=R
 refine ⟨fun _ σ H=>∀ a,H a=none→E (.ref a) (some a) (upd H a (.ext (U9 a (.ref (cA X.K x)) none))),fun pins s0 σ H0 D I h=>?_,fun Z α G H σ ρ μ D R g a ha=>?_⟩
 ·have hm':(tryX X X.pn (Rz X E)).mg x=some (.ref (cA X.K x)):=hm
  have okX:X.Ok:=⟨I.ok.mod,I.ok.kind,I.ok.glob,I.ok.blt,I.ok.above,I.ok.inj,I.ok.has,I.ok.cab,I.ok.hd,I.ok.frames,I.ok.stk,I.ok.exf,I.ok.bs,I.ok.bsz,I.ok.noex,I.ok.exfs,I.ok.funs,I.ok.frf⟩
  rw [arm_exec_Raise]
  refine wpAny_bind (wpAny_standAt (Ka own hr.hd ?_))
  refine wpAny_bind (wpAny_mono (wpAny_Call_Name_kw (zq I (show Gl (tryX X X.pn (Rz X E)) x from hg) hm' ?_ hdb)) (fun v s₃ h₃=>wpAny_bind (wpAny_standAt (wpAny_pure h₃))) fun _ _ x=>x)
  refine PySem.W.callWith_K0 I.kIn kp ?_
  obtain ⟨nm',qn,N',bs,bm,hd,sn,sub,ab,col,dd,k0,k1,k2,k3,k5,mN,hC,hn,hi',T⟩:=gz I.kIn own
  have hsz:=fun a=>I.hok.fresh (a:=a)
  obtain ⟨hp,g,d,tk,os⟩:=s0
  refine C9 (us:=[]) PySem.F.excBase_ValueError T hC hn hi' (Nat.zero_le _) fun h' t ks ht=>?_
  have hle:hp.objs.size≤hp.objs.size + 1:=Nat.le_succ _
  generalize hp.objs.size + 1=e at ht hle
  have I2:=I.laid (a:=e) (o:=.ext (U9 e (.ref (cA X.K x)) none)) (h':=h') (t':=tk) ks hle (Fv ⟨_,_,ht⟩)
  have raw:Dr e (.ref (cA X.K x)) none h':=⟨t,ht⟩
  exact ⟨e,none,rfl,I2.kIn,raw,⟨pins,σ,_,e,.ref (cA X.K x),none,none,rfl,Qv I2 okX,.inl raw.x,jt,(fun T z=>by cases z),Nat.le_trans I.sz hle,h e (I.hok.fresh hle)⟩⟩
 ·have eH:del (upd H a (.ext (U9 a (.ref (cA X.K x)) none))) a a=H:=by
   funext b
   unfold del
   split
   ·rename_i z
    rcases z with z | z <;> rw [z,ha]
   ·rename_i z
    rw [jw (fun q=>z (.inl q))]
  refine g a a .non α G _ (by rw [eH];exact R.hp) Zd ?_
  show XH X.K (xc k) _ a a .non
  rw [hx]
  exact ⟨rfl,jt⟩
end M
set_option Elab.async false
set_option linter.all false
set_option maxRecDepth 100000
set_option maxHeartbeats 4000000
local macro_rules | `(tactic| walk_at "bs")=> `(tactic| (rename_i us hl;first | (have e := M.len_0 hl;subst e;rfl) | (obtain ⟨_, e⟩ := M.len_1 hl;subst e;rfl) | (obtain ⟨_, _, e⟩ := M.len_2 hl;subst e;rfl) | (obtain ⟨_, _, _, e⟩ := M.len_3 hl;subst e;rfl) | (obtain ⟨_, _, _, _, e⟩ := M.len_4 hl;subst e;rfl) | (obtain ⟨_, _, _, _, _, e⟩ := M.len_5 hl;subst e;rfl)))
local macro_rules | `(tactic| walk_at "dm")=> `(tactic| (refine' M.dfact ?a ?l ?c ?k;(case a=>k_is);(case l=>k_is);(case c=>k_is);(case k=>k_is)))
namespace K21
open PySem PySem.Spec PyProof.Rows L2 M
noncomputable def top (i:Nat):Stmt:=PySem.Challenge.pw_netsieve_k21_need.main.body.getD i (.Pass ⟨0,0,0,0⟩)
noncomputable abbrev b5:Stmt:=top 35
noncomputable abbrev a63:Stmt:=top 36
noncomputable abbrev Xl:Stmt:=top 43
noncomputable abbrev s_p_Machine__init__:Stmt:=(a51 (top 23)).getD 0 (.Pass ⟨0,0,0,0⟩)
noncomputable abbrev Zf:Stmt:=top 27
noncomputable abbrev ye:Stmt:=top 28
noncomputable abbrev Xk:Stmt:=top 31
noncomputable abbrev Ql:Stmt:=top 12
noncomputable abbrev Um:Stmt:=top 11
noncomputable abbrev Zg:Stmt:=top 10
noncomputable abbrev Qk:Stmt:=top 30
noncomputable abbrev Zh:Stmt:=top 29
noncomputable abbrev v3:Stmt:=top 33
noncomputable abbrev Ze:Stmt:=top 32
noncomputable abbrev Qj:Stmt:=top 26
noncomputable abbrev v4:Stmt:=top 25
noncomputable abbrev ej:Stmt:=top 24
noncomputable abbrev jb:Stmt:=top 21
noncomputable abbrev jk:Stmt:=top 20
noncomputable abbrev yd:Stmt:=top 19
noncomputable abbrev J8:Stmt:=top 17
noncomputable abbrev yp:Stmt:=top 18
noncomputable abbrev Jn:Stmt:=top 16
noncomputable abbrev Ca:Stmt:=top 53
noncomputable abbrev Vy:Stmt:=top 45
noncomputable abbrev Xm:Stmt:=top 44
noncomputable abbrev el:Stmt:=top 51
noncomputable abbrev Cc:Stmt:=top 52
noncomputable abbrev Kg:Stmt:=top 54
noncomputable def xc:XCs:=fun k=>match k with
 | 0=>("TooDeep",none)
 | _=>("",none)
noncomputable abbrev j4:Str→Bool:=fun c=>(["Machine"]:List Str).contains c
noncomputable def J1:List Nat:=[110,117,109,98,101,114]
theorem Jv:(Str.ofString "number")=⟨J1.toArray⟩:=by decide +kernel
noncomputable def Ug:List Nat:=[108,101,110]
theorem yf:(Str.ofString "len")=⟨Ug.toArray⟩:=by decide +kernel
noncomputable def Jz:List Nat:=[112,108,117,115]
theorem qa:(Str.ofString "plus")=⟨Jz.toArray⟩:=by decide +kernel
noncomputable def Js:List Nat:=[120,111,114]
theorem Zs:(Str.ofString "xor")=⟨Js.toArray⟩:=by decide +kernel
noncomputable def J0:List Nat:=[109,105,110,117,115]
theorem Z4:(Str.ofString "minus")=⟨J0.toArray⟩:=by decide +kernel
noncomputable def u9:List Nat:=[111,114]
theorem xu:(Str.ofString "or")=⟨u9.toArray⟩:=by decide +kernel
noncomputable def Uw:List Nat:=[108,111,97,100]
theorem Ua:(Str.ofString "load")=⟨Uw.toArray⟩:=by decide +kernel
noncomputable def Jw:List Nat:=[97,110,100]
theorem Zp:(Str.ofString "and")=⟨Jw.toArray⟩:=by decide +kernel
noncomputable def ji:List Nat:=[97,98,111,118,101]
theorem Z5:(Str.ofString "above")=⟨ji.toArray⟩:=by decide +kernel
noncomputable def Jf:List Nat:=[98,101,108,111,119]
theorem Xv:(Str.ofString "below")=⟨Jf.toArray⟩:=by decide +kernel
noncomputable def yk:List Nat:=[116,101,108,108]
theorem qc:(Str.ofString "tell")=⟨yk.toArray⟩:=by decide +kernel
noncomputable def Zr:List Nat:=[116,101,108,108,97]
theorem Gh:(Str.ofString "tella")=⟨Zr.toArray⟩:=by decide +kernel
noncomputable def qb:List Nat:=[115,101,116,120]
theorem Wd:(Str.ofString "setx")=⟨qb.toArray⟩:=by decide +kernel
noncomputable def w_tax:List Nat:=[116,97,120]
theorem w_tax_eq:(Str.ofString "tax")=⟨w_tax.toArray⟩:=by decide +kernel
noncomputable def w_keep:List Nat:=[107,101,101,112]
theorem w_keep_eq:(Str.ofString "keep")=⟨w_keep.toArray⟩:=by decide +kernel
noncomputable def Y8:List Nat:=[106,117,109,112]
theorem Q2:(Str.ofString "jump")=⟨Y8.toArray⟩:=by decide +kernel
noncomputable def Gf:List Nat:=[105,102]
theorem Fg:(Str.ofString "if")=⟨Gf.toArray⟩:=by decide +kernel
noncomputable def ze:List Nat:=[105,102,120]
theorem Zq:(Str.ofString "ifx")=⟨ze.toArray⟩:=by decide +kernel
noncomputable def w_x:List Nat:=[120]
theorem Cs:(Str.ofString "x")=⟨w_x.toArray⟩:=by decide +kernel
noncomputable def Fh:List Nat:=[115,101,116]
theorem Ko:(Str.ofString "set")=⟨Fh.toArray⟩:=by decide +kernel
noncomputable def a59:List Nat:=[116,120,97]
theorem Cr:(Str.ofString "txa")=⟨a59.toArray⟩:=by decide +kernel
noncomputable def ak7:List Nat:=[100,111]
theorem A2:(Str.ofString "do")=⟨ak7.toArray⟩:=by decide +kernel
noncomputable def ja:List Nat:=[116,105,109,101,115]
theorem Xy:(Str.ofString "times")=⟨ja.toArray⟩:=by decide +kernel
noncomputable def jl:List Nat:=[111,118,101,114]
theorem Q0:(Str.ofString "over")=⟨jl.toArray⟩:=by decide +kernel
noncomputable def jg:List Nat:=[114,101,115,116]
theorem Wc:(Str.ofString "rest")=⟨jg.toArray⟩:=by decide +kernel
noncomputable def w_left:List Nat:=[108,101,102,116]
theorem Q1:(Str.ofString "left")=⟨w_left.toArray⟩:=by decide +kernel
noncomputable def Ff:List Nat:=[100,111,120]
theorem Kn:(Str.ofString "dox")=⟨Ff.toArray⟩:=by decide +kernel
noncomputable def uw:List Nat:=[101,113,117,97,108]
theorem Gb:(Str.ofString "equal")=⟨uw.toArray⟩:=by decide +kernel
noncomputable def J2:List Nat:=[108,101,97,115,116]
theorem Xw:(Str.ofString "least")=⟨J2.toArray⟩:=by decide +kernel
noncomputable def u6:List Nat:=[116,114,117,116,104]
theorem uv:(Str.ofString "truth")=⟨u6.toArray⟩:=by decide +kernel
noncomputable def y1:List Nat:=[115,116,101,112]
theorem uq:(Str.ofString "step")=⟨y1.toArray⟩:=by decide +kernel
noncomputable def V6:List Nat:=[102,101,116,99,104]
theorem Gc:(Str.ofString "fetch")=⟨V6.toArray⟩:=by decide +kernel
noncomputable def w_not:List Nat:=[110,111,116]
theorem Xx:(Str.ofString "not")=⟨w_not.toArray⟩:=by decide +kernel
noncomputable def Yl:List Nat:=[98,111,116,104]
theorem Q3:(Str.ofString "both")=⟨Yl.toArray⟩:=by decide +kernel
noncomputable def Ur:List Nat:=[101,105,116,104,101,114]
theorem Ym:(Str.ofString "either")=⟨Ur.toArray⟩:=by decide +kernel
noncomputable def V5:List Nat:=[102,105,114,115,116]
theorem Ge:(Str.ofString "first")=⟨V5.toArray⟩:=by decide +kernel
noncomputable def ue:List Nat:=[115,97,109,101]
theorem Dx:(Str.ofString "same")=⟨ue.toArray⟩:=by decide +kernel
noncomputable def Jj:List Nat:=[117,110,108,105,107,101]
theorem Kp:(Str.ofString "unlike")=⟨Jj.toArray⟩:=by decide +kernel
noncomputable def ud:List Nat:=[109,111,115,116]
theorem Dw:(Str.ofString "most")=⟨ud.toArray⟩:=by decide +kernel
noncomputable def w_right:List Nat:=[114,105,103,104,116]
theorem Gg:(Str.ofString "right")=⟨w_right.toArray⟩:=by decide +kernel
noncomputable def c_DIVIDING:D:=(.tup [(.str jl),(.str jg)])
noncomputable def c_WIDTH:D:=(.int 32)
noncomputable def c_ROUND:D:=(.int 4294967296)
noncomputable def c_OPS:D:=(.tup [(.str Jz),(.str J0),(.str ja),(.str jl),(.str jg),(.str Jw),(.str u9),(.str Js),(.str w_left),(.str w_right)])
noncomputable def c_SLOTS:D:=(.int 8)
noncomputable def wv:List DK:=[.inr ue,.inr Jj,.inr ji,.inr ud,.inr J2,.inr Jf]
noncomputable def Wv:List D:=[(.tup [(.str uw),(.bl true)]),(.tup [(.str uw),(.bl false)]),(.tup [(.str ji),(.bl true)]),(.tup [(.str ji),(.bl false)]),(.tup [(.str J2),(.bl true)]),(.tup [(.str J2),(.bl false)])]
noncomputable def aj7:MSt:=(jz (jd (Vh (mVar 0))
  (je (mBin gIdx (mVar 0) (mBin ux (mVar 1) (J5 yq (mCons (mVar 0) mNil)))))
  jp)
  (je (mC (.int 0))))
noncomputable def Fw:Fn:=fnOf 0 aj7
noncomputable def ar8:MSt:=(jz (Ju 2 (mBin ux (mBin uc (jq Fw (mCons (mVar 0) (mCons (mVar 1) mNil))) (mBin yr (mC (.int 104729)) (mBin uc (mVar 1) (mC (.int 1))))) (mC (.int 4294967291))))
  (jz (Ju 2 (mBin ux (mBin yr (mVar 2) (mC (.int 48271))) (mC (.int 4294967279))))
  (je (mBin ux (mBin uc (mBin yr (mBin Ul (mVar 2) (mC (.int 64))) (mC (.int 69621))) (mVar 2)) (mC (.int 4294967231))))))
noncomputable def yx:Fn:=fnOf 1 ar8
noncomputable def ae:MSt:=(jz (Ju 2 (mBin gIdx (yt (mCons (mC (.int 0)) (mCons (mC (.int 1)) (mCons (mC (.int 3)) (mCons (mC (.int 20)) (mCons (mC (.int 34)) (mCons (mC (.int 60)) mNil))))))) (mBin ux (jq yx (mCons (mVar 0) (mCons (mVar 1) mNil))) (mC (.int 6)))))
  (je (vn 1 [0,1] (gN 0) (uf (mVar 2)) mTT (mBin ux (mBin Ul (jq yx (mCons (mVar 1) (mCons (mBin uc (mBin uc (mVar 2) (mC (.int 1))) (mBin ux (mVar 0) (mC (.int 40)))) mNil))) (mBin uc (mC (.int 1)) (mVar 0))) (mC (.int 256))))))
noncomputable def zw:Fn:=fnOf 1 ae
noncomputable def zg:MSt:=(jz (U4 j4 "hand" (mVar 0) (mC (.int 0)))
  (jz (U4 j4 "other" (mVar 0) (mC (.int 0)))
  (jz (U4 j4 "slots" (mVar 0) Ek)
  (jz (U4 j4 "place" (mVar 0) (mC (.int 0)))
  (jz (U4 j4 "done" (mVar 0) (mC (.int 0)))
  (U4 j4 "told" (mVar 0) (mC .non)))))))
noncomputable def Jo:Fn:=fnOf 0 zg
noncomputable def Kv:MSt:=(jd (j5 (mBin gEq (mBin gIdx (mVar 1) (mC (.int 0))) (mC (.str qb))))
  (U4 j4 "other" (mVar 0) (mBin gIdx (mVar 1) (mC (.int 1))))
  (jd (j5 (mBin gEq (mBin gIdx (mVar 1) (mC (.int 0))) (mC (.str w_tax))))
  (U4 j4 "other" (mVar 0) (Jl j4 "hand" (mVar 0)))
  (Da (Jl j4 "slots" (mVar 0)) (mBin gIdx (mVar 1) (mC (.int 1))) (Jl j4 "hand" (mVar 0)))))
noncomputable def Yu:Fn:=fnOf 0 Kv
noncomputable def Qo:MSt:=(jd (j5 (Yo (mVar 1)))
  (U4 j4 "told" (mVar 0) (mC (.int 0)))
  (U4 j4 "hand" (mVar 0) (mVar 1)))
noncomputable def Jk:Fn:=fnOf 0 Qo
noncomputable def Ud:MSt:=(Ju 3 (mBin uc (mBin yr (mVar 3) (mC (.int 256))) (mVar 4)))
noncomputable def Fo:MSt:=(jz (jd (mOr (j5 (mBin gLt (mVar 2) (mC (.int 0)))) (j5 (mBin gGt (mBin uc (mVar 2) (mVar 1)) (J5 yq (mCons (mVar 0) mNil)))))
  (je (mC .non))
  jp)
  (jz (Ju 3 (mC (.int 0)))
  (jz (gi (gN 4) (w6 (mSl (mVar 0) (vt (mVar 2)) (vt (mBin uc (mVar 2) (mVar 1))))) Ud)
  (je (mVar 3)))))
noncomputable def yy:Fn:=fnOf 2 Fo
noncomputable def Qa:MSt:=(jz (jd (j5 (mBin gGe (mVar 2) (mC c_WIDTH)))
  (je (mC (.int 0)))
  jp)
  (jz (Ju 3 (J5 cr (mCons (mVar 2) (mCons (mC (.int 0)) mNil))))
  (je (mIf (j5 (mBin gEq (mVar 0) (mC (.str w_left)))) (mBin a41 (mVar 1) (mVar 3)) (mBin a40 (mVar 1) (mVar 3))))))
noncomputable def U0:Fn:=fnOf 1 Qa
noncomputable def Jt:MSt:=(jz (jd (j5 (mBin gEq (mVar 0) (mC (.str Jz))))
  (je (mBin uc (mVar 1) (mVar 2)))
  jp)
  (jz (jd (j5 (mBin gEq (mVar 0) (mC (.str J0))))
  (je (mBin zx (mVar 1) (mVar 2)))
  jp)
  (jz (jd (j5 (mBin gEq (mVar 0) (mC (.str ja))))
  (je (mBin yr (mVar 1) (mVar 2)))
  jp)
  (jz (jd (j5 (mBin gEq (mVar 0) (mC (.str jl))))
  (je (mBin Ul (mVar 1) (mVar 2)))
  jp)
  (jz (jd (j5 (mBin gEq (mVar 0) (mC (.str jg))))
  (je (mBin ux (mVar 1) (mVar 2)))
  jp)
  (jz (jd (j5 (mBin gEq (mVar 0) (mC (.str Jw))))
  (je (mBin a43 (mVar 1) (mVar 2)))
  jp)
  (jz (jd (j5 (mBin gEq (mVar 0) (mC (.str u9))))
  (je (mBin ai3 (mVar 1) (mVar 2)))
  jp)
  (jz (jd (j5 (mBin gEq (mVar 0) (mC (.str Js))))
  (je (mBin ai1 (mVar 1) (mVar 2)))
  jp)
  (je (jq U0 (mCons (mVar 0) (mCons (mVar 1) (mCons (mVar 2) mNil)))))))))))))
noncomputable def ju:Fn:=fnOf 0 Jt
noncomputable def Uz:MSt:=(jz (jd (w9 (j5 (mBin gIn (mVar 0) (mC c_DIVIDING))) (j5 (mBin gEq (mVar 2) (mC (.int 0)))))
  (je (mC .non))
  jp)
  (je (mBin ux (jq ju (mCons (mVar 0) (mCons (mVar 1) (mCons (mVar 2) mNil)))) (mC c_ROUND))))
noncomputable def jx:Fn:=fnOf 0 Uz
noncomputable def Gm:MSt:=(jz (jd (j5 (mBin (a42 true) (mVar 1) (Jl j4 "slots" (mVar 0))))
  ah0
  jp)
  (je (mBin Ux (Jl j4 "slots" (mVar 0)) (mVar 1))))
noncomputable def Qc:Fn:=fnOf 0 Gm
noncomputable def Kw:MSt:=(jz (jd (j5 (mBin gEq (mBin gIdx (mVar 1) (mC (.int 0))) (mC (.str Uw))))
  (jz (Ju 3 (mIf (j5 (mBin gEq (mBin gIdx (mVar 1) (mC (.int 2))) (mC (.str w_x)))) (Jl j4 "other" (mVar 0)) (mC (.int 0))))
  (je (jq yy (mCons (mVar 2) (mCons (mBin gIdx (mVar 1) (mC (.int 1))) (mCons (mBin uc (mVar 3) (mBin gIdx (mVar 1) (mC (.int 3)))) mNil))))))
  jp)
  (jz (jd (j5 (mBin gEq (mBin gIdx (mVar 1) (mC (.int 0))) (mC (.str Ug))))
  (je (J5 yq (mCons (mVar 2) mNil)))
  jp)
  (jz (jd (j5 (mBin gEq (mBin gIdx (mVar 1) (mC (.int 0))) (mC (.str Fh))))
  (je (mBin gIdx (mVar 1) (mC (.int 1))))
  jp)
  (jz (jd (j5 (mBin gEq (mBin gIdx (mVar 1) (mC (.int 0))) (mC (.str a59))))
  (je (Jl j4 "other" (mVar 0)))
  jp)
  (jz (jd (j5 (mBin gEq (mBin gIdx (mVar 1) (mC (.int 0))) (mC (.str ak7))))
  (je (jq jx (mCons (mBin gIdx (mVar 1) (mC (.int 1))) (mCons (Jl j4 "hand" (mVar 0)) (mCons (mBin gIdx (mVar 1) (mC (.int 2))) mNil)))))
  jp)
  (jz (jd (j5 (mBin gEq (mBin gIdx (mVar 1) (mC (.int 0))) (mC (.str Ff))))
  (je (jq jx (mCons (mBin gIdx (mVar 1) (mC (.int 1))) (mCons (Jl j4 "hand" (mVar 0)) (mCons (Jl j4 "other" (mVar 0)) mNil)))))
  jp)
  (je (jq Qc (mCons (mVar 0) (mCons (mBin gIdx (mVar 1) (mC (.int 1))) mNil))))))))))
noncomputable def U6:Fn:=fnOf 1 Kw
noncomputable def Cy:MSt:=(jz (jd (j5 (mBin gEq (mVar 0) (mC (.str uw))))
  (je (mBin gEq (mVar 1) (mVar 2)))
  jp)
  (jz (jd (j5 (mBin gEq (mVar 0) (mC (.str ji))))
  (je (mBin gGt (mVar 1) (mVar 2)))
  jp)
  (jz (jd (j5 (mBin gEq (mVar 0) (mC (.str J2))))
  (je (mBin gGe (mVar 1) (mVar 2)))
  jp)
  (je (mBin gNe (mBin a43 (mVar 1) (mVar 2)) (mC (.int 0)))))))
noncomputable def zp:Fn:=fnOf 0 Cy
noncomputable def Ku:MSt:=(jz (jd (j5 (mBin gEq (mBin gIdx (mVar 1) (mC (.int 0))) (mC (.str Y8))))
  (je (mBin gIdx (mVar 1) (mC (.int 1))))
  jp)
  (jz (jd (j5 (mBin gEq (mBin gIdx (mVar 1) (mC (.int 0))) (mC (.str Gf))))
  (je (mIf (Vh (jq zp (mCons (mBin gIdx (mVar 1) (mC (.int 1))) (mCons (Jl j4 "hand" (mVar 0)) (mCons (mBin gIdx (mVar 1) (mC (.int 2))) mNil))))) (mBin gIdx (mVar 1) (mC (.int 3))) (mBin gIdx (mVar 1) (mC (.int 4)))))
  jp)
  (jz (jd (j5 (mBin gEq (mBin gIdx (mVar 1) (mC (.int 0))) (mC (.str ze))))
  (je (mIf (Vh (jq zp (mCons (mBin gIdx (mVar 1) (mC (.int 1))) (mCons (Jl j4 "hand" (mVar 0)) (mCons (Jl j4 "other" (mVar 0)) mNil))))) (mBin gIdx (mVar 1) (mC (.int 2))) (mBin gIdx (mVar 1) (mC (.int 3)))))
  jp)
  (je (mC (.int 0))))))
noncomputable def Uc:Fn:=fnOf 0 Ku
noncomputable def Gk:MSt:=(jz (jd (j5 (mBin gEq (mBin gIdx (mVar 1) (mC (.int 0))) (mC (.str yk))))
  (U4 j4 "told" (mVar 0) (mBin gIdx (mVar 1) (mC (.int 1))))
  (jd (j5 (mBin gEq (mBin gIdx (mVar 1) (mC (.int 0))) (mC (.str Zr))))
  (U4 j4 "told" (mVar 0) (Jl j4 "hand" (mVar 0)))
  (jd (j5 (mBin gIn (mBin gIdx (mVar 1) (mC (.int 0))) (jf (mCons (mC (.str qb)) (mCons (mC (.str w_tax)) (mCons (mC (.str w_keep)) mNil))))))
  (u2 (jq Yu (mCons (mVar 0) (mCons (mVar 1) mNil))))
  (jd (j5 (mBin wc (mBin gIdx (mVar 1) (mC (.int 0))) (jf (mCons (mC (.str Y8)) (mCons (mC (.str Gf)) (mCons (mC (.str ze)) mNil))))))
  (u2 (jq Jk (mCons (mVar 0) (mCons (jq U6 (mCons (mVar 0) (mCons (mVar 1) (mCons (mVar 2) mNil)))) mNil))))
  jp))))
  (jz (gh j4 "done" (mVar 0) (mC (.int 1)))
  (gh j4 "place" (mVar 0) (mBin uc (mC (.int 1)) (jq Uc (mCons (mVar 0) (mCons (mVar 1) mNil)))))))
noncomputable def U1:Fn:=fnOf 0 Gk
noncomputable def ut:MSt:=(jz (jd (j5 (mBin gGe (Jl j4 "place" (mVar 2)) (J5 yq (mCons (mVar 0) mNil))))
  ah0
  jp)
  (u2 (jq U1 (mCons (mVar 2) (mCons (mBin gIdx (mVar 0) (Jl j4 "place" (mVar 2))) (mCons (mVar 1) mNil))))))
noncomputable def Cw:MSt:=(jz (Ju 2 (ag7 "Machine" Jo mNil))
  (jz (F4 2100 (j5 (Yo (Jl j4 "told" (mVar 2)))) ut)
  (je (mVar 2))))
noncomputable def Qs:Fn:=fnOf 1 Cw
noncomputable def a53:MSt:=(je (Jl j4 "told" (jq Qs (mCons (mVar 0) (mCons (mVar 1) mNil)))))
noncomputable def qp:Fn:=fnOf 0 a53
noncomputable def qg:MSt:=(jz (jd (j5 (mBin gGe (mVar 1) (mC c_SLOTS)))
  (Em 0)
  jp)
  (je (yt (mCons (jf (mCons (mC (.str J1)) (mCons (mBin gIdx (mVar 0) (mC (.int 1))) (mCons (mVar 1) mNil)))) (mCons (jf (mCons (mC (.str y1)) (mCons (jf (mCons (mC (.str w_keep)) (mCons (mVar 1) mNil))) mNil))) (mCons (jf (mCons (mC (.str J1)) (mCons (mBin gIdx (mVar 0) (mC (.int 2))) (mCons (mBin uc (mVar 1) (mC (.int 1))) mNil)))) (mCons (jf (mCons (mC (.str y1)) (mCons (jf (mCons (mC (.str w_tax)) mNil)) mNil))) (mCons (jf (mCons (mC (.str y1)) (mCons (jf (mCons (mC (.str V6)) (mCons (mVar 1) mNil))) mNil))) mNil))))))))
noncomputable def Jq:Fn:=fnOf 0 qg
noncomputable def zh:MSt:=(jz (jd (j5 (mBin gEq (mBin gIdx (mVar 0) (mC (.int 0))) (mC (.str J1))))
  (je (yt (mCons (jf (mCons (mC (.str y1)) (mCons (jf (mCons (mC (.str Fh)) (mCons (mBin gIdx (mVar 0) (mC (.int 1))) mNil))) mNil))) mNil)))
  jp)
  (jz (jd (j5 (mBin gEq (mBin gIdx (mVar 0) (mC (.int 0))) (mC (.str Uw))))
  (je (yt (mCons (jf (mCons (mC (.str J1)) (mCons (mBin gIdx (mVar 0) (mC (.int 2))) (mCons (mVar 1) mNil)))) (mCons (jf (mCons (mC (.str y1)) (mCons (jf (mCons (mC (.str w_tax)) mNil)) mNil))) (mCons (jf (mCons (mC (.str y1)) (mCons (jf (mCons (mC (.str Uw)) (mCons (mBin gIdx (mVar 0) (mC (.int 1))) (mCons (mC (.str w_x)) (mCons (mC (.int 0)) mNil))))) mNil))) mNil)))))
  jp)
  (jz (jd (j5 (mBin gIn (mBin gIdx (mVar 0) (mC (.int 0))) (mC c_OPS)))
  (je (mBin uc (yj Jq (mCons (mVar 0) (mCons (mVar 1) mNil))) (yt (mCons (jf (mCons (mC (.str y1)) (mCons (jf (mCons (mC (.str Ff)) (mCons (mBin gIdx (mVar 0) (mC (.int 0))) mNil))) mNil))) mNil))))
  jp)
  (je (yt (mCons (jf (mCons (mC (.str y1)) (mCons (jf (mCons (mC (.str Ug)) mNil)) mNil))) mNil))))))
noncomputable def J6:Fn:=fnOf 0 zh
noncomputable def Qn:MSt:=(jz (Ju 3 (mBin Ux (mC (.dic wv Wv)) (mVar 0)))
  (jz (jd (Vh (mBin gIdx (mVar 3) (mC (.int 1))))
  (je (jf (mCons (mC (.str ze)) (mCons (mBin gIdx (mVar 3) (mC (.int 0))) (mCons (mVar 1) (mCons (mVar 2) mNil))))))
  jp)
  (je (jf (mCons (mC (.str ze)) (mCons (mBin gIdx (mVar 3) (mC (.int 0))) (mCons (mVar 2) (mCons (mVar 1) mNil))))))))
noncomputable def Uu:Fn:=fnOf 1 Qn
noncomputable def Wq:MSt:=(jd (j5 (mBin gEq (mBin gIdx (mVar 0) (mC (.int 0))) (mC (.str u6))))
  (u2 (Us (mVar 3) (jf (mCons (mC (.str Y8)) (mCons (mBin zx (J5 yq (mCons (mVar 3) mNil)) (mIf (Vh (mBin gIdx (mVar 0) (mC (.int 1)))) (mVar 1) (mVar 2))) mNil)))))
  (jd (j5 (mBin gEq (mBin gIdx (mVar 0) (mC (.int 0))) (mC (.str w_not))))
  (u2 (Us (mVar 4) (jf (mCons (mC (.str u6)) (mCons (mBin gIdx (mVar 0) (mC (.int 1))) (mCons (mVar 2) (mCons (mVar 1) mNil)))))))
  (jd (j5 (mBin gIn (mBin gIdx (mVar 0) (mC (.int 0))) (jf (mCons (mC (.str Yl)) (mCons (mC (.str Ur)) mNil)))))
  (u2 (yn (mVar 4) (yt (mCons (jf (mCons (mC (.str V5)) (mCons (mVar 0) (mCons (mVar 1) (mCons (mVar 2) mNil))))) (mCons (jf (mCons (mC (.str u6)) (mCons (mBin gIdx (mVar 0) (mC (.int 2))) (mCons (mVar 1) (mCons (mVar 2) mNil))))) mNil)))))
  (jz (u2 (Us (mVar 3) (jq Uu (mCons (mBin gIdx (mVar 0) (mC (.int 0))) (mCons (mBin zx (J5 yq (mCons (mVar 3) mNil)) (mVar 1)) (mCons (mBin zx (J5 yq (mCons (mVar 3) mNil)) (mVar 2)) mNil))))))
  (u2 (yn (mVar 4) (yj Jq (mCons (mVar 0) (mCons (mC (.int 0)) mNil)))))))))
noncomputable def U8:Fn:=fnOf 0 Wq
noncomputable def qf:MSt:=(jz (jd (j5 (mBin gEq (mBin gIdx (mVar 0) (mC (.int 0))) (mC (.str Yl))))
  (je (jf (mCons (mC (.str u6)) (mCons (mBin gIdx (mVar 0) (mC (.int 1))) (mCons (mVar 3) (mCons (mVar 2) mNil))))))
  jp)
  (je (jf (mCons (mC (.str u6)) (mCons (mBin gIdx (mVar 0) (mC (.int 1))) (mCons (mVar 1) (mCons (mVar 3) mNil)))))))
noncomputable def U7:Fn:=fnOf 0 qf
noncomputable def Jg:MSt:=(jz (Ju 3 (a28 (mVar 2)))
  (jd (j5 (mBin gEq (mBin gIdx (mVar 3) (mC (.int 0))) (mC (.str y1))))
  (u2 (Us (mVar 1) (mBin gIdx (mVar 3) (mC (.int 1)))))
  (jd (j5 (mBin gEq (mBin gIdx (mVar 3) (mC (.int 0))) (mC (.str J1))))
  (u2 (yn (mVar 2) (yj J6 (mCons (mBin gIdx (mVar 3) (mC (.int 1))) (mCons (mBin gIdx (mVar 3) (mC (.int 2))) mNil)))))
  (jd (j5 (mBin gEq (mBin gIdx (mVar 3) (mC (.int 0))) (mC (.str u6))))
  (u2 (yj U8 (mCons (mBin gIdx (mVar 3) (mC (.int 1))) (mCons (mBin gIdx (mVar 3) (mC (.int 2))) (mCons (mBin gIdx (mVar 3) (mC (.int 3))) (mCons (mVar 1) (mCons (mVar 2) mNil)))))))
  (u2 (Us (mVar 2) (jq U7 (mCons (mBin gIdx (mVar 3) (mC (.int 1))) (mCons (mBin gIdx (mVar 3) (mC (.int 2))) (mCons (mBin gIdx (mVar 3) (mC (.int 3))) (mCons (J5 yq (mCons (mVar 1) mNil)) mNil)))))))))))
noncomputable def Kt:MSt:=(jz (Ju 1 (vp (mCons (jf (mCons (mC (.str yk)) (mCons (mC (.int 0)) mNil))) (mCons (jf (mCons (mC (.str yk)) (mCons (mC (.int 1)) mNil))) mNil))))
  (jz (Ju 2 (vp (mCons (jf (mCons (mC (.str u6)) (mCons (mVar 0) (mCons (mC (.int 2)) (mCons (mC (.int 1)) mNil))))) mNil)))
  (jz (F4 3000 (j5 (mBin gGt (J5 yq (mCons (mVar 2) mNil)) (mC (.int 0)))) Jg)
  (je (qx (mVar 1))))))
noncomputable def um:Fn:=fnOf 3 Kt
noncomputable def Ks (R:Nat→Fn):MSt:=(jz (jd (j5 (mBin gIn (mBin gIdx (mVar 0) (mC (.int 0))) (jf (mCons (mC (.str J1)) (mCons (mC (.str Ug)) mNil)))))
  (je (mC (.int 0)))
  jp)
  (jz (jd (j5 (mBin gEq (mBin gIdx (mVar 0) (mC (.int 0))) (mC (.str Uw))))
  (je (jq (R 0) (mCons (mBin gIdx (mVar 0) (mC (.int 2))) mNil)))
  jp)
  (je (J5 cr (mCons (jq (R 0) (mCons (mBin gIdx (mVar 0) (mC (.int 1))) mNil)) (mCons (mBin uc (mC (.int 1)) (jq (R 0) (mCons (mBin gIdx (mVar 0) (mC (.int 2))) mNil))) mNil))))))
noncomputable def yo:Nat→Nat→Fn
 | 0=>fun _ _ _=>.bad
 | k + 1=>fun i=>match i with
  | _=>fnOf 0 (Ks (yo k))
noncomputable def kx:Fn:=yo 20 0
noncomputable def a54:MSt:=(jz (jd (j5 (mBin gGt (mBin uc (mVar 1) (mVar 2)) (J5 yq (mCons (mVar 0) mNil))))
  (je (mC .non))
  jp)
  (je (J5 ai2 (mCons (vn 1 [0,1,2] (gN 0) (uf (mVar 2)) mTT (mBin yr (mBin gIdx (mVar 1) (mBin uc (mVar 2) (mVar 0))) (mBin gIdx (yt (mCons (mC (.int 1)) (mCons (mC (.int 256)) (mCons (mC (.int 65536)) (mCons (mC (.int 16777216)) mNil))))) (mBin zx (mBin zx (mVar 3) (mC (.int 1))) (mVar 0))))) mNil))))
noncomputable def zo:Fn:=fnOf 0 a54
noncomputable def Jm:MSt:=(Ju 1 (mIf (j5 (mBin gEq (mVar 0) (mC (.str w_left)))) (mBin yr (mVar 1) (mC (.int 2))) (mBin Ul (mVar 1) (mC (.int 2)))))
noncomputable def U5:MSt:=(jz (Ju 6 (jf (mCons (mBin ux (mBin Ul (mVar 1) (mVar 5)) (mC (.int 2))) (mCons (mBin ux (mBin Ul (mVar 2) (mVar 5)) (mC (.int 2))) mNil))))
  (jz (Ju 4 (mBin uc (mVar 4) (mBin yr (mVar 5) (J5 qu (mCons (mBin Ux (a29 [.inr Jw,.inr u9,.inr Js] (mCons (mBin gEq (mVar 6) (jf (mCons (mC (.int 1)) (mCons (mC (.int 1)) mNil)))) (mCons (mBin gNe (mVar 6) (jf (mCons (mC (.int 0)) (mCons (mC (.int 0)) mNil)))) (mCons (mBin gNe (mBin gIdx (mVar 6) (mC (.int 0))) (mBin gIdx (mVar 6) (mC (.int 1)))) mNil)))) (mVar 0)) mNil)))))
  (Ju 5 (mBin yr (mVar 5) (mC (.int 2))))))
noncomputable def ur:MSt:=(jz (jd (j5 (mBin gIn (mVar 0) (jf (mCons (mC (.str jl)) (mCons (mC (.str jg)) mNil)))))
  (jz (jd (j5 (mBin gEq (mVar 2) (mC (.int 0))))
  (je (mC .non))
  jp)
  (je (mIf (j5 (mBin gEq (mVar 0) (mC (.str jl)))) (mBin Ul (mVar 1) (mVar 2)) (mBin zx (mVar 1) (mBin yr (mBin Ul (mVar 1) (mVar 2)) (mVar 2))))))
  jp)
  (jz (jd (j5 (mBin gIn (mVar 0) (jf (mCons (mC (.str w_left)) (mCons (mC (.str w_right)) mNil)))))
  (jz (gi (gN 3) (uf (J5 ai4 (mCons (mVar 2) (mCons (mC (.int 33)) mNil)))) Jm)
  (je (mBin ux (mVar 1) (mC (.int 4294967296)))))
  jp)
  (jz (jd (j5 (mBin gIn (mVar 0) (jf (mCons (mC (.str Jw)) (mCons (mC (.str u9)) (mCons (mC (.str Js)) mNil))))))
  (jz (Ju 4 (mC (.int 0)))
  (jz (Ju 5 (mC (.int 1)))
  (jz (gi (gN 3) (uf (mC (.int 32))) U5)
  (je (mVar 4)))))
  jp)
  (je (mBin ux (mBin Ux (a29 [.inr Jz,.inr J0,.inr ja] (mCons (mBin uc (mVar 1) (mVar 2)) (mCons (mBin zx (mVar 1) (mVar 2)) (mCons (mBin yr (mVar 1) (mVar 2)) mNil)))) (mVar 0)) (mC (.int 4294967296)))))))
noncomputable def js:Fn:=fnOf 4 ur
noncomputable def Kx (R:Nat→Fn):MSt:=(jz (jd (j5 (mBin gEq (mBin gIdx (mVar 0) (mC (.int 0))) (mC (.str J1))))
  (je (mBin gIdx (mVar 0) (mC (.int 1))))
  jp)
  (jz (jd (j5 (mBin gEq (mBin gIdx (mVar 0) (mC (.int 0))) (mC (.str Ug))))
  (je (J5 yq (mCons (mVar 1) mNil)))
  jp)
  (jz (jd (j5 (mBin gEq (mBin gIdx (mVar 0) (mC (.int 0))) (mC (.str Uw))))
  (jz (Ju 2 (jq (R 0) (mCons (mBin gIdx (mVar 0) (mC (.int 2))) (mCons (mVar 1) mNil))))
  (je (mIf (j5 (Yo (mVar 2))) (mC .non) (jq zo (mCons (mVar 1) (mCons (mVar 2) (mCons (mBin gIdx (mVar 0) (mC (.int 1))) mNil)))))))
  jp)
  (jz (Ju 3 (jq (R 0) (mCons (mBin gIdx (mVar 0) (mC (.int 1))) (mCons (mVar 1) mNil))))
  (jz (Ju 4 (mIf (j5 (Yo (mVar 3))) (mC .non) (jq (R 0) (mCons (mBin gIdx (mVar 0) (mC (.int 2))) (mCons (mVar 1) mNil)))))
  (je (mIf (j5 (Yo (mVar 4))) (mC .non) (jq js (mCons (mBin gIdx (mVar 0) (mC (.int 0))) (mCons (mVar 3) (mCons (mVar 4) mNil)))))))))))
noncomputable def y8:Nat→Nat→Fn
 | 0=>fun _ _ _=>.bad
 | k + 1=>fun i=>match i with
  | _=>fnOf 3 (Kx (y8 k))
noncomputable def kz:Fn:=y8 20 0
noncomputable def Wr (R:Nat→Fn):MSt:=(jz (jd (j5 (mBin gEq (mBin gIdx (mVar 0) (mC (.int 0))) (mC (.str u6))))
  (je (J5 qu (mCons (mBin gIdx (mVar 0) (mC (.int 1))) mNil)))
  jp)
  (jz (jd (j5 (mBin gIn (mBin gIdx (mVar 0) (mC (.int 0))) (jf (mCons (mC (.str w_not)) (mCons (mC (.str Yl)) (mCons (mC (.str Ur)) mNil))))))
  (jz (Ju 2 (jq (R 0) (mCons (mBin gIdx (mVar 0) (mC (.int 1))) (mCons (mVar 1) mNil))))
  (jz (jd (mOr (j5 (mBin gLt (mVar 2) (mC (.int 0)))) (j5 (mBin gEq (mBin gIdx (mVar 0) (mC (.int 0))) (mC (.str w_not)))))
  (je (mIf (j5 (mBin gLt (mVar 2) (mC (.int 0)))) (mVar 2) (mBin zx (mC (.int 1)) (mVar 2))))
  jp)
  (je (mIf (j5 (mBin gEq (mVar 2) (J5 qu (mCons (mBin gEq (mBin gIdx (mVar 0) (mC (.int 0))) (mC (.str Ur))) mNil)))) (mVar 2) (jq (R 0) (mCons (mBin gIdx (mVar 0) (mC (.int 2))) (mCons (mVar 1) mNil)))))))
  jp)
  (jz (Ju 2 (jq kz (mCons (mBin gIdx (mVar 0) (mC (.int 1))) (mCons (mVar 1) mNil))))
  (jz (Ju 3 (mIf (j5 (Yo (mVar 2))) (mC .non) (jq kz (mCons (mBin gIdx (mVar 0) (mC (.int 2))) (mCons (mVar 1) mNil)))))
  (jz (jd (j5 (Yo (mVar 3)))
  (je (ag8 (mC (.int 1))))
  jp)
  (jz (Ju 4 (El [.inr ue,.inr Jj,.inr Jf,.inr ji] (mCons (mBin gEq (mVar 2) (mVar 3)) (mCons (mBin gNe (mVar 2) (mVar 3)) (mCons (mBin gLt (mVar 2) (mVar 3)) (mCons (mBin gGt (mVar 2) (mVar 3)) mNil))))))
  (jz (Da (mVar 4) (mC (.str ud)) (mBin gLe (mVar 2) (mVar 3)))
  (jz (Da (mVar 4) (mC (.str J2)) (mBin gGe (mVar 2) (mVar 3)))
  (je (J5 qu (mCons (mBin Ux (mVar 4) (mBin gIdx (mVar 0) (mC (.int 0)))) mNil)))))))))))
noncomputable def Zb:Nat→Nat→Fn
 | 0=>fun _ _ _=>.bad
 | k + 1=>fun i=>match i with
  | _=>fnOf 3 (Wr (Zb k))
noncomputable def ky:Fn:=Zb 20 0
noncomputable def xj:MSt:=(jz (Ju 3 (jq yx (mCons (mVar 0) (mCons (mBin uc (mC (.int 2)) (mVar 2)) mNil))))
  (jz (Ju 4 (mBin gIdx (yt (mCons (jf (mCons (mC (.str J1)) (mCons (mBin ux (mBin Ul (mVar 3) (mC (.int 8))) (mC (.int 30))) mNil))) (mCons (jf (mCons (mC (.str Ug)) mNil)) mNil))) (mBin ux (mVar 3) (mC (.int 2)))))
  (jz (Ju 5 (mBin gIdx (yt (mCons (mC (.str Jz)) (mCons (mC (.str Js)) (mCons (mC (.str J0)) (mCons (mC (.str u9)) mNil))))) (mBin ux (mBin Ul (mVar 3) (mC (.int 2))) (mC (.int 4)))))
  (jz (Ju 1 (mBin gIdx (yt (mCons (jf (mCons (mVar 5) (mCons (mVar 4) (mCons (mVar 1) mNil)))) (mCons (jf (mCons (mVar 5) (mCons (mVar 4) (mCons (mVar 1) mNil)))) (mCons (jf (mCons (mVar 5) (mCons (mVar 1) (mCons (mVar 4) mNil)))) mNil)))) (mBin ux (mBin Ul (mVar 3) (mC (.int 8))) (mC (.int 3)))))
  (jd (w9 (j5 (mBin gEq (mVar 2) (mC (.int 0)))) (j5 (mBin gEq (mBin ux (mBin Ul (mVar 3) (mC (.int 24))) (mC (.int 2))) (mC (.int 0)))))
  (Ju 1 (jf (mCons (mC (.str Uw)) (mCons (mC (.int 1)) (mCons (jf (mCons (mC (.str Jw)) (mCons (mVar 1) (mCons (jf (mCons (mC (.str J1)) (mCons (mC (.int 15)) mNil))) mNil)))) mNil)))))
  jp)))))
noncomputable def xt:MSt:=(Ju 7 (mVar 9))
noncomputable def ar9:MSt:=(jz (Ju 1 (jf (mCons (mC (.str J1)) (mCons (mBin ux (jq yx (mCons (mVar 0) (mCons (mC (.int 0)) mNil))) (mC (.int 30))) mNil))))
  (jz (gi (gN 2) (uf (mBin ux (jq yx (mCons (mVar 0) (mCons (mC (.int 1)) mNil))) (mC (.int 11)))) xj)
  (jz (Ju 1 (mBin gIdx (yt (mCons (jf (mCons (mC (.str ji)) (mCons (mVar 1) (mCons (jf (mCons (mC (.str J1)) (mCons (mC (.int 9)) mNil))) mNil)))) (mCons (jf (mCons (mC (.str Jf)) (mCons (jf (mCons (mC (.str Ug)) mNil)) (mCons (mVar 1) mNil)))) mNil))) (mBin ux (jq yx (mCons (mVar 0) (mCons (mC (.int 20)) mNil))) (mC (.int 2)))))
  (jz (Ju 6 (jq zw (mCons (mVar 0) (mCons (mC (.int 21)) mNil))))
  (jz (Ju 7 (mC .non))
  (jz (Ju 8 (mC .non))
  (jz (Ya 8 9 (fun k=>k == 0) xc (jq qp (mCons (yj um (mCons (mVar 1) mNil)) (mCons (mVar 6) mNil))) xt)
  (jz (jd (j5 (mBin gGt (jq kx (mCons (mVar 1) mNil)) (mC (.int 8))))
  (je (Z0 (w8 (fun c=>([("TooDeep",true)]:List (Str×Bool)).lookup c) (mVar 7)) (Z0 (w8 (fun c=>([("TooDeep",true)]:List (Str×Bool)).lookup c) (mVar 7)) (vq (w8 (fun c=>([("TooDeep",false)]:List (Str×Bool)).lookup c) (mVar 7))))))
  jp)
  (je (Z0 (Yo (mVar 7)) (mBin gEq (mVar 8) (J5 qu (mCons (mBin gEq (jq ky (mCons (mVar 1) (mCons (mVar 6) mNil))) (mC (.int 1))) mNil)))))))))))))
noncomputable def f_law:Fn:=fnOf 9 ar9
structure Tx (w:World) (K:PySem.W.Frag) (mg:Str→Option Value):Prop where
 n_len:mg "len"=none
 n_range:mg "range"=none
 n_max:mg "max"=none
 n_list:mg "list"=none
 n_reversed:mg "reversed"=none
 n_isinstance:mg "isinstance"=none
 n_ValueError:mg "ValueError"=none
 n_int:mg "int"=none
 n_sum:mg "sum"=none
 n_min:mg "min"=none
 c_DIVIDING:ym K mg "DIVIDING" c_DIVIDING
 c_WIDTH:ym K mg "WIDTH" c_WIDTH
 c_ROUND:ym K mg "ROUND" c_ROUND
 c_OPS:ym K mg "OPS" c_OPS
 c_SLOTS:ym K mg "SLOTS" c_SLOTS
 c_TEST_OF:Fj w K mg "TEST_OF" wv Wv
 m_SieveError:Dz K mg "SieveError"
 m_Machine:Dz K mg "Machine"
 m_TooDeep:Dz K mg "TooDeep"
 m_BadFilter:Dz K mg "BadFilter"
 z_TooDeep:a88 K mg "TooDeep"
 h_SieveError:a89 K mg "SieveError"
 s_TooDeep_SieveError:PySem.W.subIn K (.ref (cA K "TooDeep")) (.ref (cA K "SieveError"))=some true
 g_TooDeep:XGet K (cA K "TooDeep")
 k_TooDeep_TooDeep:PySem.W.kitOne K (.ref (cA K "TooDeep")) (.ref (cA K "TooDeep"))=some true
 k_TooDeep_ValueError:PySem.W.kitOne K (.ref (cA K "TooDeep")) (.type "ValueError")=some true
 k_TooDeep_BadFilter:PySem.W.kitOne K (.ref (cA K "TooDeep")) (.ref (cA K "BadFilter"))=some false
 o_Machine:Cls K (cA K "Machine")
 na_Machine_hand:Uy K (cA K "Machine") "hand"
 na_Machine_other:Uy K (cA K "Machine") "other"
 na_Machine_slots:Uy K (cA K "Machine") "slots"
 na_Machine_place:Uy K (cA K "Machine") "place"
 na_Machine_done:Uy K (cA K "Machine") "done"
 na_Machine_told:Uy K (cA K "Machine") "told"
 d_p_Machine__init__:MkD K mg "Machine" "Machine.__init__" s_p_Machine__init__ ["self"]
 d_cell:Jp K mg "_law_cell" b5 ["_law_script","_law_k_here"]
 d_mix:Jp K mg "_law_mix" a63 ["_law_script","_law_k_here"]
 d_packet:Jp K mg "_law_packet" Xl ["_law_script","_law_base"]
 d_p_put_away:Jp K mg "put_away" Zf ["machine","step"]
 d_p_take_in_hand:Jp K mg "take_in_hand" ye ["machine","value"]
 d_p_loaded:Jp K mg "loaded" Xk ["packet","size","start"]
 d_p_shifted:Jp K mg "shifted" Ql ["op","one","often"]
 d_p_plainly_reckoned:Jp K mg "plainly_reckoned" Um ["op","one","other"]
 d_p_reckoned:Jp K mg "reckoned" Zg ["op","one","other"]
 d_p_fetched:Jp K mg "fetched" Qk ["machine","slot"]
 d_p_value_of:Jp K mg "value_of" Zh ["machine","step","packet"]
 d_p_holds:Jp K mg "holds" v3 ["test","one","other"]
 d_p_distance:Jp K mg "distance" Ze ["machine","step"]
 d_p_do_step:Jp K mg "do_step" Qj ["machine","step","packet"]
 d_p_ended:Jp K mg "ended" v4 ["code","packet"]
 d_p_run:Jp K mg "run" ej ["code","packet"]
 d_p_tasks_of_pair:Jp K mg "tasks_of_pair" jb ["tree","slot"]
 d_p_tasks_of_number:Jp K mg "tasks_of_number" jk ["tree","slot"]
 d_p_step_of_test:Jp K mg "step_of_test" yd ["comparison","to_yes","to_no"]
 d_p_make_truth:Jp K mg "make_truth" J8 ["tree","yes","no","made","waiting"]
 d_p_task_of_first:Jp K mg "task_of_first" yp ["tree","yes","no","second"]
 d_p_compiled:Jp K mg "compiled" Jn ["tree"]
 d_need:Jp K mg "_law_need" Ca ["_law_tree"]
 d_bytes:Jp K mg "_law_bytes" Vy ["_law_packet_here","_law_at","_law_size"]
 d_reckoned:Jp K mg "_law_reckoned" Xm ["_law_op_here","_law_one","_law_other"]
 d_worth:Jp K mg "_law_worth" el ["_law_tree","_law_packet_here"]
 d_says:Jp K mg "_law_says" Cc ["_law_tree","_law_packet_here"]
 d_law:Jp K mg "law" Kg ["_law_script"]
section
variable {P:Program} {w:World} {K:PySem.W.Frag} {mg:Str→Option Value} {base:Heap}
theorem a14 (T:Tx w K mg):uj P w K mg base "_law_cell" 1 2 Fw:=fnC T.d_cell ["_law_script","_law_k_here"] ["len"] ⟨rfl,rfl,rfl,by decide +kernel,rfl,by decide +kernel,by decide +kernel⟩ (by decide +kernel) (by decide +kernel) rfl rfl fun _ _ _ _ _ _ _ hr C=>(j2 (jr (Yd (sv C 0 rfl) (fun _=>rfl))
  (j3 (j7 (me_idx (sv C 0 rfl) (me_bin om_mod (sv C 1 rfl) (Jh yv (C.g 0 rfl) T.n_len PySem.boot_len (ma_cons (sv C 0 rfl) ma_nil rfl))) (fun _ _=>rfl))))
  jy)
  (j3 (j7 me_int)))
theorem ok_mix (T:Tx w K mg):uj P w K mg base "_law_mix" 2 2 yx:=fnC T.d_mix ["_law_script","_law_k_here","_law_number_here"] ["_law_cell"] ⟨rfl,rfl,rfl,by decide +kernel,rfl,by decide +kernel,by decide +kernel⟩ (by decide +kernel) (by decide +kernel) rfl rfl fun _ _ _ _ _ _ _ hr C=>(j2 (sa C 2 rfl (me_bin om_mod (me_bin om_add (me_fn (a14 T) (hr.mono (by decide)) (C.g 0 rfl) (ma_cons (sv C 0 rfl) (ma_cons (sv C 1 rfl) ma_nil rfl) rfl) rfl) (me_bin om_mul me_int (me_bin om_add (sv C 1 rfl) me_int))) me_int))
  (j2 (sa C 2 rfl (me_bin om_mod (me_bin om_mul (sv C 2 rfl) me_int) me_int))
  (j3 (j7 (me_bin om_mod (me_bin om_add (me_bin om_mul (me_bin om_div (sv C 2 rfl) me_int) me_int) (sv C 2 rfl)) me_int)))))
theorem Dg (T:Tx w K mg):uj P w K mg base "_law_packet" 3 2 zw:=fnC T.d_packet ["_law_script","_law_base","_law_size"] ["_law_mix","range"] ⟨rfl,rfl,rfl,by decide +kernel,rfl,by decide +kernel,by decide +kernel⟩ (by decide +kernel) (by decide +kernel) rfl rfl fun _ _ _ _ _ _ _ hr C=>(j2 (sa C 2 rfl (me_idx (Uj (ma_cons me_int (ma_cons me_int (ma_cons me_int (ma_cons me_int (ma_cons me_int (ma_cons me_int ma_nil rfl) rfl) rfl) rfl) rfl) rfl)) (me_bin om_mod (me_fn (ok_mix T) (hr.mono (by decide)) (C.g 0 rfl) (ma_cons (sv C 0 rfl) (ma_cons (sv C 1 rfl) ma_nil rfl) rfl) rfl) me_int) (fun _ _=>rfl)))
  (j3 (j7 (Ep (T:=["_law_k_here"]) (caps:=["_law_script","_law_base"]) (ix:=[0,1]) (qi (show dg _ (defScope Xl)=true by decide +kernel)) (dc C.hN (by decide +kernel)) C.calm (ya (C.g 1 rfl) T.n_range (sv C 2 rfl)) (fun C2 s2 H2 ex2=>have B:Cz _ ["_law_k_here"] ["_law_script","_law_base"] ["_law_mix"]=true:=(by decide +kernel);have C:=a85 (C:=C2) (s:=s2) (H:=H2) (ex:=ex2) C.calm C.un (by decide +kernel) B;And.intro (stb C 0 rfl (blk_loc B (j:=0) rfl)) (And.intro mifs_nil (me_bin om_mod (me_bin om_div (me_fn (ok_mix T) (hr.mono (by decide)) (C.g 0 rfl) (ma_cons (svb C 1 rfl) (ma_cons (me_bin om_add (me_bin om_add (svb C 2 rfl) me_int) (me_bin om_mod (svb C 0 rfl) me_int)) ma_nil rfl) rfl) rfl) (me_bin om_add me_int (svb C 0 rfl))) me_int)))))))
theorem Uo:FnScope ["self"] ["self"] (defScope s_p_Machine__init__):=⟨rfl,rfl,rfl,by decide +kernel,rfl,by decide +kernel,by decide +kernel⟩
theorem z6:F9 (defScope s_p_Machine__init__) ["self"]=true:=by decide +kernel
theorem zz:glB (defScope s_p_Machine__init__) []=true:=by decide +kernel
theorem Ye (T:Tx w K mg):ak0 P w K mg base "Machine" 1 0 Jo:=by
 refine a18 T.d_p_Machine__init__ rfl fun f fd F=>?_
 refine ap F Uo rfl rfl fun cdv A outer s H E hr=>?_
 have C:=ak (CX:=CX0) (P:=P) (w:=w) (K:=K) (mg:=mg) (base:=base) (outer:=outer) (H:=H) (E:=E) Uo.nd (Z9 z6) (wm zz) hr
 exact ((j2 (uh (of_mem (by simp only [List.forall_mem_cons,List.not_mem_nil,false_implies,implies_true,and_true];exact ⟨T.o_Machine,T.na_Machine_hand⟩)) (sv C 0 rfl) me_int)
  (j2 (uh (of_mem (by simp only [List.forall_mem_cons,List.not_mem_nil,false_implies,implies_true,and_true];exact ⟨T.o_Machine,T.na_Machine_other⟩)) (sv C 0 rfl) me_int)
  (j2 (uh (of_mem (by simp only [List.forall_mem_cons,List.not_mem_nil,false_implies,implies_true,and_true];exact ⟨T.o_Machine,T.na_Machine_slots⟩)) (sv C 0 rfl) a23)
  (j2 (uh (of_mem (by simp only [List.forall_mem_cons,List.not_mem_nil,false_implies,implies_true,and_true];exact ⟨T.o_Machine,T.na_Machine_place⟩)) (sv C 0 rfl) me_int)
  (j2 (uh (of_mem (by simp only [List.forall_mem_cons,List.not_mem_nil,false_implies,implies_true,and_true];exact ⟨T.o_Machine,T.na_Machine_done⟩)) (sv C 0 rfl) me_int)
  (j3 (uh (of_mem (by simp only [List.forall_mem_cons,List.not_mem_nil,false_implies,implies_true,and_true];exact ⟨T.o_Machine,T.na_Machine_told⟩)) (sv C 0 rfl) yz))))))))
theorem Wk (T:Tx w K mg):uj P w K mg base "put_away" 1 2 Yu:=fnC T.d_p_put_away ["machine","step"] [] ⟨rfl,rfl,rfl,by decide +kernel,rfl,by decide +kernel,by decide +kernel⟩ (by decide +kernel) (by decide +kernel) rfl rfl fun _ _ _ _ _ _ _ hr C=>(j3 (jr (j8 (jh C.un) (me_idx (sv C 1 rfl) me_int (fun _ _=>rfl)) (me_str Wd) (nomark _))
  (j3 (uh (of_mem (by simp only [List.forall_mem_cons,List.not_mem_nil,false_implies,implies_true,and_true];exact ⟨T.o_Machine,T.na_Machine_other⟩)) (sv C 0 rfl) (me_idx (sv C 1 rfl) me_int (fun _ _=>rfl))))
  (j3 (jr (j8 (jh C.un) (me_idx (sv C 1 rfl) me_int (fun _ _=>rfl)) (me_str w_tax_eq) (nomark _))
  (j3 (uh (of_mem (by simp only [List.forall_mem_cons,List.not_mem_nil,false_implies,implies_true,and_true];exact ⟨T.o_Machine,T.na_Machine_other⟩)) (sv C 0 rfl) (Je (of_mem (by simp only [List.forall_mem_cons,List.not_mem_nil,false_implies,implies_true,and_true];exact ⟨T.o_Machine,T.na_Machine_hand⟩)) (sv C 0 rfl))))
  (j3 (fh C.un (Je (of_mem (by simp only [List.forall_mem_cons,List.not_mem_nil,false_implies,implies_true,and_true];exact ⟨T.o_Machine,T.na_Machine_slots⟩)) (sv C 0 rfl)) (me_idx (sv C 1 rfl) me_int (fun _ _=>rfl)) (Je (of_mem (by simp only [List.forall_mem_cons,List.not_mem_nil,false_implies,implies_true,and_true];exact ⟨T.o_Machine,T.na_Machine_hand⟩)) (sv C 0 rfl))))))))
theorem q5 (T:Tx w K mg):uj P w K mg base "take_in_hand" 1 2 Jk:=fnC T.d_p_take_in_hand ["machine","value"] [] ⟨rfl,rfl,rfl,by decide +kernel,rfl,by decide +kernel,by decide +kernel⟩ (by decide +kernel) (by decide +kernel) rfl rfl fun _ _ _ _ _ _ _ hr C=>(j3 (jr (Z8 (sv C 1 rfl))
  (j3 (uh (of_mem (by simp only [List.forall_mem_cons,List.not_mem_nil,false_implies,implies_true,and_true];exact ⟨T.o_Machine,T.na_Machine_told⟩)) (sv C 0 rfl) me_int))
  (j3 (uh (of_mem (by simp only [List.forall_mem_cons,List.not_mem_nil,false_implies,implies_true,and_true];exact ⟨T.o_Machine,T.na_Machine_hand⟩)) (sv C 0 rfl) (sv C 1 rfl)))))
theorem gu (T:Tx w K mg):uj P w K mg base "loaded" 1 3 yy:=fnC T.d_p_loaded ["packet","size","start","number","byte"] ["len"] ⟨rfl,rfl,rfl,by decide +kernel,rfl,by decide +kernel,by decide +kernel⟩ (by decide +kernel) (by decide +kernel) rfl rfl fun _ _ _ _ _ _ _ hr C=>(j2 (jr (a68 (j8 Ez (sv C 2 rfl) me_int (nomark _)) (Bu (j8 v9 (me_bin om_add (sv C 2 rfl) (sv C 1 rfl)) (Jh yv (C.g 0 rfl) T.n_len PySem.boot_len (ma_cons (sv C 0 rfl) ma_nil rfl)) (nomark _)))).t
  (j3 (j7 yz))
  jy)
  (j2 (sa C 3 rfl me_int)
  (j2 (Vk PassesOwn.never C.calm (a19 (Bn (sv C 0 rfl) (Es (sv C 2 rfl)) (Es (me_bin om_add (sv C 2 rfl) (sv C 1 rfl))))) (st C 4 rfl)
  (j3 (sa C 3 rfl (me_bin om_add (me_bin om_mul (sv C 3 rfl) me_int) (sv C 4 rfl)))))
  (j3 (j7 (sv C 3 rfl))))))
theorem Vq (T:Tx w K mg):uj P w K mg base "shifted" 1 3 U0:=fnC T.d_p_shifted ["op","one","often","times"] ["WIDTH","max"] ⟨rfl,rfl,rfl,by decide +kernel,rfl,by decide +kernel,by decide +kernel⟩ (by decide +kernel) (by decide +kernel) rfl rfl fun _ _ _ _ _ _ _ hr C=>(j2 (jr (j8 gx (sv C 2 rfl) (Yb T.c_WIDTH (C.g 0 rfl)) (nomark _))
  (j3 (j7 me_int))
  jy)
  (j2 (sa C 3 rfl (Jh (aj C.calm) (C.g 1 rfl) T.n_max PyProof.Rows.boot_max (ma_cons (sv C 2 rfl) (ma_cons me_int ma_nil rfl) rfl)))
  (j3 (j7 (Y0 (j8 (jh C.un) (sv C 0 rfl) (me_str Q1) (nomark _)) (me_bin af6 (sv C 1 rfl) (sv C 3 rfl)) (me_bin af5 (sv C 1 rfl) (sv C 3 rfl)))))))
theorem Yp (T:Tx w K mg):uj P w K mg base "plainly_reckoned" 2 3 ju:=fnC T.d_p_plainly_reckoned ["op","one","other"] ["shifted"] ⟨rfl,rfl,rfl,by decide +kernel,rfl,by decide +kernel,by decide +kernel⟩ (by decide +kernel) (by decide +kernel) rfl rfl fun _ _ _ _ _ _ _ hr C=>(j2 (jr (j8 (jh C.un) (sv C 0 rfl) (me_str qa) (nomark _))
  (j3 (j7 (me_bin om_add (sv C 1 rfl) (sv C 2 rfl))))
  jy)
  (j2 (jr (j8 (jh C.un) (sv C 0 rfl) (me_str Z4) (nomark _))
  (j3 (j7 (me_bin Yx (sv C 1 rfl) (sv C 2 rfl))))
  jy)
  (j2 (jr (j8 (jh C.un) (sv C 0 rfl) (me_str Xy) (nomark _))
  (j3 (j7 (me_bin om_mul (sv C 1 rfl) (sv C 2 rfl))))
  jy)
  (j2 (jr (j8 (jh C.un) (sv C 0 rfl) (me_str Q0) (nomark _))
  (j3 (j7 (me_bin om_div (sv C 1 rfl) (sv C 2 rfl))))
  jy)
  (j2 (jr (j8 (jh C.un) (sv C 0 rfl) (me_str Wc) (nomark _))
  (j3 (j7 (me_bin om_mod (sv C 1 rfl) (sv C 2 rfl))))
  jy)
  (j2 (jr (j8 (jh C.un) (sv C 0 rfl) (me_str Zp) (nomark _))
  (j3 (j7 (me_bin Ey (sv C 1 rfl) (sv C 2 rfl))))
  jy)
  (j2 (jr (j8 (jh C.un) (sv C 0 rfl) (me_str xu) (nomark _))
  (j3 (j7 (me_bin af7 (sv C 1 rfl) (sv C 2 rfl))))
  jy)
  (j2 (jr (j8 (jh C.un) (sv C 0 rfl) (me_str Zs) (nomark _))
  (j3 (j7 (me_bin a07 (sv C 1 rfl) (sv C 2 rfl))))
  jy)
  (j3 (j7 (me_fn (Vq T) (hr.mono (by decide)) (C.g 0 rfl) (ma_cons (sv C 0 rfl) (ma_cons (sv C 1 rfl) (ma_cons (sv C 2 rfl) ma_nil rfl) rfl) rfl) rfl)))))))))))
theorem za (T:Tx w K mg):uj P w K mg base "reckoned" 3 3 jx:=fnC T.d_p_reckoned ["op","one","other"] ["DIVIDING","plainly_reckoned","ROUND"] ⟨rfl,rfl,rfl,by decide +kernel,rfl,by decide +kernel,by decide +kernel⟩ (by decide +kernel) (by decide +kernel) rfl rfl fun _ _ _ _ _ _ _ hr C=>(j2 (jr (Bt (j8 (Za C.un) (sv C 0 rfl) (Yb T.c_DIVIDING (C.g 0 rfl)) rfl) (Ev (j8 (jh C.un) (sv C 2 rfl) me_int (nomark _)))).t
  (j3 (j7 yz))
  jy)
  (j3 (j7 (me_bin om_mod (me_fn (Yp T) (hr.mono (by decide)) (C.g 1 rfl) (ma_cons (sv C 0 rfl) (ma_cons (sv C 1 rfl) (ma_cons (sv C 2 rfl) ma_nil rfl) rfl) rfl) rfl) (Yb T.c_ROUND (C.g 2 rfl))))))
theorem Vp (T:Tx w K mg):uj P w K mg base "fetched" 1 2 Qc:=fnC T.d_p_fetched ["machine","slot"] [] ⟨rfl,rfl,rfl,by decide +kernel,rfl,by decide +kernel,by decide +kernel⟩ (by decide +kernel) (by decide +kernel) rfl rfl fun _ _ _ _ _ _ _ hr C=>(j2 (jr (Dc C.un (sv C 1 rfl) (Je (of_mem (by simp only [List.forall_mem_cons,List.not_mem_nil,false_implies,implies_true,and_true];exact ⟨T.o_Machine,T.na_Machine_slots⟩)) (sv C 0 rfl)) rfl)
  (j3 Bq)
  jy)
  (j3 (j7 (xl C.un (Je (of_mem (by simp only [List.forall_mem_cons,List.not_mem_nil,false_implies,implies_true,and_true];exact ⟨T.o_Machine,T.na_Machine_slots⟩)) (sv C 0 rfl)) (sv C 1 rfl) (fun _ _=>rfl)))))
theorem Wl (T:Tx w K mg):uj P w K mg base "value_of" 4 3 U6:=fnC T.d_p_value_of ["machine","step","packet","ahead"] ["loaded","len","reckoned","fetched"] ⟨rfl,rfl,rfl,by decide +kernel,rfl,by decide +kernel,by decide +kernel⟩ (by decide +kernel) (by decide +kernel) rfl rfl fun _ _ _ _ _ _ _ hr C=>(j2 (jr (j8 (jh C.un) (me_idx (sv C 1 rfl) me_int (fun _ _=>rfl)) (me_str Ua) (nomark _))
  (j2 (sa C 3 rfl (Y0 (j8 (jh C.un) (me_idx (sv C 1 rfl) me_int (fun _ _=>rfl)) (me_str Cs) (nomark _)) (Je (of_mem (by simp only [List.forall_mem_cons,List.not_mem_nil,false_implies,implies_true,and_true];exact ⟨T.o_Machine,T.na_Machine_other⟩)) (sv C 0 rfl)) me_int))
  (j3 (j7 (me_fn (gu T) (hr.mono (by decide)) (C.g 0 rfl) (ma_cons (sv C 2 rfl) (ma_cons (me_idx (sv C 1 rfl) me_int (fun _ _=>rfl)) (ma_cons (me_bin om_add (sv C 3 rfl) (me_idx (sv C 1 rfl) me_int (fun _ _=>rfl))) ma_nil rfl) rfl) rfl) rfl))))
  jy)
  (j2 (jr (j8 (jh C.un) (me_idx (sv C 1 rfl) me_int (fun _ _=>rfl)) (me_str yf) (nomark _))
  (j3 (j7 (Jh yv (C.g 1 rfl) T.n_len PySem.boot_len (ma_cons (sv C 2 rfl) ma_nil rfl))))
  jy)
  (j2 (jr (j8 (jh C.un) (me_idx (sv C 1 rfl) me_int (fun _ _=>rfl)) (me_str Ko) (nomark _))
  (j3 (j7 (me_idx (sv C 1 rfl) me_int (fun _ _=>rfl))))
  jy)
  (j2 (jr (j8 (jh C.un) (me_idx (sv C 1 rfl) me_int (fun _ _=>rfl)) (me_str Cr) (nomark _))
  (j3 (j7 (Je (of_mem (by simp only [List.forall_mem_cons,List.not_mem_nil,false_implies,implies_true,and_true];exact ⟨T.o_Machine,T.na_Machine_other⟩)) (sv C 0 rfl))))
  jy)
  (j2 (jr (j8 (jh C.un) (me_idx (sv C 1 rfl) me_int (fun _ _=>rfl)) (me_str A2) (nomark _))
  (j3 (j7 (me_fn (za T) (hr.mono (by decide)) (C.g 2 rfl) (ma_cons (me_idx (sv C 1 rfl) me_int (fun _ _=>rfl)) (ma_cons (Je (of_mem (by simp only [List.forall_mem_cons,List.not_mem_nil,false_implies,implies_true,and_true];exact ⟨T.o_Machine,T.na_Machine_hand⟩)) (sv C 0 rfl)) (ma_cons (me_idx (sv C 1 rfl) me_int (fun _ _=>rfl)) ma_nil rfl) rfl) rfl) rfl)))
  jy)
  (j2 (jr (j8 (jh C.un) (me_idx (sv C 1 rfl) me_int (fun _ _=>rfl)) (me_str Kn) (nomark _))
  (j3 (j7 (me_fn (za T) (hr.mono (by decide)) (C.g 2 rfl) (ma_cons (me_idx (sv C 1 rfl) me_int (fun _ _=>rfl)) (ma_cons (Je (of_mem (by simp only [List.forall_mem_cons,List.not_mem_nil,false_implies,implies_true,and_true];exact ⟨T.o_Machine,T.na_Machine_hand⟩)) (sv C 0 rfl)) (ma_cons (Je (of_mem (by simp only [List.forall_mem_cons,List.not_mem_nil,false_implies,implies_true,and_true];exact ⟨T.o_Machine,T.na_Machine_other⟩)) (sv C 0 rfl)) ma_nil rfl) rfl) rfl) rfl)))
  jy)
  (j3 (j7 (me_fn (Vp T) (hr.mono (by decide)) (C.g 3 rfl) (ma_cons (sv C 0 rfl) (ma_cons (me_idx (sv C 1 rfl) me_int (fun _ _=>rfl)) ma_nil rfl) rfl) rfl)))))))))
theorem Xf (T:Tx w K mg):uj P w K mg base "holds" 1 3 zp:=fnC T.d_p_holds ["test","one","other"] [] ⟨rfl,rfl,rfl,by decide +kernel,rfl,by decide +kernel,by decide +kernel⟩ (by decide +kernel) (by decide +kernel) rfl rfl fun _ _ _ _ _ _ _ hr C=>(j2 (jr (j8 (jh C.un) (sv C 0 rfl) (me_str Gb) (nomark _))
  (j3 (j7 (uk (jh C.un) (sv C 1 rfl) (sv C 2 rfl) (nomark _))))
  jy)
  (j2 (jr (j8 (jh C.un) (sv C 0 rfl) (me_str Z5) (nomark _))
  (j3 (j7 (uk v9 (sv C 1 rfl) (sv C 2 rfl) (nomark _))))
  jy)
  (j2 (jr (j8 (jh C.un) (sv C 0 rfl) (me_str Xw) (nomark _))
  (j3 (j7 (uk gx (sv C 1 rfl) (sv C 2 rfl) (nomark _))))
  jy)
  (j3 (j7 (uk (E9 C.un) (me_bin Ey (sv C 1 rfl) (sv C 2 rfl)) me_int (nomark _)))))))
theorem Wj (T:Tx w K mg):uj P w K mg base "distance" 2 2 Uc:=fnC T.d_p_distance ["machine","step"] ["holds"] ⟨rfl,rfl,rfl,by decide +kernel,rfl,by decide +kernel,by decide +kernel⟩ (by decide +kernel) (by decide +kernel) rfl rfl fun _ _ _ _ _ _ _ hr C=>(j2 (jr (j8 (jh C.un) (me_idx (sv C 1 rfl) me_int (fun _ _=>rfl)) (me_str Q2) (nomark _))
  (j3 (j7 (me_idx (sv C 1 rfl) me_int (fun _ _=>rfl))))
  jy)
  (j2 (jr (j8 (jh C.un) (me_idx (sv C 1 rfl) me_int (fun _ _=>rfl)) (me_str Fg) (nomark _))
  (j3 (j7 (Y0 (Yd (me_fn (Xf T) (hr.mono (by decide)) (C.g 0 rfl) (ma_cons (me_idx (sv C 1 rfl) me_int (fun _ _=>rfl)) (ma_cons (Je (of_mem (by simp only [List.forall_mem_cons,List.not_mem_nil,false_implies,implies_true,and_true];exact ⟨T.o_Machine,T.na_Machine_hand⟩)) (sv C 0 rfl)) (ma_cons (me_idx (sv C 1 rfl) me_int (fun _ _=>rfl)) ma_nil rfl) rfl) rfl) rfl) (fun _=>rfl)) (me_idx (sv C 1 rfl) me_int (fun _ _=>rfl)) (me_idx (sv C 1 rfl) me_int (fun _ _=>rfl)))))
  jy)
  (j2 (jr (j8 (jh C.un) (me_idx (sv C 1 rfl) me_int (fun _ _=>rfl)) (me_str Zq) (nomark _))
  (j3 (j7 (Y0 (Yd (me_fn (Xf T) (hr.mono (by decide)) (C.g 0 rfl) (ma_cons (me_idx (sv C 1 rfl) me_int (fun _ _=>rfl)) (ma_cons (Je (of_mem (by simp only [List.forall_mem_cons,List.not_mem_nil,false_implies,implies_true,and_true];exact ⟨T.o_Machine,T.na_Machine_hand⟩)) (sv C 0 rfl)) (ma_cons (Je (of_mem (by simp only [List.forall_mem_cons,List.not_mem_nil,false_implies,implies_true,and_true];exact ⟨T.o_Machine,T.na_Machine_other⟩)) (sv C 0 rfl)) ma_nil rfl) rfl) rfl) rfl) (fun _=>rfl)) (me_idx (sv C 1 rfl) me_int (fun _ _=>rfl)) (me_idx (sv C 1 rfl) me_int (fun _ _=>rfl)))))
  jy)
  (j3 (j7 me_int)))))
theorem Vo (T:Tx w K mg):uj P w K mg base "do_step" 5 3 U1:=fnC T.d_p_do_step ["machine","step","packet"] ["put_away","value_of","take_in_hand","distance"] ⟨rfl,rfl,rfl,by decide +kernel,rfl,by decide +kernel,by decide +kernel⟩ (by decide +kernel) (by decide +kernel) rfl rfl fun _ _ _ _ _ _ _ hr C=>(j2 (jr (j8 (jh C.un) (me_idx (sv C 1 rfl) me_int (fun _ _=>rfl)) (me_str qc) (nomark _))
  (j3 (uh (of_mem (by simp only [List.forall_mem_cons,List.not_mem_nil,false_implies,implies_true,and_true];exact ⟨T.o_Machine,T.na_Machine_told⟩)) (sv C 0 rfl) (me_idx (sv C 1 rfl) me_int (fun _ _=>rfl))))
  (j3 (jr (j8 (jh C.un) (me_idx (sv C 1 rfl) me_int (fun _ _=>rfl)) (me_str Gh) (nomark _))
  (j3 (uh (of_mem (by simp only [List.forall_mem_cons,List.not_mem_nil,false_implies,implies_true,and_true];exact ⟨T.o_Machine,T.na_Machine_told⟩)) (sv C 0 rfl) (Je (of_mem (by simp only [List.forall_mem_cons,List.not_mem_nil,false_implies,implies_true,and_true];exact ⟨T.o_Machine,T.na_Machine_hand⟩)) (sv C 0 rfl))))
  (j3 (jr (j8 (Za C.un) (me_idx (sv C 1 rfl) me_int (fun _ _=>rfl)) (jv (ma_cons (me_str Wd) (ma_cons (me_str w_tax_eq) (ma_cons (me_str w_keep_eq) ma_nil rfl) rfl) rfl)) rfl)
  (j3 (ug (me_fn (Wk T) (hr.mono (by decide)) (C.g 0 rfl) (ma_cons (sv C 0 rfl) (ma_cons (sv C 1 rfl) ma_nil rfl) rfl) rfl)))
  (j3 (jr (j8 (B6 C.un) (me_idx (sv C 1 rfl) me_int (fun _ _=>rfl)) (jv (ma_cons (me_str Q2) (ma_cons (me_str Fg) (ma_cons (me_str Zq) ma_nil rfl) rfl) rfl)) rfl)
  (j3 (ug (me_fn (q5 T) (hr.mono (by decide)) (C.g 2 rfl) (ma_cons (sv C 0 rfl) (ma_cons (me_fn (Wl T) (hr.mono (by decide)) (C.g 1 rfl) (ma_cons (sv C 0 rfl) (ma_cons (sv C 1 rfl) (ma_cons (sv C 2 rfl) ma_nil rfl) rfl) rfl) rfl) ma_nil rfl) rfl) rfl)))
  jy)))))))
  (j2 (Et (of_mem (by simp only [List.forall_mem_cons,List.not_mem_nil,false_implies,implies_true,and_true];exact ⟨T.o_Machine,T.na_Machine_done⟩)) (by intro c c' h h';simp only [List.contains_cons,List.contains_nil,Bool.or_false,beq_iff_eq] at h h';rw [h,h']) (sv C 0 rfl) me_int)
  (j3 (Et (of_mem (by simp only [List.forall_mem_cons,List.not_mem_nil,false_implies,implies_true,and_true];exact ⟨T.o_Machine,T.na_Machine_place⟩)) (by intro c c' h h';simp only [List.contains_cons,List.contains_nil,Bool.or_false,beq_iff_eq] at h h';rw [h,h']) (sv C 0 rfl) (me_bin om_add me_int (me_fn (Wj T) (hr.mono (by decide)) (C.g 3 rfl) (ma_cons (sv C 0 rfl) (ma_cons (sv C 1 rfl) ma_nil rfl) rfl) rfl))))))
theorem fj (T:Tx w K mg):uj P w K mg base "ended" 6 2 Qs:=fnC T.d_p_ended ["code","packet","machine"] ["Machine","len","do_step"] ⟨rfl,rfl,rfl,by decide +kernel,rfl,by decide +kernel,by decide +kernel⟩ (by decide +kernel) (by decide +kernel) rfl rfl fun _ _ _ _ _ _ _ hr C=>(j2 (sa C 2 rfl (a20 (Ye T) (hr.mono (by decide)) (C.g 0 rfl)))
  (j2 (gq 2100 PassesOwn.never (Z8 (Je (of_mem (by simp only [List.forall_mem_cons,List.not_mem_nil,false_implies,implies_true,and_true];exact ⟨T.o_Machine,T.na_Machine_told⟩)) (sv C 2 rfl)))
  (j2 (jr (j8 gx (Je (of_mem (by simp only [List.forall_mem_cons,List.not_mem_nil,false_implies,implies_true,and_true];exact ⟨T.o_Machine,T.na_Machine_place⟩)) (sv C 2 rfl)) (Jh yv (C.g 1 rfl) T.n_len PySem.boot_len (ma_cons (sv C 0 rfl) ma_nil rfl)) (nomark _))
  (j3 Bq)
  jy)
  (j3 (ug (me_fn (Vo T) (hr.mono (by decide)) (C.g 2 rfl) (ma_cons (sv C 2 rfl) (ma_cons (me_idx (sv C 0 rfl) (Je (of_mem (by simp only [List.forall_mem_cons,List.not_mem_nil,false_implies,implies_true,and_true];exact ⟨T.o_Machine,T.na_Machine_place⟩)) (sv C 2 rfl)) (fun _ _=>rfl)) (ma_cons (sv C 1 rfl) ma_nil rfl) rfl) rfl) rfl)))))
  (j3 (j7 (sv C 2 rfl)))))
theorem Bz (T:Tx w K mg):uj P w K mg base "run" 7 2 qp:=fnC T.d_p_run ["code","packet"] ["ended"] ⟨rfl,rfl,rfl,by decide +kernel,rfl,by decide +kernel,by decide +kernel⟩ (by decide +kernel) (by decide +kernel) rfl rfl fun _ _ _ _ _ _ _ hr C=>(j3 (j7 (Je (of_mem (by simp only [List.forall_mem_cons,List.not_mem_nil,false_implies,implies_true,and_true];exact ⟨T.o_Machine,T.na_Machine_told⟩)) (me_fn (fj T) (hr.mono (by decide)) (C.g 0 rfl) (ma_cons (sv C 0 rfl) (ma_cons (sv C 1 rfl) ma_nil rfl) rfl) rfl))))
theorem y7:FnScope ["tree","slot"] ["tree","slot"] (defScope jb):=⟨rfl,rfl,rfl,by decide +kernel,rfl,by decide +kernel,by decide +kernel⟩
theorem Zz:F9 (defScope jb) ["tree","slot"]=true:=by decide +kernel
theorem Zx:glB (defScope jb) ["SLOTS","TooDeep"]=true:=by decide +kernel
theorem zj (T:Tx w K mg) {f:Addr} {fd:FuncData} (F:Fun K "tasks_of_pair" "tasks_of_pair" jb f fd):FnOk P w K mg base (CXR P w) 4 f fd ["tree","slot"] (spX K xc 2 Jq):=by
 refine qr F y7 rfl rfl fun cdv A outer s H E hr=>?_
 have C0:=K9 (CX:=CXR P w) (P:=P) (w:=w) (K:=K) (mg:=mg) (base:=base) (outer:=outer) (H:=H) (E:=E) y7.nd (Z9 Zz) (wm Zx) hr
 have C:=K8 (pn:=[]) (xe:=Rz (ub (CXR P w) P w K mg base ["tree","slot"] "tasks_of_pair" (defScope jb) f cdv A outer s H E) E) C0
 have hx:=Vt (X:=(ub (CXR P w) P w K mg base ["tree","slot"] "tasks_of_pair" (defScope jb) f cdv A outer s H E)) (E:=E)
 have ho:=Vs (X:=(ub (CXR P w) P w K mg base ["tree","slot"] "tasks_of_pair" (defScope jb) f cdv A outer s H E)) (E:=E) rfl rfl
 exact ((j2 (jr (j8 gx (sv C 1 rfl) (Yb T.c_SLOTS (C.g 0 rfl)) (nomark _))
  (j3 (ag0 T.z_TooDeep rfl hr (C0.g 1 rfl)))
  jy)
  (j3 (j7 (Uj (ma_cons (jv (ma_cons (me_str Jv) (ma_cons (me_idx (sv C 0 rfl) me_int (fun _ _=>rfl)) (ma_cons (sv C 1 rfl) ma_nil rfl) rfl) rfl)) (ma_cons (jv (ma_cons (me_str uq) (ma_cons (jv (ma_cons (me_str w_keep_eq) (ma_cons (sv C 1 rfl) ma_nil rfl) rfl)) ma_nil rfl) rfl)) (ma_cons (jv (ma_cons (me_str Jv) (ma_cons (me_idx (sv C 0 rfl) me_int (fun _ _=>rfl)) (ma_cons (me_bin om_add (sv C 1 rfl) me_int) ma_nil rfl) rfl) rfl)) (ma_cons (jv (ma_cons (me_str uq) (ma_cons (jv (ma_cons (me_str w_tax_eq) ma_nil rfl)) ma_nil rfl) rfl)) (ma_cons (jv (ma_cons (me_str uq) (ma_cons (jv (ma_cons (me_str Gc) (ma_cons (sv C 1 rfl) ma_nil rfl) rfl)) ma_nil rfl) rfl)) ma_nil rfl) rfl) rfl) rfl) rfl))))))
theorem y9 (T:Tx w K mg):V4 P w K mg base xc "tasks_of_pair" 4 2 Jq:=qq T.d_p_tasks_of_pair rfl fun f fd F=>zj T F
theorem Up:FnScope ["tree","slot"] ["tree","slot"] (defScope jk):=⟨rfl,rfl,rfl,by decide +kernel,rfl,by decide +kernel,by decide +kernel⟩
theorem z0:F9 (defScope jk) ["tree","slot"]=true:=by decide +kernel
theorem z9:glB (defScope jk) ["OPS","tasks_of_pair"]=true:=by decide +kernel
theorem Yq (T:Tx w K mg) {f:Addr} {fd:FuncData} (F:Fun K "tasks_of_number" "tasks_of_number" jk f fd):FnOk P w K mg base (CXR P w) 5 f fd ["tree","slot"] (spX K xc 2 J6):=by
 refine qr F Up rfl rfl fun cdv A outer s H E hr=>?_
 have C0:=K9 (CX:=CXR P w) (P:=P) (w:=w) (K:=K) (mg:=mg) (base:=base) (outer:=outer) (H:=H) (E:=E) Up.nd (Z9 z0) (wm z9) hr
 have C:=K8 (pn:=[]) (xe:=Rz (ub (CXR P w) P w K mg base ["tree","slot"] "tasks_of_number" (defScope jk) f cdv A outer s H E) E) C0
 have hx:=Vt (X:=(ub (CXR P w) P w K mg base ["tree","slot"] "tasks_of_number" (defScope jk) f cdv A outer s H E)) (E:=E)
 have ho:=Vs (X:=(ub (CXR P w) P w K mg base ["tree","slot"] "tasks_of_number" (defScope jk) f cdv A outer s H E)) (E:=E) rfl rfl
 exact ((j2 (jr (j8 (jh C.un) (me_idx (sv C 0 rfl) me_int (fun _ _=>rfl)) (me_str Jv) (nomark _))
  (j3 (j7 (Uj (ma_cons (jv (ma_cons (me_str uq) (ma_cons (jv (ma_cons (me_str Ko) (ma_cons (me_idx (sv C 0 rfl) me_int (fun _ _=>rfl)) ma_nil rfl) rfl)) ma_nil rfl) rfl)) ma_nil rfl))))
  jy)
  (j2 (jr (j8 (jh C.un) (me_idx (sv C 0 rfl) me_int (fun _ _=>rfl)) (me_str Ua) (nomark _))
  (j3 (j7 (Uj (ma_cons (jv (ma_cons (me_str Jv) (ma_cons (me_idx (sv C 0 rfl) me_int (fun _ _=>rfl)) (ma_cons (sv C 1 rfl) ma_nil rfl) rfl) rfl)) (ma_cons (jv (ma_cons (me_str uq) (ma_cons (jv (ma_cons (me_str w_tax_eq) ma_nil rfl)) ma_nil rfl) rfl)) (ma_cons (jv (ma_cons (me_str uq) (ma_cons (jv (ma_cons (me_str Ua) (ma_cons (me_idx (sv C 0 rfl) me_int (fun _ _=>rfl)) (ma_cons (me_str Cs) (ma_cons me_int ma_nil rfl) rfl) rfl) rfl)) ma_nil rfl) rfl)) ma_nil rfl) rfl) rfl))))
  jy)
  (j2 (jr (j8 (Za C.un) (me_idx (sv C 0 rfl) me_int (fun _ _=>rfl)) (Yb T.c_OPS (C.g 0 rfl)) rfl)
  (j3 (j7 (me_bin om_add (w5 (y9 T) hx (hr.mono (by decide)) (C.g 1 rfl) (ma_cons (sv C 0 rfl) (ma_cons (sv C 1 rfl) ma_nil rfl) rfl) rfl) (Uj (ma_cons (jv (ma_cons (me_str uq) (ma_cons (jv (ma_cons (me_str Kn) (ma_cons (me_idx (sv C 0 rfl) me_int (fun _ _=>rfl)) ma_nil rfl) rfl)) ma_nil rfl) rfl)) ma_nil rfl)))))
  jy)
  (j3 (j7 (Uj (ma_cons (jv (ma_cons (me_str uq) (ma_cons (jv (ma_cons (me_str yf) ma_nil rfl)) ma_nil rfl) rfl)) ma_nil rfl))))))))
theorem Yf (T:Tx w K mg):V4 P w K mg base xc "tasks_of_number" 5 2 J6:=qq T.d_p_tasks_of_number rfl fun f fd F=>Yq T F
theorem q8 (T:Tx w K mg):uj P w K mg base "step_of_test" 1 3 Uu:=fnC T.d_p_step_of_test ["comparison","to_yes","to_no","row"] ["TEST_OF"] ⟨rfl,rfl,rfl,by decide +kernel,rfl,by decide +kernel,by decide +kernel⟩ (by decide +kernel) (by decide +kernel) rfl rfl fun _ _ _ _ _ _ _ hr C=>(j2 (sa C 3 rfl (Bj T.c_TEST_OF (C.g 0 rfl) (sv C 0 rfl) (fun _ _=>rfl)))
  (j2 (jr (Yd (me_idx (sv C 3 rfl) me_int (fun _ _=>rfl)) (fun _=>rfl))
  (j3 (j7 (jv (ma_cons (me_str Zq) (ma_cons (me_idx (sv C 3 rfl) me_int (fun _ _=>rfl)) (ma_cons (sv C 1 rfl) (ma_cons (sv C 2 rfl) ma_nil rfl) rfl) rfl) rfl))))
  jy)
  (j3 (j7 (jv (ma_cons (me_str Zq) (ma_cons (me_idx (sv C 3 rfl) me_int (fun _ _=>rfl)) (ma_cons (sv C 2 rfl) (ma_cons (sv C 1 rfl) ma_nil rfl) rfl) rfl) rfl))))))
theorem Yr:FnScope ["tree","yes","no","made","waiting"] ["tree","yes","no","made","waiting"] (defScope J8):=⟨rfl,rfl,rfl,by decide +kernel,rfl,by decide +kernel,by decide +kernel⟩
theorem xx:F9 (defScope J8) ["tree","yes","no","made","waiting"]=true:=by decide +kernel
theorem xv:glB (defScope J8) ["len","step_of_test","tasks_of_pair"]=true:=by decide +kernel
theorem Q5 (T:Tx w K mg) {f:Addr} {fd:FuncData} (F:Fun K "make_truth" "make_truth" J8 f fd):FnOk P w K mg base (CXR P w) 5 f fd ["tree","yes","no","made","waiting"] (spX K xc 5 U8):=by
 refine qr F Yr rfl rfl fun cdv A outer s H E hr=>?_
 have C0:=K9 (CX:=CXR P w) (P:=P) (w:=w) (K:=K) (mg:=mg) (base:=base) (outer:=outer) (H:=H) (E:=E) Yr.nd (Z9 xx) (wm xv) hr
 have C:=K8 (pn:=[]) (xe:=Rz (ub (CXR P w) P w K mg base ["tree","yes","no","made","waiting"] "make_truth" (defScope J8) f cdv A outer s H E) E) C0
 have hx:=Vt (X:=(ub (CXR P w) P w K mg base ["tree","yes","no","made","waiting"] "make_truth" (defScope J8) f cdv A outer s H E)) (E:=E)
 have ho:=Vs (X:=(ub (CXR P w) P w K mg base ["tree","yes","no","made","waiting"] "make_truth" (defScope J8) f cdv A outer s H E)) (E:=E) rfl rfl
 exact ((j3 (jr (j8 (jh C.un) (me_idx (sv C 0 rfl) me_int (fun _ _=>rfl)) (me_str uv) (nomark _))
  (j3 (ug (Y2 (sv C 3 rfl) (ma_cons (jv (ma_cons (me_str Q2) (ma_cons (me_bin Yx (Jh yv (C.g 0 rfl) T.n_len PySem.boot_len (ma_cons (sv C 3 rfl) ma_nil rfl)) (Y0 (Yd (me_idx (sv C 0 rfl) me_int (fun _ _=>rfl)) (fun _=>rfl)) (sv C 1 rfl) (sv C 2 rfl))) ma_nil rfl) rfl)) ma_nil rfl) (fun _ _=>rfl))))
  (j3 (jr (j8 (jh C.un) (me_idx (sv C 0 rfl) me_int (fun _ _=>rfl)) (me_str Xx) (nomark _))
  (j3 (ug (Y2 (sv C 4 rfl) (ma_cons (jv (ma_cons (me_str uv) (ma_cons (me_idx (sv C 0 rfl) me_int (fun _ _=>rfl)) (ma_cons (sv C 2 rfl) (ma_cons (sv C 1 rfl) ma_nil rfl) rfl) rfl) rfl)) ma_nil rfl) (fun _ _=>rfl))))
  (j3 (jr (j8 (Za C.un) (me_idx (sv C 0 rfl) me_int (fun _ _=>rfl)) (jv (ma_cons (me_str Q3) (ma_cons (me_str Ym) ma_nil rfl) rfl)) rfl)
  (j3 (ug (Q9 (sv C 4 rfl) (ma_cons (Uj (ma_cons (jv (ma_cons (me_str Ge) (ma_cons (sv C 0 rfl) (ma_cons (sv C 1 rfl) (ma_cons (sv C 2 rfl) ma_nil rfl) rfl) rfl) rfl)) (ma_cons (jv (ma_cons (me_str uv) (ma_cons (me_idx (sv C 0 rfl) me_int (fun _ _=>rfl)) (ma_cons (sv C 1 rfl) (ma_cons (sv C 2 rfl) ma_nil rfl) rfl) rfl) rfl)) ma_nil rfl) rfl)) ma_nil rfl) (fun _ _=>rfl))))
  (j2 (ug (Y2 (sv C 3 rfl) (ma_cons (me_fn (q8 T) (hr.mono (by decide)) (C.g 1 rfl) (ma_cons (me_idx (sv C 0 rfl) me_int (fun _ _=>rfl)) (ma_cons (me_bin Yx (Jh yv (C.g 0 rfl) T.n_len PySem.boot_len (ma_cons (sv C 3 rfl) ma_nil rfl)) (sv C 1 rfl)) (ma_cons (me_bin Yx (Jh yv (C.g 0 rfl) T.n_len PySem.boot_len (ma_cons (sv C 3 rfl) ma_nil rfl)) (sv C 2 rfl)) ma_nil rfl) rfl) rfl) rfl) ma_nil rfl) (fun _ _=>rfl)))
  (j3 (ug (Q9 (sv C 4 rfl) (ma_cons (w5 (y9 T) hx (hr.mono (by decide)) (C.g 2 rfl) (ma_cons (sv C 0 rfl) (ma_cons me_int ma_nil rfl) rfl) rfl) ma_nil rfl) (fun _ _=>rfl))))))))))))
theorem xy (T:Tx w K mg):V4 P w K mg base xc "make_truth" 5 5 U8:=qq T.d_p_make_truth rfl fun f fd F=>Q5 T F
theorem Z7 (T:Tx w K mg):uj P w K mg base "task_of_first" 1 4 U7:=fnC T.d_p_task_of_first ["tree","yes","no","second"] [] ⟨rfl,rfl,rfl,by decide +kernel,rfl,by decide +kernel,by decide +kernel⟩ (by decide +kernel) (by decide +kernel) rfl rfl fun _ _ _ _ _ _ _ hr C=>(j2 (jr (j8 (jh C.un) (me_idx (sv C 0 rfl) me_int (fun _ _=>rfl)) (me_str Q3) (nomark _))
  (j3 (j7 (jv (ma_cons (me_str uv) (ma_cons (me_idx (sv C 0 rfl) me_int (fun _ _=>rfl)) (ma_cons (sv C 3 rfl) (ma_cons (sv C 2 rfl) ma_nil rfl) rfl) rfl) rfl))))
  jy)
  (j3 (j7 (jv (ma_cons (me_str uv) (ma_cons (me_idx (sv C 0 rfl) me_int (fun _ _=>rfl)) (ma_cons (sv C 1 rfl) (ma_cons (sv C 3 rfl) ma_nil rfl) rfl) rfl) rfl)))))
theorem zd:FnScope ["tree","made","waiting","task"] ["tree"] (defScope Jn):=⟨rfl,rfl,rfl,by decide +kernel,rfl,by decide +kernel,by decide +kernel⟩
theorem Wh:F9 (defScope Jn) ["tree","made","waiting","task"]=true:=by decide +kernel
theorem Wg:glB (defScope Jn) ["len","tasks_of_number","make_truth","task_of_first","list","reversed"]=true:=by decide +kernel
theorem Xg (T:Tx w K mg) {f:Addr} {fd:FuncData} (F:Fun K "compiled" "compiled" Jn f fd):FnOk P w K mg base (CXR P w) 6 f fd ["tree"] (spX K xc 1 um):=by
 refine qr F zd rfl rfl fun cdv A outer s H E hr=>?_
 have C0:=K9 (CX:=CXR P w) (P:=P) (w:=w) (K:=K) (mg:=mg) (base:=base) (outer:=outer) (H:=H) (E:=E) zd.nd (Z9 Wh) (wm Wg) hr
 have C:=K8 (pn:=[]) (xe:=Rz (ub (CXR P w) P w K mg base ["tree","made","waiting","task"] "compiled" (defScope Jn) f cdv A outer s H E) E) C0
 have hx:=Vt (X:=(ub (CXR P w) P w K mg base ["tree","made","waiting","task"] "compiled" (defScope Jn) f cdv A outer s H E)) (E:=E)
 have ho:=Vs (X:=(ub (CXR P w) P w K mg base ["tree","made","waiting","task"] "compiled" (defScope Jn) f cdv A outer s H E)) (E:=E) rfl rfl
 exact ((j2 (sa C 1 rfl (Er (ma_cons (jv (ma_cons (me_str qc) (ma_cons me_int ma_nil rfl) rfl)) (ma_cons (jv (ma_cons (me_str qc) (ma_cons me_int ma_nil rfl) rfl)) ma_nil rfl) rfl)))
  (j2 (sa C 2 rfl (Er (ma_cons (jv (ma_cons (me_str uv) (ma_cons (sv C 0 rfl) (ma_cons me_int (ma_cons me_int ma_nil rfl) rfl) rfl) rfl)) ma_nil rfl)))
  (j2 (gq 3000 ho (j8 v9 (Jh yv (C.g 0 rfl) T.n_len PySem.boot_len (ma_cons (sv C 2 rfl) ma_nil rfl)) me_int (nomark _))
  (j2 (sa C 3 rfl (ag2 (sv C 2 rfl)))
  (j3 (jr (j8 (jh C.un) (me_idx (sv C 3 rfl) me_int (fun _ _=>rfl)) (me_str uq) (nomark _))
  (j3 (ug (Y2 (sv C 1 rfl) (ma_cons (me_idx (sv C 3 rfl) me_int (fun _ _=>rfl)) ma_nil rfl) (fun _ _=>rfl))))
  (j3 (jr (j8 (jh C.un) (me_idx (sv C 3 rfl) me_int (fun _ _=>rfl)) (me_str Jv) (nomark _))
  (j3 (ug (Q9 (sv C 2 rfl) (ma_cons (w5 (Yf T) hx (hr.mono (by decide)) (C.g 1 rfl) (ma_cons (me_idx (sv C 3 rfl) me_int (fun _ _=>rfl)) (ma_cons (me_idx (sv C 3 rfl) me_int (fun _ _=>rfl)) ma_nil rfl) rfl) rfl) ma_nil rfl) (fun _ _=>rfl))))
  (j3 (jr (j8 (jh C.un) (me_idx (sv C 3 rfl) me_int (fun _ _=>rfl)) (me_str uv) (nomark _))
  (j3 (ug (w5 (xy T) hx (hr.mono (by decide)) (C.g 2 rfl) (ma_cons (me_idx (sv C 3 rfl) me_int (fun _ _=>rfl)) (ma_cons (me_idx (sv C 3 rfl) me_int (fun _ _=>rfl)) (ma_cons (me_idx (sv C 3 rfl) me_int (fun _ _=>rfl)) (ma_cons (sv C 1 rfl) (ma_cons (sv C 2 rfl) ma_nil rfl) rfl) rfl) rfl) rfl) rfl)))
  (j3 (ug (Y2 (sv C 2 rfl) (ma_cons (me_fn (Z7 T) (hr.mono (by decide)) (C.g 3 rfl) (ma_cons (me_idx (sv C 3 rfl) me_int (fun _ _=>rfl)) (ma_cons (me_idx (sv C 3 rfl) me_int (fun _ _=>rfl)) (ma_cons (me_idx (sv C 3 rfl) me_int (fun _ _=>rfl)) (ma_cons (Jh yv (C.g 0 rfl) T.n_len PySem.boot_len (ma_cons (sv C 1 rfl) ma_nil rfl)) ma_nil rfl) rfl) rfl) rfl) rfl) ma_nil rfl) (fun _ _=>rfl))))))))))))
  (j3 (j7 (fe C.calm (C.g 4 rfl) T.n_list (C.g 5 rfl) T.n_reversed (sv C 1 rfl))))))))
theorem Wi (T:Tx w K mg):V4 P w K mg base xc "compiled" 6 1 um:=qq T.d_p_compiled rfl fun f fd F=>Xg T F
theorem B9 (T:Tx w K mg):∀ k,uj P w K mg base "_law_need" (1 + k) 1 (yo k 0):=by
 intro k
 induction k with
 | zero=>exact W1 T.d_need rfl
 | succ k ih =>
  have ih0:=ih
  refine ?_
  ·show uj P w K mg base "_law_need" (1 + k + 1) 1 (fnOf 0 (Ks (yo k)))
   exact fnC T.d_need ["_law_tree"] ["_law_need","max"] ⟨rfl,rfl,rfl,by decide +kernel,rfl,by decide +kernel,by decide +kernel⟩ (by decide +kernel) (by decide +kernel) rfl rfl fun _ _ _ _ _ _ _ hr C=>(j2 (jr (j8 (Za C.un) (me_idx (sv C 0 rfl) me_int (fun _ _=>rfl)) (jv (ma_cons (me_str Jv) (ma_cons (me_str yf) ma_nil rfl) rfl)) rfl)
  (j3 (j7 me_int))
  jy)
  (j2 (jr (j8 (jh C.un) (me_idx (sv C 0 rfl) me_int (fun _ _=>rfl)) (me_str Ua) (nomark _))
  (j3 (j7 (me_fn ih0 (hr.mono (by omega)) (C.g 0 rfl) (ma_cons (me_idx (sv C 0 rfl) me_int (fun _ _=>rfl)) ma_nil rfl) rfl)))
  jy)
  (j3 (j7 (Jh (aj C.calm) (C.g 1 rfl) T.n_max PyProof.Rows.boot_max (ma_cons (me_fn ih0 (hr.mono (by omega)) (C.g 0 rfl) (ma_cons (me_idx (sv C 0 rfl) me_int (fun _ _=>rfl)) ma_nil rfl) rfl) (ma_cons (me_bin om_add me_int (me_fn ih0 (hr.mono (by omega)) (C.g 0 rfl) (ma_cons (me_idx (sv C 0 rfl) me_int (fun _ _=>rfl)) ma_nil rfl) rfl)) ma_nil rfl) rfl))))))
theorem a13 (T:Tx w K mg):uj P w K mg base "_law_need" 21 1 kx:=(B9 T 20)
theorem By (T:Tx w K mg):uj P w K mg base "_law_bytes" 1 3 zo:=fnC T.d_bytes ["_law_packet_here","_law_at","_law_size"] ["len","range","sum"] ⟨rfl,rfl,rfl,by decide +kernel,rfl,by decide +kernel,by decide +kernel⟩ (by decide +kernel) (by decide +kernel) rfl rfl fun _ _ _ _ _ _ _ hr C=>(j2 (jr (j8 v9 (me_bin om_add (sv C 1 rfl) (sv C 2 rfl)) (Jh yv (C.g 0 rfl) T.n_len PySem.boot_len (ma_cons (sv C 0 rfl) ma_nil rfl)) (nomark _))
  (j3 (j7 yz))
  jy)
  (j3 (j7 (Jh (aj3 C.calm) (C.g 2 rfl) T.n_sum PyProof.Rows.boot_sum (ma_cons (Ep (T:=["_law_k_here"]) (caps:=["_law_packet_here","_law_at","_law_size"]) (ix:=[0,1,2]) (qi (show dg _ (defScope Vy)=true by decide +kernel)) (dc C.hN (by decide +kernel)) C.calm (ya (C.g 1 rfl) T.n_range (sv C 2 rfl)) (fun C2 s2 H2 ex2=>have B:Cz _ ["_law_k_here"] ["_law_packet_here","_law_at","_law_size"] []=true:=(by decide +kernel);have C:=a85 (C:=C2) (s:=s2) (H:=H2) (ex:=ex2) C.calm C.un (by decide +kernel) B;And.intro (stb C 0 rfl (blk_loc B (j:=0) rfl)) (And.intro mifs_nil (me_bin om_mul (me_idx (svb C 1 rfl) (me_bin om_add (svb C 2 rfl) (svb C 0 rfl)) (fun _ _=>rfl)) (me_idx (Uj (ma_cons me_int (ma_cons me_int (ma_cons me_int (ma_cons me_int ma_nil rfl) rfl) rfl) rfl)) (me_bin Yx (me_bin Yx (svb C 3 rfl) me_int) (svb C 0 rfl)) (fun _ _=>rfl)))))) ma_nil rfl)))))
theorem gv (T:Tx w K mg):uj P w K mg base "_law_reckoned" 1 3 js:=fnC T.d_reckoned ["_law_op_here","_law_one","_law_other","_law_k_here","_law_found","_law_place","_law_two"] ["min","range","int"] ⟨rfl,rfl,rfl,by decide +kernel,rfl,by decide +kernel,by decide +kernel⟩ (by decide +kernel) (by decide +kernel) rfl rfl fun _ _ _ _ _ _ _ hr C=>(j2 (jr (j8 (Za C.un) (sv C 0 rfl) (jv (ma_cons (me_str Q0) (ma_cons (me_str Wc) ma_nil rfl) rfl)) rfl)
  (j2 (jr (j8 (jh C.un) (sv C 2 rfl) me_int (nomark _))
  (j3 (j7 yz))
  jy)
  (j3 (j7 (Y0 (j8 (jh C.un) (sv C 0 rfl) (me_str Q0) (nomark _)) (me_bin om_div (sv C 1 rfl) (sv C 2 rfl)) (me_bin Yx (sv C 1 rfl) (me_bin om_mul (me_bin om_div (sv C 1 rfl) (sv C 2 rfl)) (sv C 2 rfl)))))))
  jy)
  (j2 (jr (j8 (Za C.un) (sv C 0 rfl) (jv (ma_cons (me_str Q1) (ma_cons (me_str Gg) ma_nil rfl) rfl)) rfl)
  (j2 (Vk PassesOwn.never C.calm (ya (C.g 1 rfl) T.n_range (Jh (aj4 C.calm) (C.g 0 rfl) T.n_min PyProof.Rows.boot_min (ma_cons (sv C 2 rfl) (ma_cons me_int ma_nil rfl) rfl))) (st C 3 rfl)
  (j3 (sa C 1 rfl (Y0 (j8 (jh C.un) (sv C 0 rfl) (me_str Q1) (nomark _)) (me_bin om_mul (sv C 1 rfl) me_int) (me_bin om_div (sv C 1 rfl) me_int)))))
  (j3 (j7 (me_bin om_mod (sv C 1 rfl) me_int))))
  jy)
  (j2 (jr (j8 (Za C.un) (sv C 0 rfl) (jv (ma_cons (me_str Zp) (ma_cons (me_str xu) (ma_cons (me_str Zs) ma_nil rfl) rfl) rfl)) rfl)
  (j2 (sa C 4 rfl me_int)
  (j2 (sa C 5 rfl me_int)
  (j2 (Vk PassesOwn.never C.calm (ya (C.g 1 rfl) T.n_range me_int) (st C 3 rfl)
  (j2 (sa C 6 rfl (jv (ma_cons (me_bin om_mod (me_bin om_div (sv C 1 rfl) (sv C 5 rfl)) me_int) (ma_cons (me_bin om_mod (me_bin om_div (sv C 2 rfl) (sv C 5 rfl)) me_int) ma_nil rfl) rfl)))
  (j2 (sa C 4 rfl (me_bin om_add (sv C 4 rfl) (me_bin om_mul (sv C 5 rfl) (Y1 Wu (C.g 2 rfl) T.n_int PyProof.Rows.boot_int (ma_cons (xl C.un (Bk (ui Zp (uk (jh C.un) (sv C 6 rfl) (jv (ma_cons me_int (ma_cons me_int ma_nil rfl) rfl)) (nomark _)) (ui xu (uk (E9 C.un) (sv C 6 rfl) (jv (ma_cons me_int (ma_cons me_int ma_nil rfl) rfl)) (nomark _)) (ui Zs (uk (E9 C.un) (me_idx (sv C 6 rfl) me_int (fun _ _=>rfl)) (me_idx (sv C 6 rfl) me_int (fun _ _=>rfl)) (nomark _)) Vj))) (by decide) rfl rfl (by intro h;cases h) (by decide)) (sv C 0 rfl) (fun _ _=>rfl)) ma_nil rfl)))))
  (j3 (sa C 5 rfl (me_bin om_mul (sv C 5 rfl) me_int))))))
  (j3 (j7 (sv C 4 rfl))))))
  jy)
  (j3 (j7 (me_bin om_mod (xl C.un (Bk (ui qa (me_bin om_add (sv C 1 rfl) (sv C 2 rfl)) (ui Z4 (me_bin Yx (sv C 1 rfl) (sv C 2 rfl)) (ui Xy (me_bin om_mul (sv C 1 rfl) (sv C 2 rfl)) Vj))) (by decide) rfl rfl (by intro h;cases h) (by decide)) (sv C 0 rfl) (fun _ _=>rfl)) me_int))))))
theorem Dh (T:Tx w K mg):∀ k,uj P w K mg base "_law_worth" (2 + k) 2 (y8 k 0):=by
 intro k
 induction k with
 | zero=>exact W1 T.d_worth rfl
 | succ k ih =>
  have ih0:=ih
  refine ?_
  ·show uj P w K mg base "_law_worth" (2 + k + 1) 2 (fnOf 3 (Kx (y8 k)))
   exact fnC T.d_worth ["_law_tree","_law_packet_here","_law_at","_law_one","_law_other"] ["len","_law_worth","_law_bytes","_law_reckoned"] ⟨rfl,rfl,rfl,by decide +kernel,rfl,by decide +kernel,by decide +kernel⟩ (by decide +kernel) (by decide +kernel) rfl rfl fun _ _ _ _ _ _ _ hr C=>(j2 (jr (j8 (jh C.un) (me_idx (sv C 0 rfl) me_int (fun _ _=>rfl)) (me_str Jv) (nomark _))
  (j3 (j7 (me_idx (sv C 0 rfl) me_int (fun _ _=>rfl))))
  jy)
  (j2 (jr (j8 (jh C.un) (me_idx (sv C 0 rfl) me_int (fun _ _=>rfl)) (me_str yf) (nomark _))
  (j3 (j7 (Jh yv (C.g 0 rfl) T.n_len PySem.boot_len (ma_cons (sv C 1 rfl) ma_nil rfl))))
  jy)
  (j2 (jr (j8 (jh C.un) (me_idx (sv C 0 rfl) me_int (fun _ _=>rfl)) (me_str Ua) (nomark _))
  (j2 (sa C 2 rfl (me_fn ih0 (hr.mono (by omega)) (C.g 1 rfl) (ma_cons (me_idx (sv C 0 rfl) me_int (fun _ _=>rfl)) (ma_cons (sv C 1 rfl) ma_nil rfl) rfl) rfl))
  (j3 (j7 (Y0 (Z8 (sv C 2 rfl)) yz (me_fn (By T) (hr.mono (by omega)) (C.g 2 rfl) (ma_cons (sv C 1 rfl) (ma_cons (sv C 2 rfl) (ma_cons (me_idx (sv C 0 rfl) me_int (fun _ _=>rfl)) ma_nil rfl) rfl) rfl) rfl)))))
  jy)
  (j2 (sa C 3 rfl (me_fn ih0 (hr.mono (by omega)) (C.g 1 rfl) (ma_cons (me_idx (sv C 0 rfl) me_int (fun _ _=>rfl)) (ma_cons (sv C 1 rfl) ma_nil rfl) rfl) rfl))
  (j2 (sa C 4 rfl (Y0 (Z8 (sv C 3 rfl)) yz (me_fn ih0 (hr.mono (by omega)) (C.g 1 rfl) (ma_cons (me_idx (sv C 0 rfl) me_int (fun _ _=>rfl)) (ma_cons (sv C 1 rfl) ma_nil rfl) rfl) rfl)))
  (j3 (j7 (Y0 (Z8 (sv C 4 rfl)) yz (me_fn (gv T) (hr.mono (by omega)) (C.g 3 rfl) (ma_cons (me_idx (sv C 0 rfl) me_int (fun _ _=>rfl)) (ma_cons (sv C 3 rfl) (ma_cons (sv C 4 rfl) ma_nil rfl) rfl) rfl) rfl)))))))))
theorem gw (T:Tx w K mg):uj P w K mg base "_law_worth" 22 2 kz:=(Dh T 20)
theorem B8 (T:Tx w K mg):∀ k,uj P w K mg base "_law_says" (23 + k) 2 (Zb k 0):=by
 intro k
 induction k with
 | zero=>exact W1 T.d_says rfl
 | succ k ih =>
  have ih0:=ih
  refine ?_
  ·show uj P w K mg base "_law_says" (23 + k + 1) 2 (fnOf 3 (Wr (Zb k)))
   exact fnC T.d_says ["_law_tree","_law_packet_here","_law_one","_law_other","_law_good"] ["int","_law_says","_law_worth"] ⟨rfl,rfl,rfl,by decide +kernel,rfl,by decide +kernel,by decide +kernel⟩ (by decide +kernel) (by decide +kernel) rfl rfl fun _ _ _ _ _ _ _ hr C=>(j2 (jr (j8 (jh C.un) (me_idx (sv C 0 rfl) me_int (fun _ _=>rfl)) (me_str uv) (nomark _))
  (j3 (j7 (Y1 Wu (C.g 0 rfl) T.n_int PyProof.Rows.boot_int (ma_cons (me_idx (sv C 0 rfl) me_int (fun _ _=>rfl)) ma_nil rfl))))
  jy)
  (j2 (jr (j8 (Za C.un) (me_idx (sv C 0 rfl) me_int (fun _ _=>rfl)) (jv (ma_cons (me_str Xx) (ma_cons (me_str Q3) (ma_cons (me_str Ym) ma_nil rfl) rfl) rfl)) rfl)
  (j2 (sa C 2 rfl (me_fn ih0 (hr.mono (by omega)) (C.g 1 rfl) (ma_cons (me_idx (sv C 0 rfl) me_int (fun _ _=>rfl)) (ma_cons (sv C 1 rfl) ma_nil rfl) rfl) rfl))
  (j2 (jr (a68 (j8 Ez (sv C 2 rfl) me_int (nomark _)) (Bu (j8 (jh C.un) (me_idx (sv C 0 rfl) me_int (fun _ _=>rfl)) (me_str Xx) (nomark _)))).t
  (j3 (j7 (Y0 (j8 Ez (sv C 2 rfl) me_int (nomark _)) (sv C 2 rfl) (me_bin Yx me_int (sv C 2 rfl)))))
  jy)
  (j3 (j7 (Y0 (j8 (jh C.un) (sv C 2 rfl) (Y1 Wu (C.g 0 rfl) T.n_int PyProof.Rows.boot_int (ma_cons (uk (jh C.un) (me_idx (sv C 0 rfl) me_int (fun _ _=>rfl)) (me_str Ym) (nomark _)) ma_nil rfl)) (nomark _)) (sv C 2 rfl) (me_fn ih0 (hr.mono (by omega)) (C.g 1 rfl) (ma_cons (me_idx (sv C 0 rfl) me_int (fun _ _=>rfl)) (ma_cons (sv C 1 rfl) ma_nil rfl) rfl) rfl))))))
  jy)
  (j2 (sa C 2 rfl (me_fn (gw T) (hr.mono (by omega)) (C.g 2 rfl) (ma_cons (me_idx (sv C 0 rfl) me_int (fun _ _=>rfl)) (ma_cons (sv C 1 rfl) ma_nil rfl) rfl) rfl))
  (j2 (sa C 3 rfl (Y0 (Z8 (sv C 2 rfl)) yz (me_fn (gw T) (hr.mono (by omega)) (C.g 2 rfl) (ma_cons (me_idx (sv C 0 rfl) me_int (fun _ _=>rfl)) (ma_cons (sv C 1 rfl) ma_nil rfl) rfl) rfl)))
  (j2 (jr (Z8 (sv C 3 rfl))
  (j3 (j7 (ag4 me_int)))
  jy)
  (j2 (sa C 4 rfl (a22 (ui Dx (uk (jh C.un) (sv C 2 rfl) (sv C 3 rfl) (nomark _)) (ui Kp (uk (E9 C.un) (sv C 2 rfl) (sv C 3 rfl) (nomark _)) (ui Xv (uk Ez (sv C 2 rfl) (sv C 3 rfl) (nomark _)) (ui Z5 (uk v9 (sv C 2 rfl) (sv C 3 rfl) (nomark _)) Vj)))) (by decide) rfl rfl (by intro h;cases h) (by decide)))
  (j2 (fh C.un (sv C 4 rfl) (me_str Dw) (uk ap1 (sv C 2 rfl) (sv C 3 rfl) (nomark _)))
  (j2 (fh C.un (sv C 4 rfl) (me_str Xw) (uk gx (sv C 2 rfl) (sv C 3 rfl) (nomark _)))
  (j3 (j7 (Y1 Wu (C.g 0 rfl) T.n_int PyProof.Rows.boot_int (ma_cons (xl C.un (sv C 4 rfl) (me_idx (sv C 0 rfl) me_int (fun _ _=>rfl)) (fun _ _=>rfl)) ma_nil rfl))))))))))))
theorem a12 (T:Tx w K mg):uj P w K mg base "_law_says" 43 2 ky:=(B8 T 20)
theorem Cf:FnScope ["_law_script","_law_tree","_law_k_here","_law_number_here","_law_some","_law_op_here","_law_packet_here","_law_kept","_law_told_here","e"] ["_law_script"] (defScope Kg):=⟨rfl,rfl,rfl,by decide +kernel,rfl,by decide +kernel,by decide +kernel⟩
theorem a11 (T:Tx w K mg) {f:Addr} {fd:FuncData} (F:Fun K "law" "law" Kg f fd):FnOk P w K mg base CX0 44 f fd ["_law_script"] (spM K 1 f_law):=by
 refine d3 F Cf rfl rfl fun cdv A outer s H E hr=>?_
 have C:=ak (CX:=CX0) (P:=P) (w:=w) (K:=K) (mg:=mg) (base:=base) (outer:=outer) (H:=H) (E:=E) Cf.nd (Z9 (by decide +kernel)) (wm (show glB _ ["_law_mix","range","_law_packet","SieveError","compiled","run","_law_need","isinstance","TooDeep","ValueError","BadFilter","_law_says","int"]=true from (by decide +kernel))) hr
 exact ((j2 (sa C 1 rfl (jv (ma_cons (me_str Jv) (ma_cons (me_bin om_mod (me_fn (ok_mix T) (hr.mono (by decide)) (C.g 0 rfl) (ma_cons (sv C 0 rfl) (ma_cons me_int ma_nil rfl) rfl) rfl) me_int) ma_nil rfl) rfl)))
  (j2 (Vk PassesOwn.never C.calm (ya (C.g 1 rfl) T.n_range (me_bin om_mod (me_fn (ok_mix T) (hr.mono (by decide)) (C.g 0 rfl) (ma_cons (sv C 0 rfl) (ma_cons me_int ma_nil rfl) rfl) rfl) me_int)) (st C 2 rfl)
  (j2 (sa C 3 rfl (me_fn (ok_mix T) (hr.mono (by decide)) (C.g 0 rfl) (ma_cons (sv C 0 rfl) (ma_cons (me_bin om_add me_int (sv C 2 rfl)) ma_nil rfl) rfl) rfl))
  (j2 (sa C 4 rfl (me_idx (Uj (ma_cons (jv (ma_cons (me_str Jv) (ma_cons (me_bin om_mod (me_bin om_div (sv C 3 rfl) me_int) me_int) ma_nil rfl) rfl)) (ma_cons (jv (ma_cons (me_str yf) ma_nil rfl)) ma_nil rfl) rfl)) (me_bin om_mod (sv C 3 rfl) me_int) (fun _ _=>rfl)))
  (j2 (sa C 5 rfl (me_idx (Uj (ma_cons (me_str qa) (ma_cons (me_str Zs) (ma_cons (me_str Z4) (ma_cons (me_str xu) ma_nil rfl) rfl) rfl) rfl)) (me_bin om_mod (me_bin om_div (sv C 3 rfl) me_int) me_int) (fun _ _=>rfl)))
  (j2 (sa C 1 rfl (me_idx (Uj (ma_cons (jv (ma_cons (sv C 5 rfl) (ma_cons (sv C 4 rfl) (ma_cons (sv C 1 rfl) ma_nil rfl) rfl) rfl)) (ma_cons (jv (ma_cons (sv C 5 rfl) (ma_cons (sv C 4 rfl) (ma_cons (sv C 1 rfl) ma_nil rfl) rfl) rfl)) (ma_cons (jv (ma_cons (sv C 5 rfl) (ma_cons (sv C 1 rfl) (ma_cons (sv C 4 rfl) ma_nil rfl) rfl) rfl)) ma_nil rfl) rfl) rfl)) (me_bin om_mod (me_bin om_div (sv C 3 rfl) me_int) me_int) (fun _ _=>rfl)))
  (j3 (jr (Bt (j8 (jh C.un) (sv C 2 rfl) me_int (nomark _)) (Ev (j8 (jh C.un) (me_bin om_mod (me_bin om_div (sv C 3 rfl) me_int) me_int) me_int (nomark _)))).t
  (j3 (sa C 1 rfl (jv (ma_cons (me_str Ua) (ma_cons me_int (ma_cons (jv (ma_cons (me_str Zp) (ma_cons (sv C 1 rfl) (ma_cons (jv (ma_cons (me_str Jv) (ma_cons me_int ma_nil rfl) rfl)) ma_nil rfl) rfl) rfl)) ma_nil rfl) rfl) rfl))))
  jy)))))))
  (j2 (sa C 1 rfl (me_idx (Uj (ma_cons (jv (ma_cons (me_str Z5) (ma_cons (sv C 1 rfl) (ma_cons (jv (ma_cons (me_str Jv) (ma_cons me_int ma_nil rfl) rfl)) ma_nil rfl) rfl) rfl)) (ma_cons (jv (ma_cons (me_str Xv) (ma_cons (jv (ma_cons (me_str yf) ma_nil rfl)) (ma_cons (sv C 1 rfl) ma_nil rfl) rfl) rfl)) ma_nil rfl) rfl)) (me_bin om_mod (me_fn (ok_mix T) (hr.mono (by decide)) (C.g 0 rfl) (ma_cons (sv C 0 rfl) (ma_cons me_int ma_nil rfl) rfl) rfl) me_int) (fun _ _=>rfl)))
  (j2 (sa C 6 rfl (me_fn (Dg T) (hr.mono (by decide)) (C.g 2 rfl) (ma_cons (sv C 0 rfl) (ma_cons me_int ma_nil rfl) rfl) rfl))
  (j2 (sa C 7 rfl yz)
  (j2 (sa C 8 rfl yz)
  (j2 (Bs C T.h_SieveError (C.g 3 rfl) (show A0 ["_law_script","_law_tree","_law_k_here","_law_number_here","_law_some","_law_op_here","_law_packet_here","_law_kept","_law_told_here","e"] (defScope Kg)=true from (by decide +kernel)) rfl (ie:=9) rfl (by intro k hk;rcases (show k=0 by simpa using hk) with rfl <;> first | exact T.s_TooDeep_SieveError) (fun pn xe f E hx C=>(me_fn (Bz T) (hr.mono (by decide)) (C.g 5 rfl) (ma_cons (w5 (Wi T) hx (hr.mono (by decide)) (C.g 4 rfl) (ma_cons (sv C 1 rfl) ma_nil rfl) rfl) (ma_cons (sv C 6 rfl) ma_nil rfl) rfl) rfl))
  (fun a pn C=>(j3 (sah C 7 rfl (svh C 9 rfl)))))
  (j2 (jr (j8 v9 (me_fn (a13 T) (hr.mono (by decide)) (C.g 6 rfl) (ma_cons (sv C 1 rfl) ma_nil rfl) rfl) me_int (nomark _))
  (j3 (j7 (fc (Bl (C.g 8 rfl) T.m_TooDeep (Vn (by simp only [List.forall_mem_cons,List.not_mem_nil,false_implies,implies_true,and_true];exact ⟨T.g_TooDeep,T.k_TooDeep_TooDeep⟩)) (C.g 7 rfl) T.n_isinstance (sv C 7 rfl)) (fc (a21 (C.g 9 rfl) T.n_ValueError M.boot_ValueError (Vn (by simp only [List.forall_mem_cons,List.not_mem_nil,false_implies,implies_true,and_true];exact ⟨T.g_TooDeep,T.k_TooDeep_ValueError⟩)) (C.g 7 rfl) T.n_isinstance (sv C 7 rfl)) (Bm (ag3 (Bl (C.g 10 rfl) T.m_BadFilter (Vn (by simp only [List.forall_mem_cons,List.not_mem_nil,false_implies,implies_true,and_true];exact ⟨T.g_TooDeep,T.k_TooDeep_BadFilter⟩)) (C.g 7 rfl) T.n_isinstance (sv C 7 rfl))))))))
  jy)
  (j3 (j7 (fc (ag5 (sv C 7 rfl)) (Bm (uk (jh C.un) (sv C 8 rfl) (Y1 Wu (C.g 12 rfl) T.n_int PyProof.Rows.boot_int (ma_cons (uk (jh C.un) (me_fn (a12 T) (hr.mono (by decide)) (C.g 11 rfl) (ma_cons (sv C 1 rfl) (ma_cons (sv C 6 rfl) ma_nil rfl) rfl) rfl) me_int (nomark _)) ma_nil rfl)) (nomark _)))))))))))))))
theorem finish {fa:Addr} (hmg:mg "law"=some (.ref fa)) (T:Tx w K mg):∃ fd:FuncData,Yt fd ["_law_script"]∧∀ base:Heap,FnOk P w K mg base CX0 44 fa fd ["_law_script"] (spM K 1 f_law):=by
 obtain ⟨f,fd,h1,h2,h3⟩:=T.d_law
 have e:=hmg.symm.trans h1
 cases e
 exact ⟨fd,h3,fun base=>a11 T h2⟩
theorem mkT {h:Heap} (KX:K.In h) (G:h.Ns mainGlobals mg)
    (n_len:PySem.W.nsIn K mainGlobals "len"=some none)
    (n_range:PySem.W.nsIn K mainGlobals "range"=some none)
    (n_max:PySem.W.nsIn K mainGlobals "max"=some none)
    (n_list:PySem.W.nsIn K mainGlobals "list"=some none)
    (n_reversed:PySem.W.nsIn K mainGlobals "reversed"=some none)
    (n_isinstance:PySem.W.nsIn K mainGlobals "isinstance"=some none)
    (n_ValueError:PySem.W.nsIn K mainGlobals "ValueError"=some none)
    (n_int:PySem.W.nsIn K mainGlobals "int"=some none)
    (n_sum:PySem.W.nsIn K mainGlobals "sum"=some none)
    (n_min:PySem.W.nsIn K mainGlobals "min"=some none)
    {p_DIVIDING:Addr} {t0_DIVIDING t1_DIVIDING:Tok} {od_DIVIDING:Option Addr} {z_DIVIDING:Nat} {sl_DIVIDING:Array (Option Value)}
    (a_DIVIDING:PySem.W.nsIn K mainGlobals "DIVIDING"=some (some (.ref p_DIVIDING)))
    (l_DIVIDING:K.lookup p_DIVIDING=some ⟨.type "tuple",od_DIVIDING,.seq #[.str ⟨jl.toArray⟩ t0_DIVIDING,.str ⟨jg.toArray⟩ t1_DIVIDING] z_DIVIDING,sl_DIVIDING⟩)
    {t_WIDTH:Tok}
    (a_WIDTH:PySem.W.nsIn K mainGlobals "WIDTH"=some (some (.int 32 t_WIDTH)))
    {t_ROUND:Tok}
    (a_ROUND:PySem.W.nsIn K mainGlobals "ROUND"=some (some (.int 4294967296 t_ROUND)))
    {p_OPS:Addr} {t0_OPS t1_OPS t2_OPS t3_OPS t4_OPS t5_OPS t6_OPS t7_OPS t8_OPS t9_OPS:Tok} {od_OPS:Option Addr} {z_OPS:Nat} {sl_OPS:Array (Option Value)}
    (a_OPS:PySem.W.nsIn K mainGlobals "OPS"=some (some (.ref p_OPS)))
    (l_OPS:K.lookup p_OPS=some ⟨.type "tuple",od_OPS,.seq #[.str ⟨Jz.toArray⟩ t0_OPS,.str ⟨J0.toArray⟩ t1_OPS,.str ⟨ja.toArray⟩ t2_OPS,.str ⟨jl.toArray⟩ t3_OPS,.str ⟨jg.toArray⟩ t4_OPS,.str ⟨Jw.toArray⟩ t5_OPS,.str ⟨u9.toArray⟩ t6_OPS,.str ⟨Js.toArray⟩ t7_OPS,.str ⟨w_left.toArray⟩ t8_OPS,.str ⟨w_right.toArray⟩ t9_OPS] z_OPS,sl_OPS⟩)
    {t_SLOTS:Tok}
    (a_SLOTS:PySem.W.nsIn K mainGlobals "SLOTS"=some (some (.int 8 t_SLOTS)))
    {p_TEST_OF:Addr} {ep_TEST_OF:Nat} {k0_TEST_OF k1_TEST_OF k2_TEST_OF k3_TEST_OF k4_TEST_OF k5_TEST_OF:Tok} {v0_TEST_OF v1_TEST_OF v2_TEST_OF v3_TEST_OF v4_TEST_OF v5_TEST_OF:Addr}
    (a_TEST_OF:PySem.W.nsIn K mainGlobals "TEST_OF"=some (some (.ref p_TEST_OF)))
    (l_TEST_OF:K.lookup p_TEST_OF=some ⟨.type "dict",none,.dict #[⟨PyData.keyHash w.params ⟨ue.toArray⟩,.str ⟨ue.toArray⟩ k0_TEST_OF,.ref v0_TEST_OF⟩,⟨PyData.keyHash w.params ⟨Jj.toArray⟩,.str ⟨Jj.toArray⟩ k1_TEST_OF,.ref v1_TEST_OF⟩,⟨PyData.keyHash w.params ⟨ji.toArray⟩,.str ⟨ji.toArray⟩ k2_TEST_OF,.ref v2_TEST_OF⟩,⟨PyData.keyHash w.params ⟨ud.toArray⟩,.str ⟨ud.toArray⟩ k3_TEST_OF,.ref v3_TEST_OF⟩,⟨PyData.keyHash w.params ⟨J2.toArray⟩,.str ⟨J2.toArray⟩ k4_TEST_OF,.ref v4_TEST_OF⟩,⟨PyData.keyHash w.params ⟨Jf.toArray⟩,.str ⟨Jf.toArray⟩ k5_TEST_OF,.ref v5_TEST_OF⟩] ep_TEST_OF,#[]⟩)
    (h_TEST_OF:(p_TEST_OF == sysModules)=false)
    {u0_0_TEST_OF:Tok} {od0_TEST_OF:Option Addr} {z0_TEST_OF:Nat} {sl0_TEST_OF:Array (Option Value)}
    (l0_TEST_OF:K.lookup v0_TEST_OF=some ⟨.type "tuple",od0_TEST_OF,.seq #[.str ⟨uw.toArray⟩ u0_0_TEST_OF,.bool true] z0_TEST_OF,sl0_TEST_OF⟩)
    {u1_0_TEST_OF:Tok} {od1_TEST_OF:Option Addr} {z1_TEST_OF:Nat} {sl1_TEST_OF:Array (Option Value)}
    (l1_TEST_OF:K.lookup v1_TEST_OF=some ⟨.type "tuple",od1_TEST_OF,.seq #[.str ⟨uw.toArray⟩ u1_0_TEST_OF,.bool false] z1_TEST_OF,sl1_TEST_OF⟩)
    {u2_0_TEST_OF:Tok} {od2_TEST_OF:Option Addr} {z2_TEST_OF:Nat} {sl2_TEST_OF:Array (Option Value)}
    (l2_TEST_OF:K.lookup v2_TEST_OF=some ⟨.type "tuple",od2_TEST_OF,.seq #[.str ⟨ji.toArray⟩ u2_0_TEST_OF,.bool true] z2_TEST_OF,sl2_TEST_OF⟩)
    {u3_0_TEST_OF:Tok} {od3_TEST_OF:Option Addr} {z3_TEST_OF:Nat} {sl3_TEST_OF:Array (Option Value)}
    (l3_TEST_OF:K.lookup v3_TEST_OF=some ⟨.type "tuple",od3_TEST_OF,.seq #[.str ⟨ji.toArray⟩ u3_0_TEST_OF,.bool false] z3_TEST_OF,sl3_TEST_OF⟩)
    {u4_0_TEST_OF:Tok} {od4_TEST_OF:Option Addr} {z4_TEST_OF:Nat} {sl4_TEST_OF:Array (Option Value)}
    (l4_TEST_OF:K.lookup v4_TEST_OF=some ⟨.type "tuple",od4_TEST_OF,.seq #[.str ⟨J2.toArray⟩ u4_0_TEST_OF,.bool true] z4_TEST_OF,sl4_TEST_OF⟩)
    {u5_0_TEST_OF:Tok} {od5_TEST_OF:Option Addr} {z5_TEST_OF:Nat} {sl5_TEST_OF:Array (Option Value)}
    (l5_TEST_OF:K.lookup v5_TEST_OF=some ⟨.type "tuple",od5_TEST_OF,.seq #[.str ⟨J2.toArray⟩ u5_0_TEST_OF,.bool false] z5_TEST_OF,sl5_TEST_OF⟩)
    {q_SieveError:Addr}
    (a_SieveError:PySem.W.nsIn K mainGlobals "SieveError"=some (some (.ref q_SieveError)))
    {q_Machine:Addr}
    (a_Machine:PySem.W.nsIn K mainGlobals "Machine"=some (some (.ref q_Machine)))
    {q_TooDeep:Addr}
    (a_TooDeep:PySem.W.nsIn K mainGlobals "TooDeep"=some (some (.ref q_TooDeep)))
    {q_BadFilter:Addr}
    (a_BadFilter:PySem.W.nsIn K mainGlobals "BadFilter"=some (some (.ref q_BadFilter)))
    (o0_TooDeep:gy K q_TooDeep=true)
    (k0_TooDeep:PySem.W.keepIn K (.ref q_TooDeep)=true)
    (h1_SieveError:PySem.W.typeIn K (.ref q_SieveError)=some (.type "type"))
    (h2_SieveError:(PySem.W.clsIn K q_SieveError).isSome=true)
    (h3_SieveError:PySem.W.subIn K (.ref q_SieveError) (.type "BaseException")=some true)
    (s_TooDeep_SieveError:PySem.W.subIn K (.ref q_TooDeep) (.ref q_SieveError)=some true)
    (v_TooDeep:fm K q_TooDeep=true)
    (y2_TooDeep:PySem.W.findIn K (.ref q_TooDeep) "__getattribute__"=some (some (.builtin "BaseException.__getattribute__")))
    (y3_TooDeep:PySem.W.findIn K (.ref q_TooDeep) "__getattr__"=some none)
    (y4_TooDeep:PySem.W.hasDictIn K q_TooDeep=true)
    (z1_TooDeep:PySem.W.findIn K (.ref q_TooDeep) "__class__"=some (some (.builtin "object.__class__")))
    (z2_TooDeep:PySem.W.specialIn K (.builtin "object.__class__") "__get__"=some (some (.builtin "getset_descriptor.__get__")))
    (z3_TooDeep:PySem.W.takesIn K (.builtin "object.__class__")=some true)
    (z4_TooDeep:PySem.W.mroIn K q_TooDeep (.type "object")=some true)
    (k_TooDeep_TooDeep:PySem.W.kitOne K (.ref q_TooDeep) (.ref q_TooDeep)=some true)
    (k_TooDeep_ValueError:PySem.W.kitOne K (.ref q_TooDeep) (.type "ValueError")=some true)
    (k_TooDeep_BadFilter:PySem.W.kitOne K (.ref q_TooDeep) (.ref q_BadFilter)=some false)
    (p1_Machine:PySem.W.plainGet K q_Machine Str.empty=true)
    (p2_Machine:PySem.W.hasDictIn K q_Machine=true)
    (p3_Machine:PySem.W.plainOver K q_Machine=true)
    (p4_Machine:PySem.W.findIn K (.ref q_Machine) "__setattr__"=some (some (.builtin "object.__setattr__")))
    (na_Machine_hand:PySem.W.findIn K (.ref q_Machine) "hand"=some none)
    (na_Machine_other:PySem.W.findIn K (.ref q_Machine) "other"=some none)
    (na_Machine_slots:PySem.W.findIn K (.ref q_Machine) "slots"=some none)
    (na_Machine_place:PySem.W.findIn K (.ref q_Machine) "place"=some none)
    (na_Machine_done:PySem.W.findIn K (.ref q_Machine) "done"=some none)
    (na_Machine_told:PySem.W.findIn K (.ref q_Machine) "told"=some none)
    {q_p_Machine__init__:Addr} {oc_p_Machine__init__ kV_p_Machine__init__ dc_p_Machine__init__ pm_p_Machine__init__ cd_p_Machine__init__ ct_p_Machine__init__:Value} {od_p_Machine__init__ an_p_Machine__init__:Option Addr} {os_p_Machine__init__:Array (Option Value)}
    (i_p_Machine__init__:PySem.W.findIn K (.ref q_Machine) "__init__"=some (some (.ref q_p_Machine__init__)))
    (l_p_Machine__init__:K.lookup q_p_Machine__init__=some ⟨oc_p_Machine__init__,od_p_Machine__init__,.func (PySem.W.fnOf "__init__" "Machine.__init__" (defArgs s_p_Machine__init__) (defBody s_p_Machine__init__) (defScope s_p_Machine__init__) .none kV_p_Machine__init__ dc_p_Machine__init__ pm_p_Machine__init__ an_p_Machine__init__ cd_p_Machine__init__ ct_p_Machine__init__),os_p_Machine__init__⟩)
    (c_p_Machine__init__:PySem.W.codeIn K cd_p_Machine__init__ "Machine.__init__"=true)
    (k_p_Machine__init__:PySem.W.keepIn K (.ref q_p_Machine__init__)=true)
    (m1_p_Machine__init__:PySem.W.makesIn K q_Machine=true)
    (m2_p_Machine__init__:PySem.W.isFn K (.ref q_p_Machine__init__)=true)
    (m3_p_Machine__init__:PySem.W.keepIn K (.ref q_Machine)=true)
    (d_cell:Jc K "_law_cell" b5)
    (d_mix:Jc K "_law_mix" a63)
    (d_packet:Jc K "_law_packet" Xl)
    (d_p_put_away:Jc K "put_away" Zf)
    (d_p_take_in_hand:Jc K "take_in_hand" ye)
    (d_p_loaded:Jc K "loaded" Xk)
    (d_p_shifted:Jc K "shifted" Ql)
    (d_p_plainly_reckoned:Jc K "plainly_reckoned" Um)
    (d_p_reckoned:Jc K "reckoned" Zg)
    (d_p_fetched:Jc K "fetched" Qk)
    (d_p_value_of:Jc K "value_of" Zh)
    (d_p_holds:Jc K "holds" v3)
    (d_p_distance:Jc K "distance" Ze)
    (d_p_do_step:Jc K "do_step" Qj)
    (d_p_ended:Jc K "ended" v4)
    (d_p_run:Jc K "run" ej)
    (d_p_tasks_of_pair:Jc K "tasks_of_pair" jb)
    (d_p_tasks_of_number:Jc K "tasks_of_number" jk)
    (d_p_step_of_test:Jc K "step_of_test" yd)
    (d_p_make_truth:Jc K "make_truth" J8)
    (d_p_task_of_first:Jc K "task_of_first" yp)
    (d_p_compiled:Jc K "compiled" Jn)
    (d_need:Jc K "_law_need" Ca)
    (d_bytes:Jc K "_law_bytes" Vy)
    (d_reckoned:Jc K "_law_reckoned" Xm)
    (d_worth:Jc K "_law_worth" el)
    (d_says:Jc K "_law_says" Cc)
    (d_law:Jc K "law" Kg):Tx w K mg :=
  ⟨PySem.W.mg_none_of KX G n_len,
   PySem.W.mg_none_of KX G n_range,
   PySem.W.mg_none_of KX G n_max,
   PySem.W.mg_none_of KX G n_list,
   PySem.W.mg_none_of KX G n_reversed,
   PySem.W.mg_none_of KX G n_isinstance,
   PySem.W.mg_none_of KX G n_ValueError,
   PySem.W.mg_none_of KX G n_int,
   PySem.W.mg_none_of KX G n_sum,
   PySem.W.mg_none_of KX G n_min,
   ve (vs:=[.str ⟨jl.toArray⟩,.str ⟨jg.toArray⟩]) KX G a_DIVIDING l_DIVIDING (by show 2≤16777216;decide) (.cons ⟨_,rfl⟩ (.cons ⟨_,rfl⟩ .nil)) (fun F α=>(j6 (by unfold Rep;rfl) (j6 (by unfold Rep;rfl) jo))),
   Qq KX G a_WIDTH,
   Qq KX G a_ROUND,
   ve (vs:=[.str ⟨Jz.toArray⟩,.str ⟨J0.toArray⟩,.str ⟨ja.toArray⟩,.str ⟨jl.toArray⟩,.str ⟨jg.toArray⟩,.str ⟨Jw.toArray⟩,.str ⟨u9.toArray⟩,.str ⟨Js.toArray⟩,.str ⟨w_left.toArray⟩,.str ⟨w_right.toArray⟩]) KX G a_OPS l_OPS (by show 10≤16777216;decide) (.cons ⟨_,rfl⟩ (.cons ⟨_,rfl⟩ (.cons ⟨_,rfl⟩ (.cons ⟨_,rfl⟩ (.cons ⟨_,rfl⟩ (.cons ⟨_,rfl⟩ (.cons ⟨_,rfl⟩ (.cons ⟨_,rfl⟩ (.cons ⟨_,rfl⟩ (.cons ⟨_,rfl⟩ .nil)))))))))) (fun F α=>(j6 (by unfold Rep;rfl) (j6 (by unfold Rep;rfl) (j6 (by unfold Rep;rfl) (j6 (by unfold Rep;rfl) (j6 (by unfold Rep;rfl) (j6 (by unfold Rep;rfl) (j6 (by unfold Rep;rfl) (j6 (by unfold Rep;rfl) (j6 (by unfold Rep;rfl) (j6 (by unfold Rep;rfl) jo))))))))))),
   Qq KX G a_SLOTS,
   a48 [(ue,k0_TEST_OF,v0_TEST_OF),(Jj,k1_TEST_OF,v1_TEST_OF),(ji,k2_TEST_OF,v2_TEST_OF),(ud,k3_TEST_OF,v3_TEST_OF),(J2,k4_TEST_OF,v4_TEST_OF),(Jf,k5_TEST_OF,v5_TEST_OF)] KX G a_TEST_OF l_TEST_OF h_TEST_OF (show ([ue,Jj,ji,ud,J2,Jf]:List (List Nat)).Nodup by decide) rfl (fun F α=>(j6 (yc (vs:=[.str ⟨uw.toArray⟩,.bl true]) l0_TEST_OF (by show 2≤16777216;decide) (.cons ⟨_,rfl⟩ (.cons rfl .nil)) (j6 (by unfold Rep;rfl) (j6 (by unfold Rep;rfl) jo))) (j6 (yc (vs:=[.str ⟨uw.toArray⟩,.bl false]) l1_TEST_OF (by show 2≤16777216;decide) (.cons ⟨_,rfl⟩ (.cons rfl .nil)) (j6 (by unfold Rep;rfl) (j6 (by unfold Rep;rfl) jo))) (j6 (yc (vs:=[.str ⟨ji.toArray⟩,.bl true]) l2_TEST_OF (by show 2≤16777216;decide) (.cons ⟨_,rfl⟩ (.cons rfl .nil)) (j6 (by unfold Rep;rfl) (j6 (by unfold Rep;rfl) jo))) (j6 (yc (vs:=[.str ⟨ji.toArray⟩,.bl false]) l3_TEST_OF (by show 2≤16777216;decide) (.cons ⟨_,rfl⟩ (.cons rfl .nil)) (j6 (by unfold Rep;rfl) (j6 (by unfold Rep;rfl) jo))) (j6 (yc (vs:=[.str ⟨J2.toArray⟩,.bl true]) l4_TEST_OF (by show 2≤16777216;decide) (.cons ⟨_,rfl⟩ (.cons rfl .nil)) (j6 (by unfold Rep;rfl) (j6 (by unfold Rep;rfl) jo))) (j6 (yc (vs:=[.str ⟨J2.toArray⟩,.bl false]) l5_TEST_OF (by show 2≤16777216;decide) (.cons ⟨_,rfl⟩ (.cons rfl .nil)) (j6 (by unfold Rep;rfl) (j6 (by unfold Rep;rfl) jo))) jo))))))),
   (by show mg _=_;rw [uy a_SieveError];exact PySem.W.mg_of KX G a_SieveError),
   (by show mg _=_;rw [uy a_Machine];exact PySem.W.mg_of KX G a_Machine),
   (by show mg _=_;rw [uy a_TooDeep];exact PySem.W.mg_of KX G a_TooDeep),
   (by show mg _=_;rw [uy a_BadFilter];exact PySem.W.mg_of KX G a_BadFilter),
   ⟨by rw [uy a_TooDeep];exact PySem.W.mg_of KX G a_TooDeep,by rw [uy a_TooDeep];exact o0_TooDeep,by rw [uy a_TooDeep];exact k0_TooDeep⟩,
   ⟨by rw [uy a_SieveError];exact PySem.W.mg_of KX G a_SieveError,by rw [uy a_SieveError];exact ⟨h1_SieveError,h2_SieveError,h3_SieveError⟩⟩,
   (by rw [uy a_TooDeep,uy a_SieveError];exact s_TooDeep_SieveError),
   (by rw [uy a_TooDeep];exact ⟨v_TooDeep,y2_TooDeep,y3_TooDeep,y4_TooDeep,z1_TooDeep,z2_TooDeep,z3_TooDeep,z4_TooDeep⟩),
   (by rw [uy a_TooDeep];exact k_TooDeep_TooDeep),
   (by rw [uy a_TooDeep];exact k_TooDeep_ValueError),
   (by rw [uy a_TooDeep,uy a_BadFilter];exact k_TooDeep_BadFilter),
   (by rw [uy a_Machine];exact ⟨p1_Machine,p2_Machine,p3_Machine,p4_Machine⟩),
   (by rw [uy a_Machine];exact na_Machine_hand),
   (by rw [uy a_Machine];exact na_Machine_other),
   (by rw [uy a_Machine];exact na_Machine_slots),
   (by rw [uy a_Machine];exact na_Machine_place),
   (by rw [uy a_Machine];exact na_Machine_done),
   (by rw [uy a_Machine];exact na_Machine_told),
   ⟨q_p_Machine__init__,_,by rw [uy a_Machine];exact PySem.W.mg_of KX G a_Machine,by rw [uy a_Machine];exact ⟨m1_p_Machine__init__,i_p_Machine__init__,m2_p_Machine__init__,m3_p_Machine__init__⟩,ar (st:=s_p_Machine__init__) l_p_Machine__init__ c_p_Machine__init__ k_p_Machine__init__,fun us hl=>by obtain ⟨_,rfl⟩:=len_1 hl;rfl⟩,
   Jx KX G d_cell (fun _ _ _ _ _ _ _ _=>by walk_at "bs"),
   Jx KX G d_mix (fun _ _ _ _ _ _ _ _=>by walk_at "bs"),
   Jx KX G d_packet (fun _ _ _ _ _ _ _ _=>by walk_at "bs"),
   Jx KX G d_p_put_away (fun _ _ _ _ _ _ _ _=>by walk_at "bs"),
   Jx KX G d_p_take_in_hand (fun _ _ _ _ _ _ _ _=>by walk_at "bs"),
   Jx KX G d_p_loaded (fun _ _ _ _ _ _ _ _=>by walk_at "bs"),
   Jx KX G d_p_shifted (fun _ _ _ _ _ _ _ _=>by walk_at "bs"),
   Jx KX G d_p_plainly_reckoned (fun _ _ _ _ _ _ _ _=>by walk_at "bs"),
   Jx KX G d_p_reckoned (fun _ _ _ _ _ _ _ _=>by walk_at "bs"),
   Jx KX G d_p_fetched (fun _ _ _ _ _ _ _ _=>by walk_at "bs"),
   Jx KX G d_p_value_of (fun _ _ _ _ _ _ _ _=>by walk_at "bs"),
   Jx KX G d_p_holds (fun _ _ _ _ _ _ _ _=>by walk_at "bs"),
   Jx KX G d_p_distance (fun _ _ _ _ _ _ _ _=>by walk_at "bs"),
   Jx KX G d_p_do_step (fun _ _ _ _ _ _ _ _=>by walk_at "bs"),
   Jx KX G d_p_ended (fun _ _ _ _ _ _ _ _=>by walk_at "bs"),
   Jx KX G d_p_run (fun _ _ _ _ _ _ _ _=>by walk_at "bs"),
   Jx KX G d_p_tasks_of_pair (fun _ _ _ _ _ _ _ _=>by walk_at "bs"),
   Jx KX G d_p_tasks_of_number (fun _ _ _ _ _ _ _ _=>by walk_at "bs"),
   Jx KX G d_p_step_of_test (fun _ _ _ _ _ _ _ _=>by walk_at "bs"),
   Jx KX G d_p_make_truth (fun _ _ _ _ _ _ _ _=>by walk_at "bs"),
   Jx KX G d_p_task_of_first (fun _ _ _ _ _ _ _ _=>by walk_at "bs"),
   Jx KX G d_p_compiled (fun _ _ _ _ _ _ _ _=>by walk_at "bs"),
   Jx KX G d_need (fun _ _ _ _ _ _ _ _=>by walk_at "bs"),
   Jx KX G d_bytes (fun _ _ _ _ _ _ _ _=>by walk_at "bs"),
   Jx KX G d_reckoned (fun _ _ _ _ _ _ _ _=>by walk_at "bs"),
   Jx KX G d_worth (fun _ _ _ _ _ _ _ _=>by walk_at "bs"),
   Jx KX G d_says (fun _ _ _ _ _ _ _ _=>by walk_at "bs"),
   Jx KX G d_law (fun _ _ _ _ _ _ _ _=>by walk_at "bs")⟩
end
end K21
set_option Elab.async false
set_option linter.all false
set_option maxRecDepth 100000
set_option maxHeartbeats 4000000
namespace K21
open PySem PySem.Spec PyProof.Rows L2 M
noncomputable def opL:List (List Nat):=[Jz,J0,ja,jl,jg,Jw,u9,Js,w_left,w_right]
noncomputable def cell (ns:List Int) (k:Nat):Int:=if ns=[] then 0 else ns.getD (k % ns.length) 0
noncomputable def sc (ns:List Int):D:=.lst (ns.map .int)
theorem a52 (ns:List Int) (k:Nat) (μ:Mu):Fw [sc ns,.int k] μ=.ok (.int (cell ns k)) μ:=by
 cases ns with
 | nil=>rfl
 | cons n r =>
  refine Jy 0 (v_take rfl (v_bin rfl (v_bin rfl (Ue (d:=.int (List.map D.int (n::r)).length) rfl rfl) (Uf _ _ ?_)) ?_))
  ·rw [List.length_map,List.length_cons];omega
  ·show atI ((n::r).map D.int) ((k:Int) % ((List.map D.int (n::r)).length:Nat))=_
   rw [X9 (Int.emod_nonneg _ (by rw [List.length_map,List.length_cons];omega))]
   have e2:((k:Int) % ((List.map D.int (n::r)).length:Nat)).toNat=k % (n::r).length:=by
    rw [List.length_map]
    omega
   have hk:k % (n::r).length < (n::r).length:=Nat.mod_lt _ (by simp)
   rw [e2,List.getElem?_map,List.getElem?_eq_getElem hk]
   simp only [cell,reduceCtorEq,if_false,Option.map_some]
   rw [List.getD_eq_getElem?_getD,List.getElem?_eq_getElem hk]
   rfl
noncomputable def gp (c:Int) (k:Nat):Int:=(c + 104729 * ((k:Int) + 1)) % 4294967291 * 48271 % 4294967279
noncomputable def mix (ns:List Int) (k:Nat):Int:=(gp (cell ns k) k / 64 * 69621 + gp (cell ns k) k) % 4294967231
theorem ag1 (ns:List Int) (k:Nat) (μ:Mu):yx [sc ns,.int k] μ=.ok (.int (mix ns k)) μ:=by
 refine Jy 1 ((v_set 2 (d:=.int ((cell ns k + 104729 * ((k:Int) + 1)) % 4294967291)) (v_bin (v_bin (v_call rfl (a52 ns k μ)) (v_bin rfl (v_bin rfl rfl rfl) (Uv _ _ (by decide) (by decide))) rfl) rfl (Uf _ _ (by decide)))).trans
  ((v_set 2 (d:=.int (gp (cell ns k) k)) (v_bin (v_bin rfl rfl (zy _ _ (by decide) (by decide))) rfl (Uf _ _ (by decide)))).trans (v_ret ?_)))
 exact v_bin (x:=.int (gp (cell ns k) k / 64 * 69621 + gp (cell ns k) k)) (v_bin (x:=.int (gp (cell ns k) k / 64 * 69621)) (v_bin (x:=.int (gp (cell ns k) k / 64)) (v_bin (x:=.int (gp (cell ns k) k)) rfl rfl (Y4 _ _ (by decide) (by decide))) rfl (zy _ _ (by decide) (by decide))) rfl rfl) rfl (Uf _ _ (by decide))
theorem Bp (ns:List Int) (k:Nat):0≤mix ns k:=Int.emod_nonneg _ (by decide)
theorem Vr {P:List Nat→Prop} (h:P Jz∧P J0∧P ja∧P jl∧P jg∧P Jw∧P u9∧P Js∧P w_left∧P w_right):∀ x∈opL,P x:=by
 intro x hx
 simp only [opL,List.mem_cons,List.not_mem_nil,or_false] at hx
 obtain ⟨h1,h2,h3,h4,h5,h6,h7,h8,h9,h10⟩:=h
 rcases hx with rfl | rfl | rfl | rfl | rfl | rfl | rfl | rfl | rfl | rfl <;> assumption
noncomputable def iL (L:List Nat):List D:=L.map fun (g:Nat)=>D.int g
theorem a97 {ρ:En} {μ μ1:Mu} {i:Nat} {n:MSt} {d:D} {ds:List D} {ρ1:En} (h:n (ρ.set i (some d)) μ=.ok (.nx ρ1) μ1):u4 (gN i) n (d::ds) ρ μ=u4 (gN i) n ds ρ1 μ1:=a99 i h
theorem v_drop {m:MX} {ρ:En} {μ μ1:Mu} {d:D} (h:m ρ μ=.ok d μ1):u2 m ρ μ=.ok (.nx ρ) μ1:=by unfold u2;rw [h];rfl
theorem v_for {tg:MG} {it:MIt} {n:MSt} {ρ:En} {μ μ1:Mu} {ds:List D} (h:it ρ μ=.ok ds μ1):gi tg it n ρ μ=u4 tg n ds ρ μ1:=by rw [Gy,h];rfl
theorem a96 {m:MX} {ρ:En} {μ μ1:Mu} {ds:List D} (h:m ρ μ=.ok (.lst ds) μ1):w6 m ρ μ=.ok ds μ1:=by rw [qo,h];rfl
theorem Fd {m:MX} {ρ:En} {μ:Mu} {n:Nat} (h:m ρ μ=.ok (.int n) μ) (hn:n < 1000000):uf m ρ μ=.ok (iL (List.range' 0 n)) μ:=by
 rw [zv,h,bind_ok,Y6]
 unfold Ub
 dsimp only
 rw [if_pos (by constructor <;> omega),Int.toNat_natCast,ofO_some]
 unfold U3
 rw [List.range_eq_range']
 rfl
theorem D5 {ds:List D} {p:Nat} {d:D} (h:ds[p]? =some d):gIdx (.lst ds) (.int p)=some d:=by
 show atI ds (p:Int)=_
 rw [X9 (by omega),Int.toNat_natCast,h]
theorem Vd (p m:Nat):iL (List.range' p (m + 1))=D.int p::iL (List.range' (p + 1) m):=by rw [List.range'_succ];rfl
theorem Ys (j:Nat) {n:MSt} {ds:List D} {μ μ1:Mu} {ρ1:En} (h:n (ds.map some++List.replicate j none) μ=.ok (.nx ρ1) μ1):fnOf j n ds μ=.ok .non μ1:=by rw [Zw,h];rfl
theorem Yk {tg:MG} {m:MX} {d x:D} {ds acc:List D} {ρ ρ1:En} {μ:Mu} (ht:tg d ρ=some ρ1) (hm:m ρ1 μ=.ok x μ):u8 tg mTT m (d::ds) ρ μ acc=u8 tg mTT m ds ρ1 μ (acc++[x]):=by
 rw [u8,ht]
 show (noX (m ρ1 μ)).bind _=_
 rw [hm]
 rfl
theorem Q7 (ns:List Int) (k:Nat) {i:Int} (h:i=k) (μ:Mu):yx [sc ns,.int i] μ=.ok (.int (mix ns k)) μ:=by rw [h];exact ag1 ns k μ
theorem Fb {x:Nat} {n j:Int} {μ:Mu} (h:ρ[x]? =some (some (.int n))) (h1:0 < j) (h2:j < 18446744073709551616):mBin Ul (mVar x) (mC (.int j)) ρ μ=.ok (.int (n / j)) μ:=v_bin (v_var x h) rfl (Y4 _ _ h1 h2)
theorem Fc {i j:Int} {μ:Mu} (h:m ρ μ=.ok (.int i) μ) (h1:0 < j):mBin ux m (mC (.int j)) ρ μ=.ok (.int (i % j)) μ:=v_bin h rfl (Uf _ _ h1)
theorem v_set1 {m:MX} {ρ:En} {μ μ1:Mu} {d:D} (i:Nat) (h:m ρ μ=.ok d μ1):Ju i m ρ μ=.ok (.nx (ρ.set i (some d))) μ1:=by unfold Ju;rw [h];rfl
theorem v_callX {φ:Fn} {ms:MAs} {ρ:En} {μ μ1:Mu} {ds:List D} {r:Res D} (h:ms ρ μ=.ok ds μ1) (hf:φ ds μ1=r):yj φ ms ρ μ=r:=by unfold yj;rw [h];exact hf
end K21
set_option Elab.async false
set_option linter.all false
set_option maxRecDepth 100000
set_option maxHeartbeats 4000000
namespace K21
open PySem PySem.Spec PyProof.Rows L2 M
local macro_rules | `(tactic| walk_at "ev")=> `(tactic| simp only [Gw,Ww,Wx,W8,W7,e_c,kt,xb,a47,dl,dm,dn,du,km,ka,X3,d5,kj,dj,a45,d8,K2,dy,kf,K5,d7,ko,X8,kg,X2,a46,dw,Gz,Zv,zl,zm,G7,dz,Gx,W9,kc,Wy,qj,zu,dq,K0,K4,X7,d9,ke,kr,G9,qm,xa,X1,X0,d6,kh,kq,K3,X6,G8,Wz,dv,kb,Gy,K1,zv,Y6,qo,xf,qk,ql,X4,X5,Zw,bind_ok,bind_exc,bind_bad,ofO_some,ofO_none,noX_ok,deref_non,deref_bl,deref_int,deref_str,deref_tup,deref_lst,deref_dic,List.map_cons,List.map_nil,List.cons_append,List.nil_append,List.replicate_succ,List.replicate_zero,List.append_nil,List.set_cons_zero,List.set_cons_succ,G5,Ef,Uv,zy,Y4,Uf,Ec,a39,Eg,cu,aw,k9,Wf,Z3,vf,Ed,k8,wd,Va,Vb,G4,Ee,we,k7,if_true,if_false,Int.reduceLT,Int.reduceNeg,Xs,isN,Bool.not_true,Bool.not_false,decide_true,decide_false,Bool.false_eq_true,reduceIte,Option.map_some,Option.bind_some,List.isEmpty_nil,List.isEmpty_cons])
local macro_rules | `(tactic| walk_at "evh")=> `(tactic| simp only [*,Gw,Ww,Wx,W8,W7,e_c,kt,xb,a47,dl,dm,dn,du,km,ka,X3,d5,kj,dj,a45,d8,K2,dy,kf,K5,d7,ko,X8,kg,X2,a46,dw,Gz,Zv,zl,zm,G7,dz,Gx,W9,kc,Wy,qj,zu,dq,K0,K4,X7,d9,ke,kr,G9,qm,xa,X1,X0,d6,kh,kq,K3,X6,G8,Wz,dv,kb,Gy,K1,zv,Y6,qo,xf,qk,ql,X4,X5,Zw,bind_ok,bind_exc,bind_bad,ofO_some,ofO_none,noX_ok,deref_non,deref_bl,deref_int,deref_str,deref_tup,deref_lst,deref_dic,List.map_cons,List.map_nil,List.cons_append,List.nil_append,List.replicate_succ,List.replicate_zero,List.append_nil,List.set_cons_zero,List.set_cons_succ,G5,Ef,Uv,zy,Y4,Uf,Ec,a39,Eg,cu,aw,k9,Wf,Z3,vf,Ed,k8,wd,Va,Vb,G4,Ee,we,k7,if_true,if_false,Int.reduceLT,Int.reduceNeg,Xs,isN,Bool.not_true,Bool.not_false,decide_true,decide_false,Bool.false_eq_true,reduceIte,Option.map_some,Option.bind_some,List.isEmpty_nil,List.isEmpty_cons])
local macro_rules | `(tactic| walk_at "evd")=> `(tactic| simp (config:={decide:=true}) only [a79,a78,beq_self_eq_true,Gw,Ww,Wx,W8,W7,e_c,kt,xb,a47,dl,dm,dn,du,km,ka,X3,d5,kj,dj,a45,d8,K2,dy,kf,K5,d7,ko,X8,kg,X2,a46,dw,Gz,Zv,zl,zm,G7,dz,Gx,W9,kc,Wy,qj,zu,dq,K0,K4,X7,d9,ke,kr,G9,qm,xa,X1,X0,d6,kh,kq,K3,X6,G8,Wz,dv,kb,Gy,K1,zv,Y6,qo,xf,qk,ql,X4,X5,Zw,bind_ok,bind_exc,bind_bad,ofO_some,ofO_none,noX_ok,deref_non,deref_bl,deref_int,deref_str,deref_tup,deref_lst,deref_dic,List.map_cons,List.map_nil,List.cons_append,List.nil_append,List.replicate_succ,List.replicate_zero,List.append_nil,List.set_cons_zero,List.set_cons_succ,G5,Ef,Uv,zy,Y4,Uf,Ec,a39,Eg,cu,aw,k9,Wf,Z3,vf,Ed,k8,wd,Va,Vb,G4,Ee,we,k7,if_true,if_false,Int.reduceLT,Int.reduceNeg,Xs,isN,Bool.not_true,Bool.not_false,decide_true,decide_false,Bool.false_eq_true,reduceIte,Option.map_some,Option.bind_some,List.isEmpty_nil,List.isEmpty_cons])
local macro_rules | `(tactic| walk_at "evhd")=> `(tactic| simp (config:={decide:=true}) only [*,a79,a78,beq_self_eq_true,Gw,Ww,Wx,W8,W7,e_c,kt,xb,a47,dl,dm,dn,du,km,ka,X3,d5,kj,dj,a45,d8,K2,dy,kf,K5,d7,ko,X8,kg,X2,a46,dw,Gz,Zv,zl,zm,G7,dz,Gx,W9,kc,Wy,qj,zu,dq,K0,K4,X7,d9,ke,kr,G9,qm,xa,X1,X0,d6,kh,kq,K3,X6,G8,Wz,dv,kb,Gy,K1,zv,Y6,qo,xf,qk,ql,X4,X5,Zw,bind_ok,bind_exc,bind_bad,ofO_some,ofO_none,noX_ok,deref_non,deref_bl,deref_int,deref_str,deref_tup,deref_lst,deref_dic,List.map_cons,List.map_nil,List.cons_append,List.nil_append,List.replicate_succ,List.replicate_zero,List.append_nil,List.set_cons_zero,List.set_cons_succ,G5,Ef,Uv,zy,Y4,Uf,Ec,a39,Eg,cu,aw,k9,Wf,Z3,vf,Ed,k8,wd,Va,Vb,G4,Ee,we,k7,if_true,if_false,Int.reduceLT,Int.reduceNeg,Xs,isN,Bool.not_true,Bool.not_false,decide_true,decide_false,Bool.false_eq_true,reduceIte,Option.map_some,Option.bind_some,List.isEmpty_nil,List.isEmpty_cons])
theorem dbl (μ:Mu):∀ (n:Nat) (f:Nat→D) (a b:Int) (x4 x5 x6:Option D) (x3:Option D),∃ x3',u4 (gN 3) Jm ((List.range n).map f) [some (.str w_left),some (.int a),some (.int b),x3,x4,x5,x6] μ
  =.ok (.nx [some (.str w_left),some (.int (a * 2 ^ n)),some (.int b),x3',x4,x5,x6]) μ:=by
 intro n
 induction n with
 | zero=>intro f a b x4 x5 x6 x3;exact ⟨x3,by simp [u4]⟩
 | succ n ih =>
  intro f a b x4 x5 x6 x3
  obtain ⟨y,h⟩:=ih (fun k=>f (k + 1)) (a * 2) b x4 x5 x6 (some (f 0))
  refine ⟨y,?_⟩
  rw [List.range_succ_eq_map,List.map_cons,List.map_map,zn]
  have e1:Jm (List.set [some (.str w_left),some (.int a),some (.int b),x3,x4,x5,x6] 3 (some (f 0))) μ=.ok (.nx [some (.str w_left),some (.int (a * 2)),some (.int b),some (f 0),x4,x5,x6]) μ:=by
   show Jm [some (.str w_left),some (.int a),some (.int b),some (f 0),x4,x5,x6] μ=_
   have:yr (.int a) (.int 2)=some (.int (a * 2)):=zy a 2 (by decide) (by decide)
   unfold Jm
   walk_at "evd"
  rw [e1]
  simp only [bind_ok,ku]
  have e2:(f ∘ Nat.succ)=fun k=>f (k + 1):=rfl
  rw [e2,h,Int.mul_assoc,show (2:Int) * 2 ^ n=2 ^ (n + 1) by rw [Int.pow_succ,Int.mul_comm]]
theorem hlv (μ:Mu):∀ (n:Nat) (f:Nat→D) (a b:Int) (x4 x5 x6:Option D) (x3:Option D),∃ x3',u4 (gN 3) Jm ((List.range n).map f) [some (.str w_right),some (.int a),some (.int b),x3,x4,x5,x6] μ
  =.ok (.nx [some (.str w_right),some (.int (a / 2 ^ n)),some (.int b),x3',x4,x5,x6]) μ:=by
 intro n
 induction n with
 | zero=>intro f a b x4 x5 x6 x3;exact ⟨x3,by simp [u4]⟩
 | succ n ih =>
  intro f a b x4 x5 x6 x3
  obtain ⟨y,h⟩:=ih (fun k=>f (k + 1)) (a / 2) b x4 x5 x6 (some (f 0))
  refine ⟨y,?_⟩
  rw [List.range_succ_eq_map,List.map_cons,List.map_map,zn]
  have e1:Jm (List.set [some (.str w_right),some (.int a),some (.int b),x3,x4,x5,x6] 3 (some (f 0))) μ=.ok (.nx [some (.str w_right),some (.int (a / 2)),some (.int b),some (f 0),x4,x5,x6]) μ:=by
   show Jm [some (.str w_right),some (.int a),some (.int b),some (f 0),x4,x5,x6] μ=_
   unfold Jm
   walk_at "evd"
  rw [e1]
  simp only [bind_ok,ku]
  have e2:(f ∘ Nat.succ)=fun k=>f (k + 1):=rfl
  rw [e2,h,Int.ediv_ediv_of_nonneg (by decide),show (2:Int) * 2 ^ n=2 ^ (n + 1) by rw [Int.pow_succ,Int.mul_comm]]
theorem D3 (A k:Nat):((A:Int) / 2 ^ k) % 2=((A / 2 ^ k % 2:Nat):Int):=by
 rw [show (2:Int) ^ k=((2 ^ k:Nat):Int) by simp,← Int.natCast_ediv]
 rfl
noncomputable def D4 (o:List Nat) (p q:Bool):Bool:=if o=Jw then p && q else if o=u9 then p || q else xor p q
noncomputable def qz (o:List Nat) (A B:Nat):Nat:=if o=Jw then A &&& B else if o=u9 then A ||| B else A ^^^ B
theorem Dd (o:List Nat) (A B k:Nat):(qz o A B).testBit k=D4 o (A.testBit k) (B.testBit k):=by
 unfold qz D4
 split
 ·exact Nat.testBit_and ..
 ·split
  ·exact Nat.testBit_or ..
  ·exact Nat.testBit_xor ..
theorem w_n1:¬ u9=Jw:=by decide
theorem w_n2:¬ Js=Jw:=by decide
theorem w_n3:¬ Js=u9:=by decide
theorem t_eq (x y:Int):gEq (.tup [.int x,.int y]) (.tup [.int 1,.int 1])=some (.bl (x == 1 && y == 1)):=by
 show some (D.bl (eqD _ _))=_
 simp [eqD,eqDs]
theorem t_ne (x y:Int):gNe (.tup [.int x,.int y]) (.tup [.int 0,.int 0])=some (.bl (!(x == 0 && y == 0))):=by
 show some (D.bl (!eqD _ _))=_
 simp [eqD,eqDs]
theorem at0 (x y:D):atI [x,y] 0=some x:=rfl
theorem at1 (x y:D):atI [x,y] 1=some y:=rfl
theorem dAnd (a b c:D):Ux (.dic [.inr Jw,.inr u9,.inr Js] [a,b,c]) (.str Jw)=some a:=rfl
theorem dOr (a b c:D):Ux (.dic [.inr Jw,.inr u9,.inr Js] [a,b,c]) (.str u9)=some b:=rfl
theorem dXor (a b c:D):Ux (.dic [.inr Jw,.inr u9,.inr Js] [a,b,c]) (.str Js)=some c:=rfl
noncomputable def af (o:List Nat) (x y:Int):Bool:=if o=Jw then (x == 1 && y == 1) else if o=u9 then !(x == 0 && y == 0) else !(x == y)
theorem dAny (o:List Nat) (ho:o=Jw∨o=u9∨o=Js) (x y:Int):Ux (.dic [.inr Jw,.inr u9,.inr Js] [.bl (x == 1 && y == 1),.bl (!(x == 0 && y == 0)),.bl (!(x == y))]) (.str o)=some (.bl (af o x y)):=by
 unfold af
 rcases ho with rfl | rfl | rfl
 ·rw [dAnd,if_pos rfl]
 ·rw [dOr,if_neg w_n1,if_pos rfl]
 ·rw [dXor,if_neg w_n2,if_neg w_n3]
theorem ak8 (o:List Nat) (ho:o=Jw∨o=u9∨o=Js) (A B p F:Int) (f:D) (x6:Option D) (μ:Mu) (q1:Ul (.int A) (.int p)=some (.int (A / p))) (q2:Ul (.int B) (.int p)=some (.int (B / p))) (q3:∀ j,yr (.int p) (.int j)=some (.int (p * j))) :
  U5 [some (.str o),some (.int A),some (.int B),some f,some (.int F),some (.int p),x6] μ
   =.ok (.nx [some (.str o),some (.int A),some (.int B),some f,some (.int (F + p * (if af o (A / p % 2) (B / p % 2)=true then 1 else 0))),some (.int (p * 2)),some (.tup [.int (A / p % 2),.int (B / p % 2)])]) μ:=by
 unfold U5
 simp only [q1,q2,q3,t_eq,t_ne,at0,at1,Gw,Ww,Wx,W8,W7,e_c,Zv,zl,zm,Gz,G7,W9,Gx,Wy,qj,zu,G8,Wz,G9,qm,bind_ok,ofO_some,deref_int,deref_bl,deref_str,deref_tup,deref_dic,wd,vf,G5,Uf,Int.reduceLT,List.map_cons,List.map_nil,List.set_cons_zero,List.set_cons_succ,dAny o ho,we]
theorem ag (o:List Nat) (A B k:Nat):(if af o ((A:Int) / 2 ^ k % 2) ((B:Int) / 2 ^ k % 2)=true then (1:Int) else 0)=((D4 o (A.testBit k) (B.testBit k)).toNat:Int):=by
 rw [Nat.testBit_eq_decide_div_mod_eq,Nat.testBit_eq_decide_div_mod_eq,D3,D3]
 have ha:A / 2 ^ k % 2=0∨A / 2 ^ k % 2=1:=by omega
 have hb:B / 2 ^ k % 2=0∨B / 2 ^ k % 2=1:=by omega
 unfold af D4
 by_cases h1:o=Jw
 ·simp only [if_pos h1]
  rcases ha with ha | ha <;> rcases hb with hb | hb <;> rw [ha,hb] <;> rfl
 ·simp only [if_neg h1]
  by_cases h2:o=u9
  ·simp only [if_pos h2]
   rcases ha with ha | ha <;> rcases hb with hb | hb <;> rw [ha,hb] <;> rfl
  ·simp only [if_neg h2]
   rcases ha with ha | ha <;> rcases hb with hb | hb <;> rw [ha,hb] <;> rfl
theorem Dt (k:Nat) (hk:k < 32):(2:Int) ^ k < 18446744073709551616:=by
 have h1:(2:Nat) ^ k < 2 ^ 64:=Nat.pow_lt_pow_right (by decide) (by omega)
 have h2:(2:Int) ^ k=((2 ^ k:Nat):Int):=by simp
 rw [h2]
 omega
theorem c5 (o:List Nat) (ho:o=Jw∨o=u9∨o=Js) (A B:Nat) (μ:Mu):∀ (n k:Nat) (f:Nat→D) (x3 x6:Option D),k + n≤32→∃ x3' x6',
  u4 (gN 3) U5 ((List.range n).map f) [some (.str o),some (.int A),some (.int B),x3,some (.int ((qz o A B % 2 ^ k:Nat):Int)),some (.int (2 ^ k)),x6] μ
   =.ok (.nx [some (.str o),some (.int A),some (.int B),x3',some (.int ((qz o A B % 2 ^ (k + n):Nat):Int)),some (.int (2 ^ (k + n))),x6']) μ:=by
 intro n
 induction n with
 | zero=>intro k f x3 x6 _;exact ⟨x3,x6,rfl⟩
 | succ n ih =>
  intro k f x3 x6 hk
  have hp:(0:Int) < 2 ^ k:=Int.pow_pos (by decide)
  have hp2:=Dt k (by omega)
  obtain ⟨y3,y6,h⟩:=ih (k + 1) (fun j=>f (j + 1)) (some (f 0)) (some (.tup [.int ((A:Int) / 2 ^ k % 2),.int ((B:Int) / 2 ^ k % 2)])) (by omega)
  refine ⟨y3,y6,?_⟩
  rw [List.range_succ_eq_map,List.map_cons,List.map_map,zn]
  simp only [List.set_cons_zero,List.set_cons_succ]
  rw [ak8 o ho A B (2 ^ k) _ (f 0) x6 μ (Y4 _ _ hp hp2) (Y4 _ _ hp hp2) fun j=>Uv _ _ (by omega) hp2]
  simp only [bind_ok,ku]
  rw [ag,← Dd]
  have e1:((qz o A B % 2 ^ k:Nat):Int) + 2 ^ k * (((qz o A B).testBit k).toNat:Int)=((qz o A B % 2 ^ (k + 1):Nat):Int):=by
   rw [Nat.mod_pow_succ,Nat.toNat_testBit]
   simp
  rw [e1,show (2:Int) ^ k * 2=2 ^ (k + 1) from (Int.pow_succ 2 k).symm,show (f ∘ Nat.succ)=fun j=>f (j + 1) from rfl,h,show k + 1 + n=k + (n + 1) by omega]
section
variable (a b:Int) (μ:Mu)
theorem ad9:jx [.str Jz,.int a,.int b] μ=.ok (.int ((a + b) % 4294967296)) μ:=by rfl
theorem a03:jx [.str J0,.int a,.int b] μ=.ok (.int ((a - b) % 4294967296)) μ:=by rfl
theorem ao5:jx [.str Jw,.int a,.int b] μ=.ok (.int (Builtin.bitAnd a b % 4294967296)) μ:=by rfl
theorem p_or:jx [.str u9,.int a,.int b] μ=.ok (.int (Builtin.bitOr a b % 4294967296)) μ:=by rfl
theorem ao4:jx [.str Js,.int a,.int b] μ=.ok (.int (Builtin.bitXor a b % 4294967296)) μ:=by rfl
theorem a02:jx [.str jl,.int a,.int 0] μ=.ok .non μ:=by rfl
theorem a01:jx [.str jg,.int a,.int 0] μ=.ok .non μ:=by rfl
theorem wp (o:List Nat):gIn (.str o) c_DIVIDING=if okS o then some (.bl (jl == o || jg == o)) else none:=by
 show (if qv _ _ then some (D.bl (if false=true then _ else inD _ _)) else none)=_
 have e1:qv (.str o) [.str jl,.str jg]=okS o:=by
  simp only [qv,jn,plainDs,dpt,okS]
  have h1:jl.all (fun x=>decide (x < 0x110000))=true:=rfl
  have h2:jg.all (fun x=>decide (x < 0x110000))=true:=rfl
  rw [h1,h2]
  simp
 rw [e1]
 simp [inD,eqD]
variable {a b}
theorem Wm (ha:-18446744073709551616 < a) (ha2:a < 18446744073709551616):ju [.str ja,.int a,.int b] μ=.ok (.int (a * b)) μ:=by
 unfold ju Jt
 walk_at "evd"
 rw [Uv _ _ ha ha2]
 walk_at "ev"
theorem a00 (ha:-18446744073709551616 < a) (ha2:a < 18446744073709551616):jx [.str ja,.int a,.int b] μ=.ok (.int (a * b % 4294967296)) μ:=by
 unfold jx Uz
 walk_at "ev"
 simp only [show j9 μ c_DIVIDING=c_DIVIDING from rfl,wp,show okS ja=true from rfl,show (jl == ja || jg == ja)=false from rfl]
 walk_at "ev"
 rw [Wm μ ha ha2]
 rfl
theorem ae0 (hb:0 < b) (hb2:b < 18446744073709551616):jx [.str jl,.int a,.int b] μ=.ok (.int (a / b % 4294967296)) μ:=by
 have h0:(b == 0)=false:=by simp;omega
 have h1:ju [.str jl,.int a,.int b] μ=.ok (.int (a / b)) μ:=by
  unfold ju Jt
  walk_at "evd"
  rw [Y4 _ _ hb hb2]
  walk_at "ev"
 unfold jx Uz
 walk_at "ev"
 simp only [show j9 μ c_DIVIDING=c_DIVIDING from rfl,wp,show okS jl=true from rfl,show (jl == jl || jg == jl)=true from rfl]
 walk_at "ev"
 simp only [h0]
 walk_at "ev"
 rw [h1]
 rfl
theorem ad8 (hb:0 < b):jx [.str jg,.int a,.int b] μ=.ok (.int (a % b % 4294967296)) μ:=by
 have h0:(b == 0)=false:=by simp;omega
 have h1:ju [.str jg,.int a,.int b] μ=.ok (.int (a % b)) μ:=by
  unfold ju Jt
  walk_at "evd"
  rw [Uf _ _ hb]
  walk_at "ev"
 unfold jx Uz
 walk_at "ev"
 simp only [show j9 μ c_DIVIDING=c_DIVIDING from rfl,wp,show okS jg=true from rfl,show (jl == jg || jg == jg)=true from rfl]
 walk_at "ev"
 simp only [h0]
 walk_at "ev"
 rw [h1]
 rfl
noncomputable def shv (o:List Nat) (a b:Int):Int:=if b ≥ 32 then 0 else if o=w_left then a * 2 ^ b.toNat else a / 2 ^ b.toNat
theorem E7 (o:List Nat) (ho:o=w_left∨o=w_right) (hb:0≤b) (ha:a.natAbs < 18446744073709551616):jx [.str o,.int a,.int b] μ=.ok (.int (shv o a b % 4294967296)) μ:=by
 have hw:¬ w_right=w_left:=by decide
 have h1:U0 [.str o,.int a,.int b] μ=.ok (.int (shv o a b)) μ:=by
  unfold U0 Qa
  have hc:c_WIDTH=.int 32:=rfl
  rw [hc]
  walk_at "ev"
  unfold shv
  by_cases h:32≤b
  ·simp only [h,decide_true,ge_iff_le,if_true]
   walk_at "ev"
  ·have hm:(if (0:Int) > b then 0 else b)=b:=if_neg (by omega)
   simp only [h,decide_false,ge_iff_le,if_false,hm]
   walk_at "ev"
   rw [hm]
   rcases ho with rfl | rfl
   ·rw [show gEq (.str w_left) (.str w_left)=some (.bl true) from rfl]
    walk_at "ev"
    rw [g_shl _ _ hb (by omega) ha]
    walk_at "ev"
   ·rw [show gEq (.str w_right) (.str w_left)=some (.bl false) from rfl]
    walk_at "ev"
    rw [g_shr _ _ hb]
    simp only [if_neg hw]
    walk_at "ev"
 have h2:ju [.str o,.int a,.int b] μ=.ok (.int (shv o a b)) μ:=by
  unfold ju Jt
  rcases ho with rfl | rfl
  ·walk_at "evd"
   rw [h1]
   walk_at "ev"
  ·walk_at "evd"
   rw [h1]
   walk_at "ev"
 unfold jx Uz
 walk_at "ev"
 have h3:(okS o=true)∧(jl == o || jg == o)=false:=by rcases ho with rfl | rfl <;> exact ⟨rfl,rfl⟩
 simp only [show j9 μ c_DIVIDING=c_DIVIDING from rfl,wp,h3.1,h3.2,if_true]
 walk_at "ev"
 rw [h2]
 rfl
theorem iA (o:List Nat) (ho:okS o=true):gIn (.str o) (.tup [.str jl,.str jg])=some (.bl (jl == o || jg == o)):=by
 have:=wp o
 rw [ho] at this
 exact this
theorem iB (o:List Nat) (ho:okS o=true):gIn (.str o) (.tup [.str w_left,.str w_right])=some (.bl (w_left == o || w_right == o)):=by
 show (if qv _ _ then some (D.bl (if false=true then _ else inD _ _)) else none)=_
 have e1:qv (.str o) [.str w_left,.str w_right]=okS o:=by
  simp only [qv,jn,plainDs,dpt,okS]
  have h1:w_left.all (fun x=>decide (x < 0x110000))=true:=rfl
  have h2:w_right.all (fun x=>decide (x < 0x110000))=true:=rfl
  rw [h1,h2]
  simp
 rw [e1,ho]
 simp [inD,eqD]
theorem iC (o:List Nat) (ho:okS o=true):gIn (.str o) (.tup [.str Jw,.str u9,.str Js])=some (.bl (Jw == o || (u9 == o || Js == o))):=by
 show (if qv _ _ then some (D.bl (if false=true then _ else inD _ _)) else none)=_
 have e1:qv (.str o) [.str Jw,.str u9,.str Js]=okS o:=by
  simp only [qv,jn,plainDs,dpt,okS]
  have h1:Jw.all (fun x=>decide (x < 0x110000))=true:=rfl
  have h2:u9.all (fun x=>decide (x < 0x110000))=true:=rfl
  have h3:Js.all (fun x=>decide (x < 0x110000))=true:=rfl
  rw [h1,h2,h3]
  simp
 rw [e1,ho]
 simp [inD,eqD]
theorem dP (x y z:D):Ux (.dic [.inr Jz,.inr J0,.inr ja] [x,y,z]) (.str Jz)=some x:=rfl
theorem dM (x y z:D):Ux (.dic [.inr Jz,.inr J0,.inr ja] [x,y,z]) (.str J0)=some y:=rfl
theorem dT (x y z:D):Ux (.dic [.inr Jz,.inr J0,.inr ja] [x,y,z]) (.str ja)=some z:=rfl
theorem ac0 (ha:-18446744073709551616 < a) (ha2:a < 18446744073709551616):js [.str Jz,.int a,.int b] μ=.ok (.int ((a + b) % 4294967296)) μ:=by
 have h:yr (.int a) (.int b)=some (.int (a * b)):=Uv _ _ ha ha2
 unfold js ur
 walk_at "ev"
 simp only [iA Jz rfl,show (jl == Jz || jg == Jz)=false from rfl]
 walk_at "ev"
 simp only [iB Jz rfl,show (w_left == Jz || w_right == Jz)=false from rfl]
 walk_at "ev"
 simp only [iC Jz rfl,show (Jw == Jz || (u9 == Jz || Js == Jz))=false from rfl]
 walk_at "ev"
 rw [h]
 walk_at "ev"
 rw [dP]
 walk_at "ev"
theorem Ao (ha:-18446744073709551616 < a) (ha2:a < 18446744073709551616):js [.str J0,.int a,.int b] μ=.ok (.int ((a - b) % 4294967296)) μ:=by
 have h:yr (.int a) (.int b)=some (.int (a * b)):=Uv _ _ ha ha2
 unfold js ur
 walk_at "ev"
 simp only [iA J0 rfl,show (jl == J0 || jg == J0)=false from rfl]
 walk_at "ev"
 simp only [iB J0 rfl,show (w_left == J0 || w_right == J0)=false from rfl]
 walk_at "ev"
 simp only [iC J0 rfl,show (Jw == J0 || (u9 == J0 || Js == J0))=false from rfl]
 walk_at "ev"
 rw [h]
 walk_at "ev"
 rw [dM]
 walk_at "ev"
theorem Ar (ha:-18446744073709551616 < a) (ha2:a < 18446744073709551616):js [.str ja,.int a,.int b] μ=.ok (.int (a * b % 4294967296)) μ:=by
 have h:yr (.int a) (.int b)=some (.int (a * b)):=Uv _ _ ha ha2
 unfold js ur
 walk_at "ev"
 simp only [iA ja rfl,show (jl == ja || jg == ja)=false from rfl]
 walk_at "ev"
 simp only [iB ja rfl,show (w_left == ja || w_right == ja)=false from rfl]
 walk_at "ev"
 simp only [iC ja rfl,show (Jw == ja || (u9 == ja || Js == ja))=false from rfl]
 walk_at "ev"
 rw [h]
 walk_at "ev"
 rw [dT]
 walk_at "ev"
theorem Ap:js [.str jl,.int a,.int 0] μ=.ok .non μ:=by rfl
theorem Aq:js [.str jg,.int a,.int 0] μ=.ok .non μ:=by rfl
theorem ac1 (hb:0 < b) (hb2:b < 18446744073709551616):js [.str jl,.int a,.int b] μ=.ok (.int (a / b)) μ:=by
 have h0:(b == 0)=false:=by simp;omega
 unfold js ur
 walk_at "ev"
 simp only [iA jl rfl,show (jl == jl || jg == jl)=true from rfl]
 walk_at "ev"
 simp only [h0]
 walk_at "ev"
 rw [show gEq (.str jl) (.str jl)=some (.bl true) from rfl]
 walk_at "ev"
 rw [Y4 _ _ hb hb2]
 walk_at "ev"
theorem ab9 (hb:0 < b) (hb2:b < 18446744073709551616):js [.str jg,.int a,.int b] μ=.ok (.int (a - a / b * b)) μ:=by
 have h0:(b == 0)=false:=by simp;omega
 unfold js ur
 walk_at "ev"
 simp only [iA jg rfl,show (jl == jg || jg == jg)=true from rfl]
 walk_at "ev"
 simp only [h0]
 walk_at "ev"
 rw [show gEq (.str jg) (.str jl)=some (.bl false) from rfl]
 walk_at "ev"
 rw [Y4 _ _ hb hb2]
 walk_at "ev"
 rw [zy _ _ (by omega) hb2]
 walk_at "ev"
theorem ef (o:List Nat) (ho:o=w_left∨o=w_right) (hb:0≤b) (hb2:b < 4294967296):js [.str o,.int a,.int b] μ=.ok (.int ((if o=w_left then a * 2 ^ (min b.toNat 33) else a / 2 ^ (min b.toNat 33)) % 4294967296)) μ:=by
 have h3:okS o=true∧(jl == o || jg == o)=false∧(w_left == o || w_right == o)=true:=by rcases ho with rfl | rfl <;> exact ⟨rfl,rfl,rfl⟩
 have hm:(if (33:Int) < b then 33 else b)=((min b.toNat 33:Nat):Int):=by split <;> omega
 have hr:Ub [.int ((min b.toNat 33:Nat):Int)]=some (U3 (min b.toNat 33)):=x0 _ (by omega)
 unfold js ur
 walk_at "ev"
 simp only [iA o h3.1,h3.2.1]
 walk_at "ev"
 simp only [iB o h3.1,h3.2.2]
 walk_at "ev"
 rw [hm,hr]
 walk_at "ev"
 unfold U3
 rcases ho with rfl | rfl
 ·obtain ⟨x,e⟩:=dbl μ (min b.toNat 33) (fun k=>.int (k:Nat)) a b none none none none
  rw [e]
  walk_at "ev"
 ·obtain ⟨x,e⟩:=hlv μ (min b.toNat 33) (fun k=>.int (k:Nat)) a b none none none none
  rw [e]
  walk_at "ev"
  rw [if_neg (show ¬ w_right=w_left by decide)]
theorem fu (o:List Nat) (ho:o=Jw∨o=u9∨o=Js) (A B:Nat):js [.str o,.int A,.int B] μ=.ok (.int ((qz o A B % 2 ^ 32:Nat):Int)) μ:=by
 have h3:okS o=true∧(jl == o || jg == o)=false∧(w_left == o || w_right == o)=false∧(Jw == o || (u9 == o || Js == o))=true:=by rcases ho with rfl | rfl | rfl <;> exact ⟨rfl,rfl,rfl,rfl⟩
 have hr:Ub [.int 32]=some (U3 32):=rfl
 unfold js ur
 walk_at "ev"
 simp only [iA o h3.1,h3.2.1]
 walk_at "ev"
 simp only [iB o h3.1,h3.2.2.1]
 walk_at "ev"
 simp only [iC o h3.1,h3.2.2.2]
 walk_at "ev"
 rw [hr]
 walk_at "ev"
 obtain ⟨x,y,e⟩:=c5 o ho A B μ 32 0 (fun k=>.int (k:Nat)) none none (by decide)
 have e0:((qz o A B % 2 ^ 0:Nat):Int)=0:=by rw [Nat.pow_zero,Nat.mod_one];rfl
 rw [e0] at e
 have e':u4 (gN 3) U5 (U3 32) [some (D.str o),some (D.int A),some (D.int B),none,some (D.int 0),some (D.int 1),none] μ=_:=e
 rw [e']
 walk_at "ev"
end
theorem B1 (A B:Nat):∀ k:Nat,(A ||| B) % 2 ^ k=(A ^^^ B) % 2 ^ k + (A &&& B) % 2 ^ k:=by
 intro k
 induction k with
 | zero=>simp [Nat.mod_one]
 | succ k ih =>
  rw [Nat.mod_pow_succ,Nat.mod_pow_succ,Nat.mod_pow_succ,ih,← Nat.toNat_testBit,← Nat.toNat_testBit,← Nat.toNat_testBit,Nat.testBit_or,Nat.testBit_xor,Nat.testBit_and]
  cases A.testBit k <;> cases B.testBit k <;> simp <;> omega
theorem as0 (A B:Nat):Builtin.bitAnd (A:Int) (B:Int)=((A &&& B:Nat):Int):=PyProof.Rows.bitAnd_pp (Int.natCast_nonneg _) (Int.natCast_nonneg _)
theorem bOr (A B:Nat):Builtin.bitOr (A:Int) (B:Int)=((A ||| B:Nat):Int):=by
 unfold Builtin.bitOr
 have h:∀ n:Nat,¬ 0≤Builtin.bitNot (n:Int):=fun n=>by unfold Builtin.bitNot;omega
 have e:∀ n:Int,Builtin.bitNot (Builtin.bitNot n)=n:=fun n=>by unfold Builtin.bitNot;omega
 rw [PyProof.Rows.bitAnd_nn (h A) (h B),e,e,e]
 simp
theorem bXor (A B:Nat) (hA:A < 2 ^ 32) (hB:B < 2 ^ 32):Builtin.bitXor (A:Int) (B:Int)=((A ^^^ B:Nat):Int):=by
 unfold Builtin.bitXor
 rw [bOr,as0]
 have h:=B1 A B 32
 rw [Nat.mod_eq_of_lt (Nat.or_lt_two_pow hA hB),Nat.mod_eq_of_lt (Nat.xor_lt_two_pow hA hB),Nat.mod_eq_of_lt (Nat.and_lt_two_pow _ hB)] at h
 omega
theorem both (o:List Nat) (ho:o∈opL) (a b:Int) (ha:0≤a) (ha2:a < 4294967296) (hb:0≤b) (hb2:b < 4294967296) :
  (∀ μ,jx [.str o,.int a,.int b] μ=.ok .non μ∧js [.str o,.int a,.int b] μ=.ok .non μ)∨∃ i,∀ μ,jx [.str o,.int a,.int b] μ=.ok (.int i) μ∧js [.str o,.int a,.int b] μ=.ok (.int i) μ:=by
 have a1:-18446744073709551616 < a:=by omega
 have a2:a < 18446744073709551616:=by omega
 have b2:b < 18446744073709551616:=by omega
 have hs:∀ o',o'=w_left∨o'=w_right→shv o' a b % 4294967296=(if o'=w_left then a * 2 ^ (min b.toNat 33) else a / 2 ^ (min b.toNat 33)) % 4294967296:=fun o' ho'=>by
  unfold shv
  by_cases h:b ≥ 32
  ·rw [if_pos h]
   rcases ho' with rfl | rfl
   ·rw [if_pos rfl]
    obtain ⟨c,hc⟩:∃ c,min b.toNat 33=32 + c:=⟨min b.toNat 33 - 32,by omega⟩
    rw [hc,Int.pow_add,← Int.mul_assoc,Int.mul_right_comm]
    have:(2:Int) ^ 32=4294967296:=by decide
    rw [this]
    omega
   ·rw [if_neg (show ¬ w_right=w_left by decide)]
    have:a / 2 ^ (min b.toNat 33)=0:=by
     refine Int.ediv_eq_zero_of_lt ha (Int.lt_of_lt_of_le ha2 ?_)
     have h2:(2:Nat) ^ 32≤2 ^ (min b.toNat 33):=Nat.pow_le_pow_right (by decide) (by omega)
     have h3:(2:Int) ^ (min b.toNat 33)=((2 ^ (min b.toNat 33):Nat):Int):=by simp
     rw [h3]
     omega
    rw [this]
  ·rw [if_neg h,show min b.toNat 33=b.toNat by omega]
 obtain ⟨A,rfl⟩:=Int.eq_ofNat_of_zero_le ha
 obtain ⟨B,rfl⟩:=Int.eq_ofNat_of_zero_le hb
 have hA:A < 2 ^ 32:=by omega
 have hB:B < 2 ^ 32:=by omega
 simp only [opL,List.mem_cons,List.not_mem_nil,or_false] at ho
 rcases ho with rfl | rfl | rfl | rfl | rfl | rfl | rfl | rfl | rfl | rfl
 ·exact .inr ⟨_,fun μ=>⟨ad9 _ _ μ,ac0 μ a1 a2⟩⟩
 ·exact .inr ⟨_,fun μ=>⟨a03 _ _ μ,Ao μ a1 a2⟩⟩
 ·exact .inr ⟨_,fun μ=>⟨a00 μ a1 a2,Ar μ a1 a2⟩⟩
 ·by_cases h:B=0
  ·subst h;exact .inl fun μ=>⟨a02 _ μ,Ap μ⟩
  ·refine .inr ⟨_,fun μ=>⟨ae0 μ (by omega) b2,?_⟩⟩
   rw [ac1 μ (by omega) b2,Int.emod_eq_of_lt (Int.ediv_nonneg ha hb) (Int.lt_of_le_of_lt (Int.ediv_le_self _ ha) ha2)]
 ·by_cases h:B=0
  ·subst h;exact .inl fun μ=>⟨a01 _ μ,Aq μ⟩
  ·refine .inr ⟨_,fun μ=>⟨ad8 μ (by omega),?_⟩⟩
   have h1:=Int.emod_nonneg (A:Int) (show (B:Int)≠0 by omega)
   have h2:=Int.emod_lt_of_pos (A:Int) (show (0:Int) < B by omega)
   rw [ab9 μ (by omega) b2,Int.emod_eq_of_lt h1 (by omega)]
   have h3:=Int.mul_ediv_add_emod (A:Int) B
   rw [Int.mul_comm (A / B:Int) B]
   have:(A:Int) - B * (A / B:Int)=A % B:=by omega
   rw [this]
 ·refine .inr ⟨_,fun μ=>⟨ao5 _ _ μ,?_⟩⟩
  rw [fu μ Jw (.inl rfl),as0]
  rfl
 ·refine .inr ⟨_,fun μ=>⟨p_or _ _ μ,?_⟩⟩
  rw [fu μ u9 (.inr (.inl rfl)),bOr]
  rfl
 ·refine .inr ⟨_,fun μ=>⟨ao4 _ _ μ,?_⟩⟩
  rw [fu μ Js (.inr (.inr rfl)),bXor A B hA hB]
  rfl
 ·refine .inr ⟨_,fun μ=>⟨E7 μ w_left (.inl rfl) hb (by omega),?_⟩⟩
  rw [ef μ w_left (.inl rfl) hb hb2,hs _ (.inl rfl)]
 ·refine .inr ⟨_,fun μ=>⟨E7 μ w_right (.inr rfl) hb (by omega),?_⟩⟩
  rw [ef μ w_right (.inr rfl) hb hb2,hs _ (.inr rfl)]
end K21
set_option Elab.async false
set_option linter.all false
set_option maxRecDepth 100000
set_option maxHeartbeats 400000
namespace K21
open PySem PySem.Spec PyProof.Rows L2 M
noncomputable def Num (d:D):Prop:=∃ i:Int,d=.int i∧0≤i∧i < 4294967296
theorem Num.mod (r:Int):Num (.int (r % 4294967296)):=⟨_,rfl,Int.emod_nonneg _ (by decide),Int.emod_lt_of_pos _ (by decide)⟩
section
variable {a b r:Int} {μ:Mu} {x:List Nat}
theorem zb (hx:w9 (j5 (mBin gIn (mVar 0) (mC c_DIVIDING))) (j5 (mBin gEq (mVar 2) (mC (.int 0)))) [some (.str x),some (.int a),some (.int b)] μ=.ok false μ) (hp:ju [.str x,.int a,.int b] μ=.ok (.int r) μ) :
  jx [.str x,.int a,.int b] μ=.ok (.int (r % 4294967296)) μ:=Jy 0 ((v_skip hx).trans (v_ret (v_bin (v_call rfl hp) rfl (Uf _ _ (by decide)))))
theorem b8 (hx:j5 (mBin gIn (mVar 0) (mC c_DIVIDING)) [some (.str x),some (.int a),some (.int b)] μ=.ok true μ) (hb:0 < b):w9 (j5 (mBin gIn (mVar 0) (mC c_DIVIDING))) (j5 (mBin gEq (mVar 2) (mC (.int 0)))) [some (.str x),some (.int a),some (.int b)] μ=.ok false μ:=by
 refine (Co hx).trans (jm (v_bin rfl rfl ?_))
 rw [deref_int,deref_int,Z3,show (b == 0)=false by rw [beq_eq_false_iff_ne];omega]
theorem am4 (ha:0≤a) (ha2:a < 4294967296) (hb:0≤b) (hx:x=w_left∨x=w_right):∃ r,U0 [.str x,.int a,.int b] μ=.ok (.int r) μ:=by
 by_cases h:32≤b
 ·refine ⟨0,Jy 1 (v_take (jm (v_bin rfl rfl ?_)) rfl)⟩
  show gGe (.int b) (.int 32)=_
  rw [Wf,decide_eq_true h]
 ·have h1:j5 (mBin gGe (mVar 2) (mC c_WIDTH)) [some (.str x),some (.int a),some (.int b),none] μ=.ok false μ:=by
   refine jm (v_bin rfl rfl ?_)
   show gGe (.int b) (.int 32)=_
   rw [Wf,decide_eq_false h]
  have h2:J5 cr (mCons (mVar 2) (mCons (mC (.int 0)) mNil)) [some (.str x),some (.int a),some (.int b),none] μ=.ok (.int b) μ:=by
   refine Ue rfl ?_
   show cr [.int b,.int 0]=_
   rw [G4,if_neg (by omega)]
  rcases hx with rfl | rfl
  ·exact ⟨_,Jy 1 ((v_skip h1).trans ((v_set 3 h2).trans (v_ret ((v_ifT rfl).trans (v_bin rfl rfl (g_shl _ _ hb (by omega) (by omega)))))))⟩
  ·exact ⟨_,Jy 1 ((v_skip h1).trans ((v_set 3 h2).trans (v_ret ((v_ifF rfl).trans (v_bin rfl rfl (g_shr _ _ hb))))))⟩
theorem reck (hx:x∈opL) (ha:0≤a) (ha2:a < 4294967296) (hb:0≤b) (hb2:b < 4294967296) (μ:Mu):∃ d,jx [.str x,.int a,.int b] μ=.ok d μ∧(d=.non∨Num d):=by
 have z:b=0∨0 < b:=by omega
 have sh:∀ y,y=w_left∨y=w_right→∃ r,U0 [.str y,.int a,.int b] μ=.ok (.int r) μ:=fun y hy=>am4 ha ha2 hb hy
 revert hx
 revert x
 show ∀ x∈opL,_
 refine Vr ⟨⟨_,zb (Yz rfl) rfl,.inr (Num.mod _)⟩,⟨_,zb (Yz rfl) rfl,.inr (Num.mod _)⟩,?_,?_,?_,⟨_,zb (Yz rfl) rfl,.inr (Num.mod _)⟩,⟨_,zb (Yz rfl) rfl,.inr (Num.mod _)⟩,⟨_,zb (Yz rfl) rfl,.inr (Num.mod _)⟩,?_,?_⟩
 ·exact ⟨_,zb (Yz rfl) (Jy 0 ((v_skip rfl).trans ((v_skip rfl).trans (v_take rfl (v_bin rfl rfl (Uv _ _ (by omega) (by omega))))))),.inr (Num.mod _)⟩
 ·rcases z with rfl | z
  ·exact ⟨.non,rfl,.inl rfl⟩
  ·exact ⟨_,zb (b8 rfl z) (Jy 0 ((v_skip rfl).trans ((v_skip rfl).trans ((v_skip rfl).trans (v_take rfl (v_bin rfl rfl (Y4 _ _ z (by omega)))))))),.inr (Num.mod _)⟩
 ·rcases z with rfl | z
  ·exact ⟨.non,rfl,.inl rfl⟩
  ·exact ⟨_,zb (b8 rfl z) (Jy 0 ((v_skip rfl).trans ((v_skip rfl).trans ((v_skip rfl).trans ((v_skip rfl).trans (v_take rfl (v_bin rfl rfl (Uf _ _ z)))))))),.inr (Num.mod _)⟩
 ·obtain ⟨r,e⟩:=sh w_left (.inl rfl)
  exact ⟨_,zb (Yz rfl) (Jy 0 ((v_skip rfl).trans ((v_skip rfl).trans ((v_skip rfl).trans ((v_skip rfl).trans ((v_skip rfl).trans ((v_skip rfl).trans ((v_skip rfl).trans ((v_skip rfl).trans (v_ret (v_call rfl e))))))))))),.inr (Num.mod _)⟩
 ·obtain ⟨r,e⟩:=sh w_right (.inr rfl)
  exact ⟨_,zb (Yz rfl) (Jy 0 ((v_skip rfl).trans ((v_skip rfl).trans ((v_skip rfl).trans ((v_skip rfl).trans ((v_skip rfl).trans ((v_skip rfl).trans ((v_skip rfl).trans ((v_skip rfl).trans (v_ret (v_call rfl e))))))))))),.inr (Num.mod _)⟩
theorem am7 (hx:x∈opL) (ha:0≤a) (ha2:a < 4294967296) (hb:0≤b) (hb2:b < 4294967296):∃ d,(d=.non∨Num d)∧(∀ μ,jx [.str x,.int a,.int b] μ=.ok d μ)∧∀ μ,js [.str x,.int a,.int b] μ=.ok d μ:=by
 obtain ⟨d,e,hd⟩:=reck hx ha ha2 hb hb2 []
 rcases both x hx a b ha ha2 hb hb2 with h | ⟨i,h⟩
 ·exact ⟨.non,.inl rfl,fun μ=>(h μ).1,fun μ=>(h μ).2⟩
 ·have:=e.symm.trans (h []).1
  cases this
  exact ⟨_,hd,fun μ=>(h μ).1,fun μ=>(h μ).2⟩
end
noncomputable def mk8:Int→Int→Int:=fun v i=>v * 256 + i
theorem Qy {a b c:Option D} {μ:Mu}:∀ (xs:List Int) (k:Nat) (v:Int) (x4:Option D),(∀ i∈xs,0≤i∧i < 256)→0≤v→v < 256 ^ k→k + xs.length≤4→∃ y4,
  u4 (gN 4) Ud (xs.map .int) [a,b,c,some (.int v),x4] μ=.ok (.nx [a,b,c,some (.int (xs.foldl mk8 v)),y4]) μ∧0≤xs.foldl mk8 v∧xs.foldl mk8 v < 256 ^ (k + xs.length)
 | [],k,v,x4,_,h0,h1,_=>⟨x4,rfl,h0,h1⟩
 | i::xs,k,v,x4,hx,h0,h1,hk=>by
  obtain ⟨⟨i0,i1⟩,hx'⟩:=List.forall_mem_cons.mp hx
  rw [List.length_cons] at hk
  have hv:v < 4294967296:=by
   have:(256:Int) ^ k≤256 ^ 4:=by
    have hk4:k=0∨k=1∨k=2∨k=3∨k=4:=by omega
    rcases hk4 with rfl | rfl | rfl | rfl | rfl <;> decide
   have h4:(256:Int) ^ 4=4294967296:=by decide
   omega
  have e1:Ud [a,b,c,some (.int v),some (.int i)] μ=.ok (.nx [a,b,c,some (.int (v * 256 + i)),some (.int i)]) μ:=by
   unfold Ud Ju
   rw [v_bin (x:=.int (v * 256)) (y:=.int i) (z:=.int (v * 256 + i)) (v_bin rfl rfl (Uv _ _ (by omega) (by omega))) rfl rfl]
   rfl
  obtain ⟨y4,e,h2,h3⟩:=Qy xs (k + 1) (v * 256 + i) (some (.int i)) hx' (by omega) (by rw [Int.pow_succ];omega) (by omega)
  refine ⟨y4,(a97 e1).trans e,h2,?_⟩
  rw [List.length_cons,show k + (xs.length + 1)=k + 1 + xs.length by omega]
  exact h3
end K21
set_option Elab.async false
set_option linter.all false
set_option maxRecDepth 100000
set_option maxHeartbeats 400000
namespace K21
open PySem PySem.Spec PyProof.Rows L2 M
theorem v_sl {m ml mh:MX} {ρ:En} {μ:Mu} {xs:List D} {i j:Int} (h:m ρ μ=.ok (.lst xs) μ) (hl:ml ρ μ=.ok (.int i) μ) (hh:mh ρ μ=.ok (.int j) μ):mSl m (vt ml) (vt mh) ρ μ=.ok (.lst (M.cutD xs (some i) (some j))) μ:=by
 unfold mSl vt
 rw [h,bind_ok,hl,bind_ok]
 dsimp only
 rw [bind_ok,hh,bind_ok]
 rfl
noncomputable abbrev pk (bs:List Int):D:=.lst (bs.map .int)
noncomputable def zr (bs:List Int):Prop:=(∀ i∈bs,0≤i∧i < 256)∧bs.length < 1000
theorem aj2 {bs:List Int} {i z:Nat} (h:i + z≤bs.length):M.cutD (bs.map .int) (some (i:Int)) (some ((i + z:Nat):Int))=((bs.drop i).take z).map D.int:=by
 unfold M.cutD
 rw [HT.sIx_nat,HT.sIx_nat,List.length_map,Nat.min_eq_left (by omega),Nat.min_eq_left (by omega),show i + z - i=z by omega,← List.map_drop,← List.map_take]
noncomputable abbrev bEl:MX:=mBin yr (mBin gIdx (mVar 1) (mBin uc (mVar 2) (mVar 0))) (mBin gIdx (yt (mCons (mC (.int 1)) (mCons (mC (.int 256)) (mCons (mC (.int 65536)) (mCons (mC (.int 16777216)) mNil))))) (mBin zx (mBin zx (mVar 3) (mC (.int 1))) (mVar 0)))
section
variable {bs:List Int} {st:Nat} {μ:Mu}
theorem Fm (k:Nat) {z:Int} {x w:Int} (hx:(bs.drop st)[k]? =some x) (hb:0≤x∧x < 256)
  (hw:mBin gIdx (yt (mCons (mC (.int 1)) (mCons (mC (.int 256)) (mCons (mC (.int 65536)) (mCons (mC (.int 16777216)) mNil))))) (mBin zx (mBin zx (mVar 3) (mC (.int 1))) (mVar 0)) [some (.int k),some (pk bs),some (.int st),some (.int z)] μ=.ok (.int w) μ) :
  bEl [some (.int k),some (pk bs),some (.int st),some (.int z)] μ=.ok (.int (x * w)) μ:=by
 refine v_bin (x:=.int x) (y:=.int w) (v_bin (x:=pk bs) (y:=.int ((st + k:Nat):Int)) rfl (v_bin rfl rfl ?_) (D5 ?_)) hw (Uv _ _ (by omega) (by omega))
 ·show some (D.int ((st:Int) + (k:Int)))=_
  rw [Int.natCast_add]
 ·rw [List.getElem?_map,← List.getElem?_drop,hx]
  rfl
theorem ah1 (hB:zr bs) {sz:Int} (hs:sz=1∨sz=2∨sz=4):∃ d,(d=.non∨Num d)∧(∀ μ,yy [pk bs,.int sz,.int st] μ=.ok d μ)∧∀ μ,zo [pk bs,.int st,.int sz] μ=.ok d μ:=by
 have t1:∀ μ,j5 (mBin gLt (mVar 2) (mC (.int 0))) [some (pk bs),some (.int sz),some (.int st),none,none] μ=.ok false μ:=fun μ=>by
  refine jm (v_bin rfl rfl ?_)
  rw [deref_int,deref_int,cu,decide_eq_false (by omega)]
 have hl:(bs.map D.int).length=bs.length:=List.length_map _
 have t2:∀ μ,j5 (mBin gGt (mBin uc (mVar 2) (mVar 1)) (J5 yq (mCons (mVar 0) mNil))) [some (pk bs),some (.int sz),some (.int st),none,none] μ=.ok (decide ((bs.length:Int) < st + sz)) μ:=fun μ=>by
  rw [← hl]
  exact jm (v_bin (x:=.int (st + sz)) (y:=.int (bs.map D.int).length) rfl rfl rfl)
 have t3:∀ μ,j5 (mBin gGt (mBin uc (mVar 1) (mVar 2)) (J5 yq (mCons (mVar 0) mNil))) [some (pk bs),some (.int st),some (.int sz)] μ=.ok (decide ((bs.length:Int) < st + sz)) μ:=fun μ=>by
  rw [← hl]
  exact jm (v_bin (x:=.int (st + sz)) (y:=.int (bs.map D.int).length) rfl rfl rfl)
 by_cases h:(bs.length:Int) < st + sz
 ·rw [decide_eq_true h] at t2 t3
  exact ⟨.non,.inl rfl,fun μ=>Jy 2 (v_take ((a61 (t1 μ)).trans (t2 μ)) rfl),fun μ=>Jy 0 (v_take (t3 μ) rfl)⟩
 ·rw [decide_eq_false h] at t2 t3
  obtain ⟨z,rfl,hz⟩:∃ z:Nat,sz=z∧z≤4:=⟨sz.toNat,by omega,by omega⟩
  have hc:=aj2 (bs:=bs) (i:=st) (z:=z) (by omega)
  have hm:∀ i∈(bs.drop st).take z,0≤i∧i < 256:=fun i hi=>hB.1 i (List.mem_of_mem_drop (List.mem_of_mem_take hi))
  have hlen:((bs.drop st).take z).length≤4:=Nat.le_trans (List.length_take_le _ _) hz
  refine ⟨.int (((bs.drop st).take z).foldl mk8 0),.inr ?_,fun μ=>?_,fun μ=>?_⟩
  ·obtain ⟨y4,e,h2,h3⟩:=Qy (a:=none) (b:=none) (c:=none) (μ:=[]) ((bs.drop st).take z) 0 0 none hm (by decide) (by decide) (by omega)
   refine ⟨_,rfl,h2,?_⟩
   have:(256:Int) ^ (0 + ((bs.drop st).take z).length)≤256 ^ 4:=by
    generalize ((bs.drop st).take z).length=k at hlen
    have hk4:k=0∨k=1∨k=2∨k=3∨k=4:=by omega
    rcases hk4 with rfl | rfl | rfl | rfl | rfl <;> decide
   have h4:(256:Int) ^ 4=4294967296:=by decide
   omega
  ·obtain ⟨y4,e,h2,h3⟩:=Qy (a:=some (pk bs)) (b:=some (.int z)) (c:=some (.int st)) (μ:=μ) ((bs.drop st).take z) 0 0 none hm (by decide) (by decide) (by omega)
   rw [← hc] at e
   refine Jy 2 ((v_skip ((a61 (t1 μ)).trans (t2 μ))).trans ((v_set 3 (d:=.int 0) rfl).trans ((v_seqN ((v_for (a96 (v_sl (j:=((st + z:Nat):Int)) rfl rfl (v_bin rfl rfl ?_)))).trans e)).trans (v_ret rfl))))
   show some (D.int ((st:Int) + (z:Int)))=_
   rw [Int.natCast_add]
  ·have hb:∀ (k:Nat) (x:Int),(bs.drop st)[k]? =some x→0≤x∧x < 256:=fun k x e=>hB.1 x (List.mem_of_mem_drop (List.mem_of_getElem? e))
   have hd:z≤(bs.drop st).length:=by rw [List.length_drop];omega
   have fin:∀ L:List Int,u8 (gN 0) mTT bEl (U3 z) [none,some (pk bs),some (.int st),some (.int z)] μ []=.ok (L.map .int) μ→Qu (L.map .int)=some L→L.sum=((bs.drop st).take z).foldl mk8 0→zo [pk bs,.int st,.int z] μ=.ok (.int (((bs.drop st).take z).foldl mk8 0)) μ:=fun L e1 e2 e3=>by
    refine Jy 0 ((v_skip (t3 μ)).trans (v_ret (Ue (v_cons (d:=.lst (L.map .int)) ?_ v_nil) ?_)))
    ·unfold vn
     rw [show uf (mVar 2) [some (pk bs),some (.int st),some (.int z)] μ=.ok (U3 z) μ by
      unfold uf
      rw [v_var 2 rfl,bind_ok,x0 _ (by omega)]
      rfl,bind_ok,if_pos (by unfold U3;rw [List.length_map,List.length_range];omega)]
     show (u8 (gN 0) mTT bEl _ [none,some (pk bs),some (.int st),some (.int z)] μ []).bind _=_
     rw [e1]
     rfl
    ·show (Qu (L.map .int)).map _=_
     rw [e2,← e3]
     rfl
   have hz':z=1∨z=2∨z=4:=by omega
   rcases hz' with rfl | rfl | rfl
   ·obtain ⟨a,r,er⟩:∃ a r,bs.drop st=a::r:=by
     cases e:bs.drop st with
     | nil=>rw [e] at hd;simp at hd
     | cons a r=>exact ⟨a,r,rfl⟩
    have h0:(bs.drop st)[0]? =some a:=by rw [er];rfl
    refine fin [a * 1] ((Yk rfl (Fm 0 h0 (hb 0 a h0) rfl)).trans rfl) rfl ?_
    rw [er]
    show a * 1 + 0=0 * 256 + a
    omega
   ·obtain ⟨a,b,r,er⟩:∃ a b r,bs.drop st=a::b::r:=by
     match e:bs.drop st,hd with
     | [],hd=>simp at hd
     | [_],hd=>simp at hd
     | a::b::r,_=>exact ⟨a,b,r,rfl⟩
    have h0:(bs.drop st)[0]? =some a:=by rw [er];rfl
    have h1:(bs.drop st)[1]? =some b:=by rw [er];rfl
    refine fin [a * 256,b * 1] ((Yk rfl (Fm 0 h0 (hb 0 a h0) rfl)).trans ((Yk rfl (Fm 1 h1 (hb 1 b h1) rfl)).trans rfl)) rfl ?_
    rw [er]
    show a * 256 + (b * 1 + 0)=(0 * 256 + a) * 256 + b
    omega
   ·obtain ⟨a,b,c,d,r,er⟩:∃ a b c d r,bs.drop st=a::b::c::d::r:=by
     match e:bs.drop st,hd with
     | [],hd=>simp at hd
     | [_],hd=>simp at hd
     | [_,_],hd=>simp at hd
     | [_,_,_],hd=>simp at hd
     | a::b::c::d::r,_=>exact ⟨a,b,c,d,r,rfl⟩
    have h0:(bs.drop st)[0]? =some a:=by rw [er];rfl
    have h1:(bs.drop st)[1]? =some b:=by rw [er];rfl
    have h2:(bs.drop st)[2]? =some c:=by rw [er];rfl
    have h3:(bs.drop st)[3]? =some d:=by rw [er];rfl
    refine fin [a * 16777216,b * 65536,c * 256,d * 1] ((Yk rfl (Fm 0 h0 (hb 0 a h0) rfl)).trans ((Yk rfl (Fm 1 h1 (hb 1 b h1) rfl)).trans ((Yk rfl (Fm 2 h2 (hb 2 c h2) rfl)).trans ((Yk rfl (Fm 3 h3 (hb 3 d h3) rfl)).trans rfl)))) rfl ?_
    rw [er]
    show a * 16777216 + (b * 65536 + (c * 256 + (d * 1 + 0)))=(((0 * 256 + a) * 256 + b) * 256 + c) * 256 + d
    omega
end
end K21
set_option Elab.async false
set_option linter.all false
set_option maxRecDepth 100000
set_option maxHeartbeats 400000
namespace K21
open PySem PySem.Spec PyProof.Rows L2 M
inductive N | num (k:Int) | len | load (s:Int) (a:N) | op (x:List Nat) (a b:N)
inductive B | tru (b:Bool) | nt (a:B) | both (a b:B) | eith (a b:B) | cmp (x:List Nat) (a b:N)
noncomputable def N.d:N→D
 | .num k=>.tup [.str J1,.int k]
 | .len=>.tup [.str Ug]
 | .load s a=>.tup [.str Uw,.int s,a.d]
 | .op x a b=>.tup [.str x,a.d,b.d]
noncomputable def B.d:B→D
 | .tru b=>.tup [.str u6,.bl b]
 | .nt a=>.tup [.str w_not,a.d]
 | .both a b=>.tup [.str Yl,a.d,b.d]
 | .eith a b=>.tup [.str Ur,a.d,b.d]
 | .cmp x a b=>.tup [.str x,a.d,b.d]
noncomputable def cpL:List (List Nat):=[ue,Jj,Jf,ji,ud,J2]
theorem Qr {P:List Nat→Prop} (h:P ue∧P Jj∧P Jf∧P ji∧P ud∧P J2):∀ x∈cpL,P x:=by
 intro x hx
 simp only [cpL,List.mem_cons,List.not_mem_nil,or_false] at hx
 obtain ⟨h1,h2,h3,h4,h5,h6⟩:=h
 rcases hx with rfl | rfl | rfl | rfl | rfl | rfl <;> assumption
noncomputable def N.ok:N→Prop
 | .num k=>0≤k∧k < 4294967296
 | .len=>True
 | .load s a=>(s=1∨s=2∨s=4)∧a.ok
 | .op x a b=>x∈opL∧a.ok∧b.ok
noncomputable def B.ok:B→Prop
 | .tru _=>True
 | .nt a=>a.ok
 | .both a b=>a.ok∧b.ok
 | .eith a b=>a.ok∧b.ok
 | .cmp x a b=>x∈cpL∧a.ok∧b.ok
noncomputable def N.dp:N→Nat
 | .num _=>1
 | .len=>1
 | .load _ a=>a.dp + 1
 | .op _ a b=>max a.dp b.dp + 1
noncomputable def val (r:Res D):D:=match r with
 | .ok d _=>d
 | _=>.non
noncomputable def rk (x:List Nat) (i j:Int):D:=val (js [.str x,.int i,.int j] [])
noncomputable def ld (bs:List Int) (s i:Int):D:=val (zo [pk bs,.int i,.int s] [])
noncomputable def cp (x:List Nat) (i j:Int):D:=.bl (if x=ue then i == j else if x=Jj then !(i == j) else if x=Jf then decide (i < j) else if x=ji then decide (i > j) else if x=ud then decide (i≤j) else decide (i ≥ j))
noncomputable def bi (f:Int→Int→D):D→D→D
 | .int i,.int j=>f i j
 | _,_=>.non
noncomputable def un (f:Int→D):D→D
 | .int i=>f i
 | _=>.non
noncomputable def N.ev (bs:List Int):N→D
 | .num k=>.int k
 | .len=>.int bs.length
 | .load s a=>un (ld bs s) (a.ev bs)
 | .op x a b=>bi (rk x) (a.ev bs) (b.ev bs)
noncomputable def notD:D→D
 | .bl b=>.bl (!b)
 | _=>.non
noncomputable def a76 (e:Bool) (a b:D):D:=match a with
 | .bl k=>if k=e then .bl k else b
 | _=>.non
noncomputable def B.ev (bs:List Int):B→D
 | .tru b=>.bl b
 | .nt a=>notD (a.ev bs)
 | .both a b=>a76 false (a.ev bs) (b.ev bs)
 | .eith a b=>a76 true (a.ev bs) (b.ev bs)
 | .cmp x a b=>bi (cp x) (a.ev bs) (b.ev bs)
theorem eh {x:List Nat} {i j:Int} (hx:x∈opL) (ha:0≤i) (ha2:i < 4294967296) (hb:0≤j) (hb2:j < 4294967296):(rk x i j=.non∨Num (rk x i j))∧(∀ μ,jx [.str x,.int i,.int j] μ=.ok (rk x i j) μ)∧∀ μ,js [.str x,.int i,.int j] μ=.ok (rk x i j) μ:=by
 obtain ⟨d,h1,h2,h3⟩:=am7 hx ha ha2 hb hb2
 have:rk x i j=d:=by unfold rk;rw [h3];rfl
 rw [this]
 exact ⟨h1,h2,h3⟩
theorem ld_eq {bs:List Int} (hB:zr bs) {s i:Int} (hs:s=1∨s=2∨s=4) (hi:0≤i):(ld bs s i=.non∨Num (ld bs s i))∧(∀ μ,yy [pk bs,.int s,.int i] μ=.ok (ld bs s i) μ)∧∀ μ,zo [pk bs,.int i,.int s] μ=.ok (ld bs s i) μ:=by
 obtain ⟨n,rfl⟩:=Int.eq_ofNat_of_zero_le hi
 obtain ⟨d,h1,h2,h3⟩:=ah1 (st:=n) hB hs
 have:ld bs s n=d:=by unfold ld;rw [h3];rfl
 rw [this]
 exact ⟨h1,h2,h3⟩
theorem ar6 {x:List Nat} (hx:x∈cpL) (i j:Int):∃ b,cp x i j=.bl b∧True:=⟨_,rfl,trivial⟩
theorem N.num_ev {bs:List Int} (hB:zr bs):∀ a:N,a.ok→a.ev bs=.non∨Num (a.ev bs)
 | .num k,h=>.inr ⟨k,rfl,h.1,h.2⟩
 | .len,_=>.inr ⟨_,rfl,by omega,by have:=hB.2;omega⟩
 | .load s a,h=>by
  rcases N.num_ev hB a h.2 with e | ⟨i,e,h1,h2⟩
  ·exact .inl (by simp only [N.ev];rw [e];rfl)
  ·simp only [N.ev];rw [e];exact (ld_eq hB h.1 h1).1
 | .op x a b,h=>by
  rcases N.num_ev hB a h.2.1 with e | ⟨i,e,h1,h2⟩
  ·exact .inl (by simp only [N.ev];rw [e];rfl)
  ·rcases N.num_ev hB b h.2.2 with e' | ⟨j,e',h1',h2'⟩
   ·exact .inl (by simp only [N.ev];rw [e,e'];rfl)
   ·simp only [N.ev];rw [e,e'];exact (eh h.1 h1 h2 h1' h2').1
theorem B.bl_ev {bs:List Int} (hB:zr bs):∀ a:B,a.ok→a.ev bs=.non∨∃ b,a.ev bs=.bl b
 | .tru b,_=>.inr ⟨b,rfl⟩
 | .nt a,h=>by
  rcases B.bl_ev hB a h with e | ⟨b,e⟩
  ·exact .inl (by simp only [B.ev];rw [e];rfl)
  ·exact .inr ⟨_,by simp only [B.ev];rw [e];rfl⟩
 | .both a b,h=>by
  rcases B.bl_ev hB a h.1 with e | ⟨k,e⟩
  ·exact .inl (by simp only [B.ev];rw [e];rfl)
  ·simp only [B.ev];rw [e]
   cases k
   ·exact .inr ⟨false,rfl⟩
   ·exact B.bl_ev hB b h.2
 | .eith a b,h=>by
  rcases B.bl_ev hB a h.1 with e | ⟨k,e⟩
  ·exact .inl (by simp only [B.ev];rw [e];rfl)
  ·simp only [B.ev];rw [e]
   cases k
   ·exact B.bl_ev hB b h.2
   ·exact .inr ⟨true,rfl⟩
 | .cmp x a b,h=>by
  rcases N.num_ev hB a h.2.1 with e | ⟨i,e,h1,h2⟩
  ·exact .inl (by simp only [B.ev];rw [e];rfl)
  ·rcases N.num_ev hB b h.2.2 with e' | ⟨j,e',h1',h2'⟩
   ·exact .inl (by simp only [B.ev];rw [e,e'];rfl)
   ·obtain ⟨k,ek,_⟩:=ar6 h.1 i j
    exact .inr ⟨k,by simp only [B.ev];rw [e,e'];exact ek⟩
theorem U2 (y:D) (r:List D):gIdx (.tup (y::r)) (.int 0)=some y:=by
 show atI (y::r) 0=_
 rw [X9 (by decide)]
 rfl
theorem Au (k:Nat):y8 (k + 1) 0=fnOf 3 (Kx (y8 k)):=rfl
theorem opN:∀ x∈opL,gEq (.str x) (.str J1)=some (.bl false)∧gEq (.str x) (.str Ug)=some (.bl false)∧gEq (.str x) (.str Uw)=some (.bl false):=Vr ⟨⟨rfl,rfl,rfl⟩,⟨rfl,rfl,rfl⟩,⟨rfl,rfl,rfl⟩,⟨rfl,rfl,rfl⟩,⟨rfl,rfl,rfl⟩,⟨rfl,rfl,rfl⟩,⟨rfl,rfl,rfl⟩,⟨rfl,rfl,rfl⟩,⟨rfl,rfl,rfl⟩,⟨rfl,rfl,rfl⟩⟩
theorem Yn {bs:List Int} (hB:zr bs):∀ (a:N) (k:Nat),a.ok→a.dp≤k→∀ μ,y8 k 0 [a.d,pk bs] μ=.ok (a.ev bs) μ
 | a,0,h,hk,μ=>absurd hk (by cases a <;> simp [N.dp])
 | .num i,k + 1,h,hk,μ=>by rw [Au];exact Jy 3 (v_take rfl rfl)
 | .len,k + 1,h,hk,μ=>by
  rw [Au]
  have:(bs.map D.int).length=bs.length:=List.length_map _
  simp only [N.ev]
  rw [← this]
  exact Jy 3 ((v_skip rfl).trans (v_take rfl rfl))
 | .load s a,k + 1,h,hk,μ=>by
  rw [Au]
  have ih:=Yn hB a k h.2 (by simp only [N.dp] at hk;omega) μ
  simp only [N.ev]
  rcases N.num_ev hB a h.2 with e | ⟨i,e,h1,h2⟩
  ·rw [e] at ih ⊢
   exact Jy 3 ((v_skip rfl).trans ((v_skip rfl).trans (Xu ((v_iteT rfl).trans ((v_set 2 (v_call rfl ih)).trans (v_ret ((v_ifT rfl).trans rfl)))))))
  ·rw [e] at ih ⊢
   exact Jy 3 ((v_skip rfl).trans ((v_skip rfl).trans (Xu ((v_iteT rfl).trans ((v_set 2 (v_call rfl ih)).trans (v_ret ((v_ifF rfl).trans (v_call rfl ((ld_eq hB h.1 h1).2.2 μ)))))))))
 | .op x a b,k + 1,h,hk,μ=>by
  rw [Au]
  have hk':max a.dp b.dp + 1≤k + 1:=hk
  have ih:=Yn hB a k h.2.1 (by omega) μ
  have ih':=Yn hB b k h.2.2 (by omega) μ
  obtain ⟨o1,o2,o3⟩:=opN x h.1
  simp only [N.ev]
  rcases N.num_ev hB a h.2.1 with e | ⟨i,e,h1,h2⟩
  ·rw [e] at ih ⊢
   exact Jy 3 ((v_skip (jm (v_bin (x:=.str x) (v_bin (x:=.tup [.str x,a.d,b.d]) rfl rfl (U2 _ _)) rfl o1))).trans ((v_skip (jm (v_bin (x:=.str x) (v_bin (x:=.tup [.str x,a.d,b.d]) rfl rfl (U2 _ _)) rfl o2))).trans ((v_skip (jm (v_bin (x:=.str x) (v_bin (x:=.tup [.str x,a.d,b.d]) rfl rfl (U2 _ _)) rfl o3))).trans ((v_set 3 (v_call rfl ih)).trans ((v_set 4 ((v_ifT rfl).trans rfl)).trans (v_ret ((v_ifT rfl).trans rfl)))))))
  ·rw [e] at ih ⊢
   rcases N.num_ev hB b h.2.2 with e' | ⟨j,e',h1',h2'⟩
   ·rw [e'] at ih' ⊢
    exact Jy 3 ((v_skip (jm (v_bin (x:=.str x) (v_bin (x:=.tup [.str x,a.d,b.d]) rfl rfl (U2 _ _)) rfl o1))).trans ((v_skip (jm (v_bin (x:=.str x) (v_bin (x:=.tup [.str x,a.d,b.d]) rfl rfl (U2 _ _)) rfl o2))).trans ((v_skip (jm (v_bin (x:=.str x) (v_bin (x:=.tup [.str x,a.d,b.d]) rfl rfl (U2 _ _)) rfl o3))).trans ((v_set 3 (v_call rfl ih)).trans ((v_set 4 ((v_ifF rfl).trans (v_call rfl ih'))).trans (v_ret ((v_ifT rfl).trans rfl)))))))
   ·rw [e'] at ih' ⊢
    exact Jy 3 ((v_skip (jm (v_bin (x:=.str x) (v_bin (x:=.tup [.str x,a.d,b.d]) rfl rfl (U2 _ _)) rfl o1))).trans ((v_skip (jm (v_bin (x:=.str x) (v_bin (x:=.tup [.str x,a.d,b.d]) rfl rfl (U2 _ _)) rfl o2))).trans ((v_skip (jm (v_bin (x:=.str x) (v_bin (x:=.tup [.str x,a.d,b.d]) rfl rfl (U2 _ _)) rfl o3))).trans ((v_set 3 (v_call rfl ih)).trans ((v_set 4 ((v_ifF rfl).trans (v_call rfl ih'))).trans (v_ret ((v_ifF rfl).trans (v_call (v_cons (v_bin (x:=.tup [.str x,a.d,b.d]) rfl rfl (U2 _ _)) (v_cons rfl (v_cons rfl v_nil))) ((eh h.1 h1 h2 h1' h2').2.2 μ)))))))))
end K21
set_option Elab.async false
set_option linter.all false
set_option maxRecDepth 100000
set_option maxHeartbeats 400000
namespace K21
open PySem PySem.Spec PyProof.Rows L2 M
noncomputable def sv:D→Int
 | .bl true=>1
 | .bl false=>0
 | _=> -1
theorem E1 {ν:Mu} {ks:List DK} {ds:List D} {ρ:En} {i v:D} {q:DK} (hi:wu i=some q) (hk:ks.length < 16777216) (hq:(ks.any fun k=>decide (k=q))=false):ft ρ (.ref ν.length) i v (ν++[.dic ks ds])=.ok (.nx ρ) (ν++[.dic (ks++[q]) (ds++[v])]):=by
 have e1:(ν++[Cell.dic ks ds])[ν.length]? =some (.dic ks ds):=by
  rw [List.getElem?_append_right (Nat.le_refl _),Nat.sub_self]
  rfl
 unfold ft
 dsimp only
 rw [e1,hi]
 dsimp only
 rw [if_pos hk,hq,if_neg (by decide),List.set_append_right _ _ (Nat.le_refl _),Nat.sub_self]
 rfl
theorem aj1 {ν:Mu} {ks:List DK} {ds:List D}:j9 (ν++[.dic ks ds]) (.ref ν.length)=.dic ks ds:=by
 unfold j9
 dsimp only
 rw [List.getElem?_append_right (Nat.le_refl _),Nat.sub_self]
 rfl
theorem f6 {mo mi mv:MX} {ρ:En} {μ:Mu} {c i v:D} (hv:mv ρ μ=.ok v μ) (ho:mo ρ μ=.ok c μ) (hi:mi ρ μ=.ok i μ):Da mo mi mv ρ μ=ft ρ c i v μ:=by
 unfold Da
 rw [hv,bind_ok,ho,bind_ok,hi,bind_ok]
theorem v_dicC {ks:List DK} {ms:MAs} {ρ:En} {μ μ1:Mu} {ds:List D} (h:ms ρ μ=.ok ds μ1):El ks ms ρ μ=.ok (.ref μ1.length) (μ1++[.dic ks ds]):=by
 unfold El
 rw [h]
 rfl
theorem cpN:∀ x∈cpL,gEq (.str x) (.str u6)=some (.bl false)∧gIn (.str x) (.tup [.str w_not,.str Yl,.str Ur])=some (.bl false):=Qr ⟨⟨rfl,rfl⟩,⟨rfl,rfl⟩,⟨rfl,rfl⟩,⟨rfl,rfl⟩,⟨rfl,rfl⟩,⟨rfl,rfl⟩⟩
section
variable {bs:List Int}
theorem Ce (hB:zr bs) {x:List Nat} {a b:N} (hx:x∈cpL) (ha:a.ok) (hb:b.ok) (da:a.dp≤20) (db:b.dp≤20) (R:Nat→Fn) (μ:Mu):∃ μ',fnOf 3 (Wr R) [(B.cmp x a b).d,pk bs] μ=.ok (.int (sv ((B.cmp x a b).ev bs))) μ':=by
 obtain ⟨c1,c2⟩:=cpN x hx
 have wa:=Yn hB a 20 ha da μ
 have wb:=Yn hB b 20 hb db μ
 have hd:∀ {r:MSt} {m1 m2:MSt},jz (jd (j5 (mBin gEq (mBin gIdx (mVar 0) (mC (.int 0))) (mC (.str u6)))) m1 jp) (jz (jd (j5 (mBin gIn (mBin gIdx (mVar 0) (mC (.int 0))) (jf (mCons (mC (.str w_not)) (mCons (mC (.str Yl)) (mCons (mC (.str Ur)) mNil)))))) m2 jp) r) [some (.tup [.str x,a.d,b.d]),some (pk bs),none,none,none] μ=r [some (.tup [.str x,a.d,b.d]),some (pk bs),none,none,none] μ:=fun {r m1 m2} =>
  (v_skip (jm (v_bin (x:=.str x) (v_bin (x:=.tup [.str x,a.d,b.d]) rfl rfl (U2 _ _)) rfl c1))).trans (v_skip (jm (v_bin (x:=.str x) (v_bin (x:=.tup [.str x,a.d,b.d]) rfl rfl (U2 _ _)) rfl c2)))
 show ∃ μ',fnOf 3 (Wr R) [.tup [.str x,a.d,b.d],pk bs] μ=.ok (.int (sv (bi (cp x) (a.ev bs) (b.ev bs)))) μ'
 rcases N.num_ev hB a ha with e | ⟨i,e,h1,h2⟩
 ·rw [e] at wa ⊢
  exact ⟨μ,Jy 3 (hd.trans ((v_set 2 (v_call rfl wa)).trans ((v_set 3 ((v_ifT rfl).trans rfl)).trans (v_take rfl rfl))))⟩
 ·rw [e] at wa ⊢
  rcases N.num_ev hB b hb with e' | ⟨j,e',h1',h2'⟩
  ·rw [e'] at wb ⊢
   exact ⟨μ,Jy 3 (hd.trans ((v_set 2 (v_call rfl wa)).trans ((v_set 3 ((v_ifF rfl).trans (v_call rfl wb))).trans (v_take rfl rfl))))⟩
  ·rw [e'] at wb ⊢
   refine ⟨μ++[.dic [.inr ue,.inr Jj,.inr Jf,.inr ji,.inr ud,.inr J2] [.bl (i == j),.bl (!(i == j)),.bl (decide (i < j)),.bl (decide (i > j)),.bl (decide (i≤j)),.bl (decide (i ≥ j))]],?_⟩
   have fin:∀ {k:Bool},jc [.inr ue,.inr Jj,.inr Jf,.inr ji,.inr ud,.inr J2] [.bl (i == j),.bl (!(i == j)),.bl (decide (i < j)),.bl (decide (i > j)),.bl (decide (i≤j)),.bl (decide (i ≥ j))] (.inr x)=some (.bl k)→fnOf 3 (Wr R) [.tup [.str x,a.d,b.d],pk bs] μ=.ok (.int (if k then 1 else 0)) (μ++[.dic [.inr ue,.inr Jj,.inr Jf,.inr ji,.inr ud,.inr J2] [.bl (i == j),.bl (!(i == j)),.bl (decide (i < j)),.bl (decide (i > j)),.bl (decide (i≤j)),.bl (decide (i ≥ j))]]):=fun {k} hk=>by
    refine Jy 3 (hd.trans ((v_set 2 (v_call rfl wa)).trans ((v_set 3 ((v_ifF rfl).trans (v_call rfl wb))).trans ((v_skip rfl).trans ((v_set 4 (v_dicC (ds:=[.bl (i == j),.bl (!(i == j)),.bl (decide (i < j)),.bl (decide (i > j))]) (v_cons (v_bin rfl rfl (Z3 _ _)) (v_cons (v_bin rfl rfl (vf _ _)) (v_cons (v_bin rfl rfl (cu _ _)) (v_cons (v_bin rfl rfl (k9 _ _)) v_nil)))))).trans ((v_seqN ((f6 (v_bin rfl rfl (aw _ _)) rfl rfl).trans (E1 rfl (by decide) (by decide)))).trans ((v_seqN ((f6 (v_bin rfl rfl (Wf _ _)) rfl rfl).trans (E1 rfl (by decide) (by decide)))).trans (v_ret (Ue (d:=.int (if k then 1 else 0)) (v_cons (d:=.bl k) (v_bin (x:=.ref μ.length) (y:=.str x) rfl (v_bin (x:=.tup [.str x,a.d,b.d]) rfl rfl (U2 _ _)) ?_) v_nil) ?_)))))))))
    ·rw [aj1]
     exact hk
    ·cases k <;> rfl
   have ho:∃ k,jc [.inr ue,.inr Jj,.inr Jf,.inr ji,.inr ud,.inr J2] [.bl (i == j),.bl (!(i == j)),.bl (decide (i < j)),.bl (decide (i > j)),.bl (decide (i≤j)),.bl (decide (i ≥ j))] (.inr x)=some (.bl k)∧cp x i j=.bl k:=by
    clear fin hd c1 c2
    revert hx
    revert x
    show ∀ x∈cpL,_
    exact Qr ⟨⟨_,rfl,rfl⟩,⟨_,rfl,rfl⟩,⟨_,rfl,rfl⟩,⟨_,rfl,rfl⟩,⟨_,rfl,rfl⟩,⟨_,rfl,rfl⟩⟩
   obtain ⟨k,hk,ek⟩:=ho
   rw [fin hk]
   show Res.ok (D.int (if k then 1 else 0)) _=.ok (.int (sv (cp x i j))) _
   rw [ek]
   cases k <;> rfl
end
end K21
set_option Elab.async false
set_option linter.all false
set_option maxRecDepth 100000
set_option maxHeartbeats 400000
namespace K21
open PySem PySem.Spec PyProof.Rows L2 M
section
variable {bs:List Int}
end
end K21
set_option Elab.async false
set_option linter.all false
set_option maxRecDepth 100000
set_option maxHeartbeats 400000
namespace K21
open PySem PySem.Spec PyProof.Rows L2 M
noncomputable def pm (μ0:Mu) (W V:List D):Mu:=μ0++[.lst W,.lst V]
section
variable {μ0:Mu} {W V:List D} {ρ:En} {m mo:MX} {d y:D}
theorem an7:(pm μ0 W V)[μ0.length]? =some (.lst W):=by
 unfold pm
 rw [List.getElem?_append_right (Nat.le_refl _),Nat.sub_self]
 rfl
theorem Af:(pm μ0 W V)[μ0.length + 1]? =some (.lst V):=by
 unfold pm
 rw [List.getElem?_append_right (by omega),show μ0.length + 1 - μ0.length=1 by omega]
 rfl
theorem ai8:j9 (pm μ0 W V) (.ref μ0.length)=.lst W:=by
 unfold j9
 dsimp only
 rw [an7]
theorem dr_v:j9 (pm μ0 W V) (.ref (μ0.length + 1))=.lst V:=by
 unfold j9
 dsimp only
 rw [Af]
theorem am5 (L:List D):(pm μ0 W V).set μ0.length (.lst L)=pm μ0 L V:=by
 unfold pm
 rw [List.set_append_right _ _ (Nat.le_refl _),Nat.sub_self]
 rfl
theorem Cg (L:List D):(pm μ0 W V).set (μ0.length + 1) (.lst L)=pm μ0 W L:=by
 unfold pm
 rw [List.set_append_right _ _ (by omega),show μ0.length + 1 - μ0.length=1 by omega]
 rfl
theorem pop_v (h:mo ρ (pm μ0 W (V++[y]))=.ok (.ref (μ0.length + 1)) (pm μ0 W (V++[y]))):a28 mo ρ (pm μ0 W (V++[y]))=.ok y (pm μ0 W V):=by
 unfold a28
 rw [h,bind_ok]
 unfold ac8
 dsimp only
 rw [Af]
 dsimp only
 rw [List.length_append,List.length_singleton,Nat.add_sub_cancel,List.getElem?_append_right (Nat.le_refl _),Nat.sub_self]
 show Res.ok y ((pm μ0 W (V++[y])).set (μ0.length + 1) (.lst (V++[y]).dropLast))=_
 rw [Cg,List.dropLast_concat]
theorem app_v {V':List D} (h:mo ρ (pm μ0 W V)=.ok (.ref (μ0.length + 1)) (pm μ0 W V)) (hm:m ρ (pm μ0 W V)=.ok y (pm μ0 W V')) (hl:V'.length < 16777216):u2 (Us mo m) ρ (pm μ0 W V)=.ok (.nx ρ) (pm μ0 W (V'++[y])):=by
 unfold u2 Us
 rw [h,bind_ok,dr_v,if_pos (show Qd (D.lst _)=true from rfl),hm,bind_ok]
 unfold aa
 dsimp only
 rw [Af]
 dsimp only
 rw [if_pos hl,Cg]
 rfl
theorem app_w (h:mo ρ (pm μ0 W V)=.ok (.ref μ0.length) (pm μ0 W V)) (hm:m ρ (pm μ0 W V)=.ok y (pm μ0 W V)) (hl:W.length < 16777216):u2 (Us mo m) ρ (pm μ0 W V)=.ok (.nx ρ) (pm μ0 (W++[y]) V):=by
 unfold u2 Us
 rw [h,bind_ok,ai8,if_pos (show Qd (D.lst _)=true from rfl),hm,bind_ok]
 unfold aa
 dsimp only
 rw [an7]
 dsimp only
 rw [if_pos hl,am5]
 rfl
theorem ext_v {L:List D} (h:mo ρ (pm μ0 W V)=.ok (.ref (μ0.length + 1)) (pm μ0 W V)) (hm:m ρ (pm μ0 W V)=.ok (.lst L) (pm μ0 W V)) (hl:V.length + L.length≤16777216):u2 (yn mo m) ρ (pm μ0 W V)=.ok (.nx ρ) (pm μ0 W (V++L)):=by
 unfold u2 yn
 rw [h,bind_ok,dr_v,if_pos (show Qd (D.lst _)=true from rfl),hm,bind_ok]
 unfold a44
 dsimp only
 rw [Af]
 show Res.bind (if V.length + L.length≤16777216 then _ else _) _=_
 rw [if_pos hl,Cg]
 rfl
theorem len_w {ρ:En} {x:Nat} (h:ρ[x]? =some (some (.ref μ0.length))):J5 yq (mCons (mVar x) mNil) ρ (pm μ0 W V)=.ok (.int W.length) (pm μ0 W V):=by
 refine Ue (v_cons (v_var x h) v_nil) ?_
 show yq [j9 (pm μ0 W V) (.ref μ0.length)]=_
 rw [ai8]
 rfl
theorem Bg {ρ:En} {x:Nat} (h:ρ[x]? =some (some (.ref (μ0.length + 1)))):J5 yq (mCons (mVar x) mNil) ρ (pm μ0 W V)=.ok (.int V.length) (pm μ0 W V):=by
 refine Ue (v_cons (v_var x h) v_nil) ?_
 show yq [j9 (pm μ0 W V) (.ref (μ0.length + 1))]=_
 rw [dr_v]
 rfl
end
end K21
set_option Elab.async false
set_option linter.all false
set_option maxRecDepth 100000
set_option maxHeartbeats 400000
namespace K21
open PySem PySem.Spec PyProof.Rows L2 M
noncomputable abbrev Ay (k:Int):D:=.tup [.str Fh,.int k]
noncomputable abbrev Ax:D:=.tup [.str Ug]
noncomputable abbrev uz:D:=.tup [.str w_tax]
noncomputable abbrev Yi (z:Int):D:=.tup [.str Uw,.int z,.str w_x,.int 0]
noncomputable abbrev Ji (s:Nat):D:=.tup [.str w_keep,.int s]
noncomputable abbrev J9 (s:Nat):D:=.tup [.str V6,.int s]
noncomputable abbrev zk (x:List Nat):D:=.tup [.str Ff,.str x]
noncomputable abbrev ei (n:Nat):D:=.tup [.str Y8,.int n]
noncomputable abbrev ab4 (t:List Nat) (y n:Nat):D:=.tup [.str ze,.str t,.int y,.int n]
noncomputable abbrev b6 (k:Int):D:=.tup [.str yk,.int k]
noncomputable def row (x:List Nat):List Nat×Bool:=if x=ue then (uw,true) else if x=Jj then (uw,false) else if x=ji then (ji,true) else if x=ud then (ji,false) else if x=J2 then (J2,true) else (J2,false)
noncomputable def Vx (x:List Nat) (y n:Nat):D:=if (row x).2 then ab4 (row x).1 y n else ab4 (row x).1 n y
noncomputable abbrev Cd:=List (D×Nat)
noncomputable def cN:N→Nat→Cd
 | .num k,s=>[(Ay k,s)]
 | .len,s=>[(Ax,s)]
 | .load z a,s=>cN a s++[(uz,s),(Yi z,s)]
 | .op x a b,s=>cN a s++(Ji s,s)::(cN b (s + 1)++[(uz,s + 1),(J9 s,s + 1),(zk x,s)])
noncomputable def cT:B→Nat→Nat→Cd→Cd
 | .tru b,y,n,C=>(ei (C.length - (if b then y else n)),0)::C
 | .nt a,y,n,C=>cT a n y C
 | .both a b,y,n,C=>cT a (cT b y n C).length n (cT b y n C)
 | .eith a b,y,n,C=>cT a y (cT b y n C).length (cT b y n C)
 | .cmp x a b,y,n,C=>cN a 0++(Ji 0,0)::(cN b 1++(uz,1)::(J9 0,1)::(Vx x (C.length - y) (C.length - n),0)::C)
noncomputable def N.need:N→Nat
 | .num _=>0
 | .len=>0
 | .load _ a=>a.need
 | .op _ a b=>max a.need (1 + b.need)
noncomputable def B.fits:B→Prop
 | .tru _=>True
 | .nt a=>a.fits
 | .both a b=>a.fits∧b.fits
 | .eith a b=>a.fits∧b.fits
 | .cmp _ a b=>a.need≤8∧b.need≤7
noncomputable def N.co:N→Nat
 | .num _=>2
 | .len=>2
 | .load _ a=>a.co + 3
 | .op _ a b=>a.co + b.co + 5
noncomputable def B.co:B→Nat
 | .tru _=>1
 | .nt a=>a.co + 1
 | .both a b=>a.co + b.co + 2
 | .eith a b=>a.co + b.co + 2
 | .cmp _ a b=>a.co + b.co + 4
noncomputable def md (C:Cd):List D:=(C.map Prod.fst).reverse
theorem Vi (d:D) (k:Nat) (C:Cd):md ((d,k)::C)=md C++[d]:=by unfold md;rw [List.map_cons,List.reverse_cons]
theorem md_len (C:Cd):(md C).length=C.length:=by unfold md;rw [List.length_reverse,List.length_map]
noncomputable abbrev kS (d:D):D:=.tup [.str y1,d]
noncomputable abbrev kN (a:D) (s:Nat):D:=.tup [.str J1,a,.int s]
noncomputable abbrev kT (b:D) (y n:Nat):D:=.tup [.str u6,b,.int y,.int n]
noncomputable abbrev kF (b:D) (y n:Nat):D:=.tup [.str V5,b,.int y,.int n]
noncomputable abbrev tC:MB:=j5 (mBin gGt (J5 yq (mCons (mVar 2) mNil)) (mC (.int 0)))
noncomputable abbrev eC (t0:Option D) (μ0:Mu) (x3:Option D):En:=[t0,some (.ref μ0.length),some (.ref (μ0.length + 1)),x3]
noncomputable def CR (t0:Option D) (μ0:Mu) (c:Nat) (C:Cd) (W:List D) (C':Cd) (W':List D):Prop:=∀ k x3,∃ x3',yg tC Jg (k + c) (eC t0 μ0 x3) (pm μ0 (md C) W)=yg tC Jg k (eC t0 μ0 x3') (pm μ0 (md C') W')
section
variable {t0:Option D} {μ0:Mu} {W W' W2:List D} {C C' C2:Cd} {c c1 c2:Nat}
theorem CR.then (a:CR t0 μ0 c1 C W C' W') (b:CR t0 μ0 c2 C' W' C2 W2):CR t0 μ0 (c1 + c2) C W C2 W2:=fun k x3=>by
 obtain ⟨y3,e1⟩:=a (k + c2) x3
 obtain ⟨z3,e2⟩:=b k y3
 exact ⟨z3,by rw [show k + (c1 + c2)=k + c2 + c1 by omega,e1,e2]⟩
theorem D0 {t:D} (h:∀ x3,Jg (eC t0 μ0 x3) (pm μ0 (md C) (W++[t]))=.ok (.nx (eC t0 μ0 (some t))) (pm μ0 (md C') W')):CR t0 μ0 1 C (W++[t]) C' W':=fun k x3=>by
 refine ⟨some t,?_⟩
 have tt:tC (eC t0 μ0 x3) (pm μ0 (md C) (W++[t]))=.ok true (pm μ0 (md C) (W++[t])):=by
  refine jm (v_bin (Bg rfl) rfl ?_)
  rw [deref_int,deref_int,k9,decide_eq_true (by rw [List.length_append,List.length_singleton];omega)]
 rw [yg,tt,bind_ok,if_pos rfl,h]
 rfl
theorem Fp (d:D) (k:Nat) (hl:C.length < 10000):CR t0 μ0 1 C (W++[kS d]) ((d,k)::C) W:=D0 fun x3=>by
 rw [Vi]
 exact (v_set 3 (pop_v rfl)).trans ((v_iteT rfl).trans (app_w rfl rfl (by rw [md_len];omega)))
theorem D1 {a:D} {s:Nat} {L:List D} (e:∀ μ,J6 [a,.int s] μ=.ok (.lst L) μ) (hl:W.length + L.length≤10000):CR t0 μ0 1 C (W++[kN a s]) C (W++L):=D0 fun x3 =>
 (v_set 3 (pop_v rfl)).trans ((v_iteF rfl).trans ((v_iteT rfl).trans (ext_v rfl (v_callX rfl (e _)) (by omega))))
theorem Go {b:D} {y n:Nat} (e:U8 [b,.int y,.int n,.ref μ0.length,.ref (μ0.length + 1)] (pm μ0 (md C) W)=.ok .non (pm μ0 (md C') W')):CR t0 μ0 1 C (W++[kT b y n]) C' W':=D0 fun x3 =>
 (v_set 3 (pop_v rfl)).trans ((v_iteF rfl).trans ((v_iteF rfl).trans ((v_iteT rfl).trans (v_drop (v_callX rfl e)))))
theorem E6 {x:List Nat} {a b:D} {s:Nat} (hs:s < 8) (μ:Mu):Jq [.tup [.str x,a,b],.int s] μ=.ok (.lst [kN a s,kS (Ji s),kN b (s + 1),kS uz,kS (J9 s)]) μ:=by
 refine Jy 0 ((v_skip (jm (v_bin (y:=.int 8) rfl rfl ?_))).trans (v_ret (Cp (v_cons (d:=kN a s) rfl (v_cons (d:=kS (Ji s)) rfl (v_cons (d:=kN b (s + 1)) rfl (v_cons (d:=kS uz) rfl (v_cons (d:=kS (J9 s)) rfl v_nil))))))))
 rw [deref_int,deref_int,Wf,decide_eq_false (by omega)]
theorem opO:∀ x∈opL,gIn (.str x) c_OPS=some (.bl true):=Vr ⟨rfl,rfl,rfl,rfl,rfl,rfl,rfl,rfl,rfl,rfl⟩
theorem Gn {W0:List D} {d:D} {k:Nat} {C0:Cd} (V:List D) (hV:V=W0++[kS d]) (hl:C0.length < 10000):CR t0 μ0 1 C0 V ((d,k)::C0) W0:=hV ▸ Fp d k hl
theorem G0 {z:Int} {a:N} {s:Nat} (hc:C.length≤9000) (hw:W.length≤9000):CR t0 μ0 3 C (W++[kN (N.load z a).d s]) ((uz,s)::(Yi z,s)::C) (W++[kN a.d s]):=by
 have r1:CR t0 μ0 1 C (W++[kN (N.load z a).d s]) C (W++[kN a.d s,kS uz,kS (Yi z)]):=D1 (fun μ=>Jy 0 ((v_skip rfl).trans (v_take rfl rfl))) (by simp;omega)
 have r2:CR t0 μ0 1 C (W++[kN a.d s,kS uz,kS (Yi z)]) ((Yi z,s)::C) (W++[kN a.d s,kS uz]):=Gn _ (by simp) (by omega)
 have r3:CR t0 μ0 1 ((Yi z,s)::C) (W++[kN a.d s,kS uz]) ((uz,s)::(Yi z,s)::C) (W++[kN a.d s]):=Gn _ (by simp) (by simp;omega)
 exact (r1.then r2).then r3
theorem E8 {x:List Nat} {a b:D} {i:D} {μ:Mu} (hx:x∈opL) {m1 m2:MX} {m3 r:MSt}:jz (jd (j5 (mBin gEq (mBin gIdx (mVar 0) (mC (.int 0))) (mC (.str J1)))) (je m1) jp) (jz (jd (j5 (mBin gEq (mBin gIdx (mVar 0) (mC (.int 0))) (mC (.str Uw)))) (je m2) jp) (jz (jd (j5 (mBin gIn (mBin gIdx (mVar 0) (mC (.int 0))) (mC c_OPS))) m3 jp) r)) [some (.tup [.str x,a,b]),some i] μ=jz m3 r [some (.tup [.str x,a,b]),some i] μ:=by
 obtain ⟨o1,o2,o3⟩:=opN x hx
 refine (v_skip (jm (v_bin (x:=.str x) (v_bin (x:=.tup [.str x,a,b]) rfl rfl (U2 _ _)) rfl o1))).trans ((v_skip (jm (v_bin (x:=.str x) (v_bin (x:=.tup [.str x,a,b]) rfl rfl (U2 _ _)) rfl o3))).trans ?_)
 have e:=v_iteT (a:=m3) (b:=jp) (jm (μ:=μ) (v_bin (ρ:=[some (.tup [.str x,a,b]),some i]) (x:=.str x) (v_bin (ma:=mVar 0) (mb:=mC (.int 0)) (x:=.tup [.str x,a,b]) rfl rfl (U2 _ _)) (mb:=mC c_OPS) rfl (opO x hx)))
 unfold jz
 rw [e]
theorem B2 {x:List Nat} {a b:D} {s:Nat} (hx:x∈opL) (hs:s < 8) (μ:Mu):J6 [.tup [.str x,a,b],.int s] μ=.ok (.lst ([kN a s,kS (Ji s),kN b (s + 1),kS uz,kS (J9 s)]++[kS (zk x)])) μ :=
 Jy 0 ((E8 hx).trans (Xu (v_ret (v_bin (x:=.lst [kN a s,kS (Ji s),kN b (s + 1),kS uz,kS (J9 s)]) (y:=.lst [kS (zk x)]) (v_callX rfl (E6 hs μ)) (Cp (v_cons (Wa (v_cons rfl (v_cons (Wa (v_cons rfl (v_cons (v_bin (x:=.tup [.str x,a,b]) rfl rfl (U2 _ _)) v_nil))) v_nil))) v_nil)) rfl))))
theorem B3 {x:List Nat} {a b:N} {s:Nat} (hx:x∈opL) (hs:s < 8) (hc:C.length≤9000) (hw:W.length≤9000):CR t0 μ0 4 C (W++[kN (N.op x a b).d s]) ((uz,s + 1)::(J9 s,s + 1)::(zk x,s)::C) (W++[kN a.d s,kS (Ji s)]++[kN b.d (s + 1)]):=by
 have r1:CR t0 μ0 1 C (W++[kN (N.op x a b).d s]) C (W++([kN a.d s,kS (Ji s),kN b.d (s + 1),kS uz,kS (J9 s)]++[kS (zk x)])):=D1 (fun μ=>B2 hx hs μ) (by simp;omega)
 have r2:CR t0 μ0 1 C (W++([kN a.d s,kS (Ji s),kN b.d (s + 1),kS uz,kS (J9 s)]++[kS (zk x)])) ((zk x,s)::C) (W++[kN a.d s,kS (Ji s),kN b.d (s + 1),kS uz,kS (J9 s)]):=Gn _ (by simp) (by omega)
 have r3:CR t0 μ0 1 ((zk x,s)::C) (W++[kN a.d s,kS (Ji s),kN b.d (s + 1),kS uz,kS (J9 s)]) ((J9 s,s + 1)::(zk x,s)::C) (W++[kN a.d s,kS (Ji s),kN b.d (s + 1),kS uz]):=Gn _ (by simp) (by simp;omega)
 have r4:CR t0 μ0 1 ((J9 s,s + 1)::(zk x,s)::C) (W++[kN a.d s,kS (Ji s),kN b.d (s + 1),kS uz]) ((uz,s + 1)::(J9 s,s + 1)::(zk x,s)::C) (W++[kN a.d s,kS (Ji s)]++[kN b.d (s + 1)]):=Gn _ (by simp) (by simp;omega)
 exact ((r1.then r2).then r3).then r4
theorem xi {a:D} {s:Nat} (hc:C.length≤9000):CR t0 μ0 1 C (W++[kN a s,kS (Ji s)]) ((Ji s,s)::C) (W++[kN a s]):=Gn _ (by simp) (by omega)
theorem Xa:∀ (a:N) (s:Nat) (C:Cd) (W:List D),a.ok→s + a.need≤8→C.length + a.co≤9000→W.length + 2 * a.co≤9000→CR t0 μ0 a.co C (W++[kN a.d s]) (cN a s++C) W∧(cN a s).length≤a.co
 | .num k,s,C,W,h,hs,hc,hw=>⟨(D1 (L:=[kS (Ay k)]) (fun μ=>Jy 0 (v_take rfl rfl)) (by simp only [N.co] at hw;simp;omega)).then (Fp _ s (by simp only [N.co] at hc;omega)),by simp [cN,N.co]⟩
 | .len,s,C,W,h,hs,hc,hw=>⟨(D1 (L:=[kS Ax]) (fun μ=>Jy 0 ((v_skip rfl).trans ((v_skip rfl).trans ((v_skip rfl).trans rfl)))) (by simp only [N.co] at hw;simp;omega)).then (Fp _ s (by simp only [N.co] at hc;omega)),by simp [cN,N.co]⟩
 | .load z a,s,C,W,h,hs,hc,hw=>by
  simp only [N.co] at hc hw
  obtain ⟨ra,la⟩:=Xa a s ((uz,s)::(Yi z,s)::C) W h.2 hs (by simp;omega) (by omega)
  refine ⟨?_,by simp only [cN,N.co,List.length_append,List.length_cons,List.length_nil];omega⟩
  have:=(G0 (z:=z) (by omega) (by omega)).then ra
  simp only [cN,N.co,List.append_assoc,List.cons_append,List.nil_append]
  rw [show a.co + 3=3 + a.co by omega]
  exact this
 | .op x a b,s,C,W,h,hs,hc,hw=>by
  simp only [N.co] at hc hw
  have hn:max a.need (1 + b.need) + s≤8:=by simp only [N.need] at hs;omega
  obtain ⟨rb,lb⟩:=Xa b (s + 1) ((uz,s + 1)::(J9 s,s + 1)::(zk x,s)::C) (W++[kN a.d s,kS (Ji s)]) h.2.2 (by omega) (by simp;omega) (by simp;omega)
  obtain ⟨ra,la⟩:=Xa a s ((Ji s,s)::(cN b (s + 1)++(uz,s + 1)::(J9 s,s + 1)::(zk x,s)::C)) W h.2.1 (by omega) (by simp;omega) (by omega)
  refine ⟨?_,by simp only [cN,N.co,List.length_append,List.length_cons,List.length_nil];omega⟩
  have:=(((B3 h.1 (by omega) (by omega) (by omega)).then rb).then (xi (by simp;omega))).then ra
  simp only [cN,N.co,List.append_assoc,List.cons_append,List.nil_append]
  rw [show a.co + b.co + 5=4 + b.co + 1 + a.co by omega]
  exact this
end
end K21
set_option Elab.async false
set_option linter.all false
set_option maxRecDepth 100000
set_option maxHeartbeats 400000
namespace K21
open PySem PySem.Spec PyProof.Rows L2 M
section
variable {t0:Option D} {μ0:Mu} {W:List D} {C:Cd}
theorem xq {y n:Nat} (h:n≤y):zx (.int y) (.int n)=some (.int ((y - n:Nat):Int)):=by
 show some (D.int ((y:Int) - n))=_
 rw [Int.ofNat_sub h]
theorem aa2 {x:List Nat} (hx:x∈cpL) (y n:Nat) (μ:Mu):Uu [.str x,.int y,.int n] μ=.ok (Vx x y n) μ:=by
 revert hx
 revert x
 show ∀ x∈cpL,_
 exact Qr ⟨Jy 1 ((v_set 3 (d:=.tup [.str uw,.bl true]) rfl).trans (v_take rfl rfl)),Jy 1 ((v_set 3 (d:=.tup [.str uw,.bl false]) rfl).trans ((v_skip rfl).trans rfl)),Jy 1 ((v_set 3 (d:=.tup [.str J2,.bl false]) rfl).trans ((v_skip rfl).trans rfl)),Jy 1 ((v_set 3 (d:=.tup [.str ji,.bl true]) rfl).trans (v_take rfl rfl)),Jy 1 ((v_set 3 (d:=.tup [.str ji,.bl false]) rfl).trans ((v_skip rfl).trans rfl)),Jy 1 ((v_set 3 (d:=.tup [.str J2,.bl true]) rfl).trans (v_take rfl rfl))⟩
theorem cpM:∀ x∈cpL,gEq (.str x) (.str u6)=some (.bl false)∧gEq (.str x) (.str w_not)=some (.bl false)∧gIn (.str x) (.tup [.str Yl,.str Ur])=some (.bl false):=Qr ⟨⟨rfl,rfl,rfl⟩,⟨rfl,rfl,rfl⟩,⟨rfl,rfl,rfl⟩,⟨rfl,rfl,rfl⟩,⟨rfl,rfl,rfl⟩,⟨rfl,rfl,rfl⟩⟩
theorem D2 {b:D} {y n:Nat} {t:D} (e:∀ μ,U7 [b,.int y,.int n,.int C.length] μ=.ok t μ) (hl:W.length < 10000):CR t0 μ0 1 C (W++[kF b y n]) C (W++[t]):=D0 fun x3=>by
 refine (v_set 3 (pop_v rfl)).trans ((v_iteF rfl).trans ((v_iteF rfl).trans ((v_iteF rfl).trans (app_v rfl (v_call (v_cons rfl (v_cons rfl (v_cons rfl (v_cons (len_w rfl) v_nil)))) ?_) (by omega)))))
 rw [md_len]
 exact e _
theorem df {x:List Nat} {a b:N} {y n:Nat} (hx:x∈cpL) (hy:y≤C.length) (hn:n≤C.length) (hc:C.length≤9000) (hw:W.length≤9000):CR t0 μ0 3 C (W++[kT (B.cmp x a b).d y n]) ((uz,1)::(J9 0,1)::(Vx x (C.length - y) (C.length - n),0)::C) (W++[kN a.d 0,kS (Ji 0)]++[kN b.d 1]):=by
 obtain ⟨m1,m2,m3⟩:=cpM x hx
 let T:D×Nat:=(Vx x (C.length - y) (C.length - n),0)
 have r1:CR t0 μ0 1 C (W++[kT (B.cmp x a b).d y n]) (T::C) (W++[kN a.d 0,kS (Ji 0),kN b.d 1,kS uz,kS (J9 0)]):=by
  refine Go ?_
  rw [Vi]
  refine Ys 0 ((v_iteF (jm (v_bin (x:=.str x) (v_bin (x:=.tup [.str x,a.d,b.d]) rfl rfl (U2 _ _)) rfl m1))).trans ((v_iteF (jm (v_bin (x:=.str x) (v_bin (x:=.tup [.str x,a.d,b.d]) rfl rfl (U2 _ _)) rfl m2))).trans ((v_iteF (jm (v_bin (x:=.str x) (v_bin (x:=.tup [.str x,a.d,b.d]) rfl rfl (U2 _ _)) rfl m3))).trans ((v_seqN (app_w rfl (v_call (v_cons (v_bin (x:=.tup [.str x,a.d,b.d]) rfl rfl (U2 _ _)) (v_cons (v_bin (len_w rfl) rfl (by rw [md_len];exact xq hy)) (v_cons (v_bin (len_w rfl) rfl (by rw [md_len];exact xq hn)) v_nil))) (aa2 hx _ _ _)) (by rw [md_len];omega))).trans (ext_v rfl (v_callX rfl (E6 (s:=0) (by decide) _)) (by simp;omega))))))
 have r3:CR t0 μ0 1 (T::C) (W++[kN a.d 0,kS (Ji 0),kN b.d 1,kS uz,kS (J9 0)]) ((J9 0,1)::T::C) (W++[kN a.d 0,kS (Ji 0),kN b.d 1,kS uz]):=Gn _ (by simp) (by simp;omega)
 have r4:CR t0 μ0 1 ((J9 0,1)::T::C) (W++[kN a.d 0,kS (Ji 0),kN b.d 1,kS uz]) ((uz,1)::(J9 0,1)::T::C) (W++[kN a.d 0,kS (Ji 0)]++[kN b.d 1]):=Gn _ (by simp) (by simp;omega)
 exact (r1.then r3).then r4
theorem Xr:∀ (b:B) (y n:Nat) (C:Cd) (W:List D),b.ok→b.fits→y≤C.length→n≤C.length→C.length + b.co≤9000→W.length + 2 * b.co≤9000→CR t0 μ0 b.co C (W++[kT b.d y n]) (cT b y n C) W∧C.length≤(cT b y n C).length∧(cT b y n C).length≤C.length + b.co
 | .tru b,y,n,C,W,h,hf,hy,hn,hc,hw=>by
  refine ⟨Go ?_,by simp [cT],by simp [cT,B.co]⟩
  simp only [cT]
  rw [Vi]
  cases b with
  | true=>exact Ys 0 ((v_iteT rfl).trans (app_w rfl (Wa (v_cons rfl (v_cons (v_bin (len_w rfl) ((v_ifT rfl).trans rfl) (by rw [md_len];exact xq hy)) v_nil))) (by rw [md_len];omega)))
  | false=>exact Ys 0 ((v_iteT rfl).trans (app_w rfl (Wa (v_cons rfl (v_cons (v_bin (len_w rfl) ((v_ifF rfl).trans rfl) (by rw [md_len];exact xq hn)) v_nil))) (by rw [md_len];omega)))
 | .nt a,y,n,C,W,h,hf,hy,hn,hc,hw=>by
  simp only [B.co] at hc hw ⊢
  obtain ⟨ra,l1,l2⟩:=Xr a n y C W h hf hn hy (by omega) (by omega)
  have r1:CR t0 μ0 1 C (W++[kT (B.nt a).d y n]) C (W++[kT a.d n y]):=Go (Ys 0 ((v_iteF rfl).trans ((v_iteT rfl).trans (app_v rfl rfl (by omega)))))
  refine ⟨?_,l1,by simp only [cT];omega⟩
  rw [Nat.add_comm]
  exact r1.then ra
 | .both a b,y,n,C,W,h,hf,hy,hn,hc,hw=>by
  simp only [B.co] at hc hw ⊢
  obtain ⟨rb,l1,l2⟩:=Xr b y n C (W++[kF (B.both a b).d y n]) h.2 hf.2 hy hn (by omega) (by simp;omega)
  obtain ⟨ra,l3,l4⟩:=Xr a (cT b y n C).length n (cT b y n C) W h.1 hf.1 (Nat.le_refl _) (by omega) (by omega) (by omega)
  have r1:CR t0 μ0 1 C (W++[kT (B.both a b).d y n]) C (W++[kF (B.both a b).d y n]++[kT b.d y n]):=by
   rw [List.append_assoc]
   exact Go (Ys 0 ((v_iteF rfl).trans ((v_iteF rfl).trans ((v_iteT rfl).trans (ext_v rfl rfl (by simp;omega))))))
  have r3:CR t0 μ0 1 (cT b y n C) (W++[kF (B.both a b).d y n]) (cT b y n C) (W++[kT a.d (cT b y n C).length n]):=D2 (fun μ=>Jy 0 (v_take rfl rfl)) (by omega)
  refine ⟨?_,by simp only [cT];omega,by simp only [cT];omega⟩
  have:=((r1.then rb).then r3).then ra
  rw [show a.co + b.co + 2=1 + b.co + 1 + a.co by omega]
  exact this
 | .eith a b,y,n,C,W,h,hf,hy,hn,hc,hw=>by
  simp only [B.co] at hc hw ⊢
  obtain ⟨rb,l1,l2⟩:=Xr b y n C (W++[kF (B.eith a b).d y n]) h.2 hf.2 hy hn (by omega) (by simp;omega)
  obtain ⟨ra,l3,l4⟩:=Xr a y (cT b y n C).length (cT b y n C) W h.1 hf.1 (by omega) (Nat.le_refl _) (by omega) (by omega)
  have r1:CR t0 μ0 1 C (W++[kT (B.eith a b).d y n]) C (W++[kF (B.eith a b).d y n]++[kT b.d y n]):=by
   rw [List.append_assoc]
   exact Go (Ys 0 ((v_iteF rfl).trans ((v_iteF rfl).trans ((v_iteT rfl).trans (ext_v rfl rfl (by simp;omega))))))
  have r3:CR t0 μ0 1 (cT b y n C) (W++[kF (B.eith a b).d y n]) (cT b y n C) (W++[kT a.d y (cT b y n C).length]):=D2 (fun μ=>Jy 0 ((v_skip rfl).trans rfl)) (by omega)
  refine ⟨?_,by simp only [cT];omega,by simp only [cT];omega⟩
  have:=((r1.then rb).then r3).then ra
  rw [show a.co + b.co + 2=1 + b.co + 1 + a.co by omega]
  exact this
 | .cmp x a b,y,n,C,W,h,hf,hy,hn,hc,hw=>by
  simp only [B.co] at hc hw ⊢
  let T:D×Nat:=(Vx x (C.length - y) (C.length - n),0)
  obtain ⟨rb,lb⟩:=Xa (t0:=t0) (μ0:=μ0) b 1 ((uz,1)::(J9 0,1)::T::C) (W++[kN a.d 0,kS (Ji 0)]) h.2.2 (by have:=hf.2;omega) (by simp;omega) (by simp;omega)
  obtain ⟨ra,la⟩:=Xa (t0:=t0) (μ0:=μ0) a 0 ((Ji 0,0)::(cN b 1++(uz,1)::(J9 0,1)::T::C)) W h.2.1 (by have:=hf.1;omega) (by simp;omega) (by omega)
  refine ⟨?_,by simp only [cT,List.length_append,List.length_cons];omega,by simp only [cT,List.length_append,List.length_cons];omega⟩
  have:=(((df h.1 hy hn (by omega) (by omega)).then rb).then (xi (s:=0) (by simp;omega))).then ra
  rw [show a.co + b.co + 4=3 + b.co + 1 + a.co by omega]
  exact this
noncomputable def C0:Cd:=[(b6 1,0),(b6 0,0)]
noncomputable abbrev Ja (b:B):Cd:=cT b 2 1 C0
theorem vc {b:B} {r:MSt} (μ:Mu):(jz (Ju 1 (vp (mCons (jf (mCons (mC (.str yk)) (mCons (mC (.int 0)) mNil))) (mCons (jf (mCons (mC (.str yk)) (mCons (mC (.int 1)) mNil))) mNil)))) (jz (Ju 2 (vp (mCons (jf (mCons (mC (.str u6)) (mCons (mVar 0) (mCons (mC (.int 2)) (mCons (mC (.int 1)) mNil))))) mNil))) r)) [some b.d,none,none,none] μ=r (eC (some b.d) μ none) (pm μ (md C0) [kT b.d 2 1]):=by
 refine (v_set 1 (d:=.ref μ.length) (μ1:=μ++[.lst (md C0)]) rfl).trans ((v_set 2 (d:=.ref (μ.length + 1)) (μ1:=pm μ (md C0) [kT b.d 2 1]) ?_).trans rfl)
 unfold vp pm
 show Res.ok (D.ref (μ++[Cell.lst (md C0)]).length) (μ++[Cell.lst (md C0)]++[.lst [kT b.d 2 1]])=_
 rw [List.length_append,List.append_assoc]
 rfl
theorem Gr {b:B} (h:b.ok) (hf:b.fits) (hc:b.co≤2000) (μ:Mu):∃ μ',um [b.d] μ=.ok (.lst ((Ja b).map Prod.fst)) μ':=by
 obtain ⟨r,_,_⟩:=Xr (t0:=some b.d) (μ0:=μ) b 2 1 C0 [] h hf (by decide) (by decide) (by simp [C0];omega) (by simp;omega)
 obtain ⟨x3,e⟩:=r (3000 - b.co) none
 rw [show 3000 - b.co + b.co=3000 by omega] at e
 obtain ⟨q,hq⟩:∃ q,3000 - b.co=q + 1:=⟨3000 - b.co - 1,by omega⟩
 have tt:tC (eC (some b.d) μ x3) (pm μ (md (Ja b)) [])=.ok false (pm μ (md (Ja b)) []):=by
  refine jm (v_bin (Bg rfl) rfl ?_)
  rfl
 have e2:yg tC Jg (3000 - b.co) (eC (some b.d) μ x3) (pm μ (md (Ja b)) [])=.ok (.nx (eC (some b.d) μ x3)) (pm μ (md (Ja b)) []):=by
  rw [hq,yg,tt]
  rfl
 refine ⟨pm μ (md (Ja b)) [],Jy 3 ((vc μ).trans ((v_seqN (e.trans e2)).trans (v_ret ?_)))⟩
 unfold qx
 rw [v_var 1 rfl,bind_ok,ai8]
 show ofO _ (some (D.lst (md (Ja b)).reverse))=_
 unfold md
 rw [List.reverse_reverse]
 rfl
end
end K21
set_option Elab.async false
set_option linter.all false
set_option maxRecDepth 100000
set_option maxHeartbeats 4000000
namespace K21
open PySem PySem.Spec PyProof.Rows L2 M
theorem xg {β:Type} {nm:Str}:∀ {ns:List Str} {ds:List β} {i:Nat},ns.Nodup→ns.length=ds.length→ns[i]? =some nm→zi nm ns ds=ds[i]?
 | [],ds,i,_,_,h=>by simp at h
 | n::ns,[],i,_,hl,_=>by simp at hl
 | n::ns,d::ds,0,_,_,h=>by
  have:n=nm:=by simpa using h
  unfold zi
  rw [if_pos this]
  rfl
 | n::ns,d::ds,i + 1,hd,hl,h=>by
  have h':ns[i]? =some nm:=by simpa using h
  have hne:n≠nm:=fun z=>by
   have:=(List.nodup_cons.mp hd).1
   exact this (z ▸ List.mem_of_getElem? h')
  unfold zi
  rw [if_neg hne,xg (List.nodup_cons.mp hd).2 (by simpa using hl) h']
  rfl
theorem E2 {β:Type} {nm:Str} {v:β}:∀ {ns:List Str} {ds:List β} {i:Nat},ns.Nodup→ns.length=ds.length→ns[i]? =some nm→putN nm v ns ds=(ns,ds.set i v)
 | [],ds,i,_,_,h=>by simp at h
 | n::ns,[],i,_,hl,_=>by simp at hl
 | n::ns,d::ds,0,_,_,h=>by
  have:n=nm:=by simpa using h
  unfold putN
  rw [if_pos this]
  rfl
 | n::ns,d::ds,i + 1,hd,hl,h=>by
  have h':ns[i]? =some nm:=by simpa using h
  have hne:n≠nm:=fun z=>by
   have:=(List.nodup_cons.mp hd).1
   exact this (z ▸ List.mem_of_getElem? h')
  unfold putN
  rw [if_neg hne,E2 (List.nodup_cons.mp hd).2 (by simpa using hl) h']
  rfl
theorem g8 {β:Type} {nm:Str} {v:β}:∀ {ns:List Str} {ds:List β},nm∉ns→ns.length=ds.length→putN nm v ns ds=(ns++[nm],ds++[v])
 | [],[],_,_=>rfl
 | [],_::_,_,hl=>by simp at hl
 | n::ns,[],_,hl=>by simp at hl
 | n::ns,d::ds,h,hl=>by
  rw [List.mem_cons,not_or] at h
  unfold putN
  rw [if_neg (fun z=>h.1 z.symm),g8 h.2 (by simpa using hl)]
  rfl
noncomputable def nms:List Str:=["hand","other","slots","place","done","told"]
theorem Vl:nms.Nodup:=by decide +kernel
noncomputable abbrev okM:Str→Bool:=j4
theorem Ex:okM "Machine"=true:=by decide +kernel
noncomputable def mac (μ0:Mu) (h o:Int) (ks:List DK) (ds:List D) (p n:Int) (t:D):Mu:=μ0++[.obj "Machine" nms [.int h,.int o,.ref (μ0.length + 1),.int p,.int n,t],.dic ks ds]
section
variable {μ0:Mu} {h o:Int} {ks:List DK} {ds:List D} {p n:Int} {t:D} {ρ:En} {mo mv:MX}
theorem a27:(mac μ0 h o ks ds p n t)[μ0.length]? =some (.obj "Machine" nms [.int h,.int o,.ref (μ0.length + 1),.int p,.int n,t]):=by
 unfold mac
 rw [List.getElem?_append_right (Nat.le_refl _),Nat.sub_self]
 rfl
theorem Eo:(mac μ0 h o ks ds p n t)[μ0.length + 1]? =some (.dic ks ds):=by
 unfold mac
 rw [List.getElem?_append_right (by omega),show μ0.length + 1 - μ0.length=1 by omega]
 rfl
theorem qy:Q6 okM (.ref μ0.length) (mac μ0 h o ks ds p n t)=some (μ0.length,("Machine":Str),nms,[.int h,.int o,.ref (μ0.length + 1),.int p,.int n,t]):=by
 unfold Q6
 dsimp only
 rw [a27]
 dsimp only
 rw [if_pos Ex]
theorem Wp (i:Nat) {nm:Str} {v:D} (hm:mo ρ (mac μ0 h o ks ds p n t)=.ok (.ref μ0.length) (mac μ0 h o ks ds p n t)) (hn:nms[i]? =some nm) (hv:([.int h,.int o,.ref (μ0.length + 1),.int p,.int n,t]:List D)[i]? =some v) :
  Jl okM nm mo ρ (mac μ0 h o ks ds p n t)=.ok v (mac μ0 h o ks ds p n t):=by
 unfold Jl
 rw [hm,bind_ok,qy]
 show ofO _ (zi nm nms ([.int h,.int o,.ref (μ0.length + 1),.int p,.int n,t]:List D))=_
 rw [xg (ds:=([.int h,.int o,.ref (μ0.length + 1),.int p,.int n,t]:List D)) Vl rfl hn,hv]
 rfl
theorem a26 (c:Cell):(mac μ0 h o ks ds p n t).set μ0.length c=μ0++[c,.dic ks ds]:=by
 unfold mac
 rw [List.set_append_right _ _ (Nat.le_refl _),Nat.sub_self]
 rfl
theorem gk (c:Cell):(mac μ0 h o ks ds p n t).set (μ0.length + 1) c=μ0++[.obj "Machine" nms [.int h,.int o,.ref (μ0.length + 1),.int p,.int n,t],c]:=by
 unfold mac
 rw [List.set_append_right _ _ (by omega),show μ0.length + 1 - μ0.length=1 by omega]
 rfl
theorem en (i:Nat) {nm:Str} {v:D} (hn:nms[i]? =some nm):Kh okM nm ρ (.ref μ0.length) v (mac μ0 h o ks ds p n t)=.ok (.nx ρ) (μ0++[.obj "Machine" nms (([.int h,.int o,.ref (μ0.length + 1),.int p,.int n,t]:List D).set i v),.dic ks ds]):=by
 unfold Kh
 rw [qy]
 dsimp only
 rw [if_pos (show nms.length < 900 by decide),E2 (ds:=([.int h,.int o,.ref (μ0.length + 1),.int p,.int n,t]:List D)) Vl rfl hn,a26]
theorem D7 (i:Nat) {nm:Str} {v:D} (hv:mv ρ (mac μ0 h o ks ds p n t)=.ok v (mac μ0 h o ks ds p n t)) (hm:mo ρ (mac μ0 h o ks ds p n t)=.ok (.ref μ0.length) (mac μ0 h o ks ds p n t)) (hn:nms[i]? =some nm) :
  U4 okM nm mo mv ρ (mac μ0 h o ks ds p n t)=.ok (.nx ρ) (μ0++[.obj "Machine" nms (([.int h,.int o,.ref (μ0.length + 1),.int p,.int n,t]:List D).set i v),.dic ks ds]):=by
 unfold U4
 rw [hv,bind_ok,hm,bind_ok,en i hn]
theorem a87 (i:Nat) {nm:Str} {a b:Int} (hm:mo ρ (mac μ0 h o ks ds p n t)=.ok (.ref μ0.length) (mac μ0 h o ks ds p n t)) (hn:nms[i]? =some nm) (ha:([.int h,.int o,.ref (μ0.length + 1),.int p,.int n,t]:List D)[i]? =some (.int a)) (hv:mv ρ (mac μ0 h o ks ds p n t)=.ok (.int b) (mac μ0 h o ks ds p n t)) :
  gh okM nm mo mv ρ (mac μ0 h o ks ds p n t)=.ok (.nx ρ) (μ0++[.obj "Machine" nms (([.int h,.int o,.ref (μ0.length + 1),.int p,.int n,t]:List D).set i (.int (a + b))),.dic ks ds]):=by
 unfold gh
 have e:((Q6 okM (.ref μ0.length) (mac μ0 h o ks ds p n t)).bind fun q=>zi nm q.2.2.1 q.2.2.2)=some (.int a):=by
  rw [qy]
  exact (xg (ds:=([.int h,.int o,.ref (μ0.length + 1),.int p,.int n,t]:List D)) Vl rfl hn).trans ha
 rw [hm,bind_ok,e]
 dsimp only
 rw [hv,bind_ok]
 exact en i hn
end
theorem wz {q:DK} {v:D} (r:DK):∀ (ks:List DK) (ds:List D),jc ks (putVs ks ds q v) r=if r=q then (jc ks ds q).map (fun _=>v) else jc ks ds r
 | [],ds=>by unfold putVs;simp [jc]
 | k::ks,[]=>by unfold putVs;simp [jc]
 | k::ks,d::ds=>by
  have ih:=wz (q:=q) (v:=v) r ks ds
  show (if k=r then some (if k=q then v else d) else jc ks (putVs ks ds q v) r)=if r=q then (if k=q then some d else jc ks ds q).map (fun _=>v) else (if k=r then some d else jc ks ds r)
  rw [ih]
  by_cases h1:k=r
  ·subst h1
   by_cases h2:k=q
   ·subst h2;simp
   ·simp [h2]
  ·by_cases h2:r=q
   ·subst h2;simp [h1]
   ·simp [h1,h2]
theorem wx {q:DK}:∀ {ks:List DK} {ds:List D},ks.length=ds.length→(jc ks ds q).isSome=ks.any fun k=>decide (k=q)
 | [],[],_=>rfl
 | [],_::_,h=>by simp at h
 | _::_,[],h=>by simp at h
 | k::ks,d::ds,h=>by
  show (if k=q then some d else jc ks ds q).isSome=_
  rw [List.any_cons,← wx (q:=q) (ks:=ks) (ds:=ds) (by simpa using h)]
  by_cases z:k=q <;> simp [z]
theorem Qz {q r:DK} {v:D}:∀ {ks:List DK} {ds:List D},ks.length=ds.length→jc (ks++[q]) (ds++[v]) r=(jc ks ds r).or (if q=r then some v else none)
 | [],[],_=>by simp [jc]
 | [],_::_,h=>by simp at h
 | _::_,[],h=>by simp at h
 | k::ks,d::ds,h=>by
  show (if k=r then some d else jc (ks++[q]) (ds++[v]) r)=_
  rw [Qz (by simpa using h)]
  show _=Option.or (if k=r then some d else jc ks ds r) _
  by_cases z:k=r <;> simp [z]
theorem Dq {q:DK} {v:D} {ks:List DK} {ds:List D} (h:ks.length=ds.length):ks.length=(putVs ks ds q v).length:=by unfold putVs;rw [List.length_zipWith,← h,Nat.min_self]
end K21
set_option Elab.async false
set_option linter.all false
set_option maxRecDepth 100000
set_option maxHeartbeats 400000
namespace K21
open PySem PySem.Spec PyProof.Rows L2 M
structure SN (ks:List DK) (ds:List D):Prop where
 len:ks.length=ds.length
 num:∀ q d,jc ks ds q=some d→Num d
noncomputable def pK (ks:List DK) (q:DK):List DK:=if (ks.any fun k=>decide (k=q))=true then ks else ks++[q]
noncomputable def pD (ks:List DK) (ds:List D) (q:DK) (v:D):List D:=if (ks.any fun k=>decide (k=q))=true then putVs ks ds q v else ds++[v]
theorem SN.put {ks:List DK} {ds:List D} (h:SN ks ds) (q:DK) {v:D} (hv:Num v):SN (pK ks q) (pD ks ds q v):=by
 unfold pK pD
 by_cases z:(ks.any fun k=>decide (k=q))=true
 ·rw [if_pos z,if_pos z]
  refine ⟨Dq h.len,fun r d e=>?_⟩
  rw [wz] at e
  split at e
  ·cases e2:jc ks ds q with
   | none=>rw [e2] at e;cases e
   | some y=>rw [e2] at e;cases e;exact hv
  ·exact h.num r d e
 ·rw [if_neg z,if_neg z]
  refine ⟨by simp [h.len],fun r d e=>?_⟩
  rw [Qz h.len] at e
  cases e2:jc ks ds r with
  | none =>
   rw [e2,Option.none_or] at e
   split at e
   ·cases e;exact hv
   ·cases e
  | some y=>rw [e2,Option.some_or] at e;cases e;exact h.num r _ e2
theorem B0 (ks:List DK) (q:DK):(pK ks q).length≤ks.length + 1:=by
 unfold pK
 split
 ·omega
 ·simp
section
variable {μ0:Mu} {h o:Int} {ks:List DK} {ds:List D} {p n:Int} {t:D} {ρ:En}
theorem an5 {s:Nat} {v:D} (hk:ks.length < 16777216):ft ρ (.ref (μ0.length + 1)) (.int s) v (mac μ0 h o ks ds p n t)=.ok (.nx ρ) (mac μ0 h o (pK ks (.inl s)) (pD ks ds (.inl s) v) p n t):=by
 unfold ft
 dsimp only
 rw [Eo]
 show (if ks.length < 16777216 then (if (ks.any fun k=>decide (k=.inl (s:Int)))=true then _ else _) else _)=_
 rw [if_pos hk]
 unfold pK pD
 by_cases z:(ks.any fun k=>decide (k=.inl (s:Int)))=true
 ·rw [if_pos z,if_pos z,if_pos z,gk]
  rfl
 ·rw [if_neg z,if_neg z,if_neg z,gk]
  rfl
end
structure In (h o:Int) (ks:List DK) (ds:List D):Prop where
 h0:0≤h
 h1:h < 4294967296
 o0:0≤o
 o1:o < 4294967296
 sl:SN ks ds
noncomputable abbrev a64:MSt:=(jd (j5 (mBin gEq (mBin gIdx (mVar 1) (mC (.int 0))) (mC (.str yk))))
  (U4 j4 "told" (mVar 0) (mBin gIdx (mVar 1) (mC (.int 1))))
  (jd (j5 (mBin gEq (mBin gIdx (mVar 1) (mC (.int 0))) (mC (.str Zr))))
  (U4 j4 "told" (mVar 0) (Jl j4 "hand" (mVar 0)))
  (jd (j5 (mBin gIn (mBin gIdx (mVar 1) (mC (.int 0))) (jf (mCons (mC (.str qb)) (mCons (mC (.str w_tax)) (mCons (mC (.str w_keep)) mNil))))))
  (u2 (jq Yu (mCons (mVar 0) (mCons (mVar 1) mNil))))
  (jd (j5 (mBin wc (mBin gIdx (mVar 1) (mC (.int 0))) (jf (mCons (mC (.str Y8)) (mCons (mC (.str Gf)) (mCons (mC (.str ze)) mNil))))))
  (u2 (jq Jk (mCons (mVar 0) (mCons (jq U6 (mCons (mVar 0) (mCons (mVar 1) (mCons (mVar 2) mNil)))) mNil))))
  jp))))
section
variable {bs:List Int} {d:D} {h o h' o':Int} {ks ks':List DK} {ds ds':List D} {μ0:Mu} {n:Int} {t':D}
theorem Z2 {p z:Nat} (hz:∀ n,Uc [.ref μ0.length,d] (mac μ0 h' o' ks' ds' p n t')=.ok (.int z) (mac μ0 h' o' ks' ds' p n t'))
  (e:a64 [some (.ref μ0.length),some d,some (pk bs)] (mac μ0 h o ks ds p n .non)=.ok (.nx [some (.ref μ0.length),some d,some (pk bs)]) (mac μ0 h' o' ks' ds' p n t')) :
  U1 [.ref μ0.length,d,pk bs] (mac μ0 h o ks ds p n .non)=.ok .non (mac μ0 h' o' ks' ds' ((p + 1 + z:Nat):Int) (n + 1) t'):=by
 have:((p + 1 + z:Nat):Int)=p + (1 + z):=by omega
 rw [this]
 exact Ys 0 ((v_seqN e).trans ((v_seqN (a87 4 (v_var 0 rfl) rfl rfl rfl)).trans (a87 3 (v_var 0 rfl) rfl rfl (v_bin rfl (v_call rfl (hz _)) rfl))))
noncomputable def Nr (x:List Nat):Prop:=gEq (.str x) (.str Y8)=some (.bl false)∧gEq (.str x) (.str Gf)=some (.bl false)∧gEq (.str x) (.str ze)=some (.bl false)
theorem Qh {x:List Nat} {r:List D} {a:D} {μ:Mu} (g:Nr x):Uc [a,.tup (.str x::r)] μ=.ok (.int ((0:Nat):Int)) μ :=
 Jy 0 ((v_skip (jm (v_bin (x:=.str x) (v_bin rfl rfl (U2 _ _)) rfl g.1))).trans ((v_skip (jm (v_bin (x:=.str x) (v_bin rfl rfl (U2 _ _)) rfl g.2.1))).trans ((v_skip (jm (v_bin (x:=.str x) (v_bin rfl rfl (U2 _ _)) rfl g.2.2))).trans rfl)))
theorem h_get {ρ:En} {μ0:Mu} {p n:Int} {t:D} (hρ:ρ[0]? =some (some (.ref μ0.length))):Jl okM "hand" (mVar 0) ρ (mac μ0 h o ks ds p n t)=.ok (.int h) (mac μ0 h o ks ds p n t):=Wp 0 (v_var 0 hρ) rfl rfl
theorem o_get {ρ:En} {μ0:Mu} {p n:Int} {t:D} (hρ:ρ[0]? =some (some (.ref μ0.length))):Jl okM "other" (mVar 0) ρ (mac μ0 h o ks ds p n t)=.ok (.int o) (mac μ0 h o ks ds p n t):=Wp 1 (v_var 0 hρ) rfl rfl
theorem b4 {ρ:En} {μ0:Mu} {p n:Int} {t:D} (hρ:ρ[0]? =some (some (.ref μ0.length))):Jl okM "slots" (mVar 0) ρ (mac μ0 h o ks ds p n t)=.ok (.ref (μ0.length + 1)) (mac μ0 h o ks ds p n t):=Wp 2 (v_var 0 hρ) rfl rfl
theorem gj {μ0:Mu} {p n:Int} {t:D}:j9 (mac μ0 h o ks ds p n t) (.ref (μ0.length + 1))=.dic ks ds:=by
 unfold j9
 dsimp only
 rw [Eo]
theorem Cj {μ0:Mu} {p n:Int}:Jk [.ref μ0.length,.non] (mac μ0 h o ks ds p n .non)=.ok .non (mac μ0 h o ks ds p n (.int 0)):=Ys 0 ((v_iteT rfl).trans (D7 5 rfl (v_var 0 rfl) rfl))
theorem Zl {μ0:Mu} {p n i:Int}:Jk [.ref μ0.length,.int i] (mac μ0 h o ks ds p n .non)=.ok .non (mac μ0 i o ks ds p n .non):=Ys 0 ((v_iteF rfl).trans (D7 0 rfl (v_var 0 rfl) rfl))
theorem wy (hl:ks.length=ds.length) (q r:DK) (v:D):jc (pK ks q) (pD ks ds q v) r=if r=q then some v else jc ks ds r:=by
 unfold pK pD
 by_cases z:(ks.any fun k=>decide (k=q))=true
 ·rw [if_pos z,if_pos z,wz]
  split
  ·have hs:∃ y,jc ks ds q=some y:=Option.isSome_iff_exists.mp ((wx hl).trans z)
   obtain ⟨y,e⟩:=hs
   rw [e]
   rfl
  ·rfl
 ·rw [if_neg z,if_neg z,Qz hl]
  have hs:jc ks ds q=none:=by
   have:=wx (q:=q) hl
   rw [Bool.not_eq_true] at z
   rw [z] at this
   simpa using this
  by_cases e:r=q
  ·subst e
   rw [hs,if_pos rfl]
   rfl
  ·rw [if_neg e,if_neg (Ne.symm e)]
   cases jc ks ds r <;> rfl
noncomputable def PS1 (bs:List Int) (d:D) (h o:Int) (ks:List DK) (ds:List D) (h' o':Int) (ks':List DK) (ds':List D) (z:Nat):Prop:=∀ (μ0:Mu) (p:Nat) (n:Int),U1 [.ref μ0.length,d,pk bs] (mac μ0 h o ks ds p n .non)=.ok .non (mac μ0 h' o' ks' ds' ((p + 1 + z:Nat):Int) (n + 1) .non)
noncomputable def PT1 (bs:List Int) (d:D) (h o:Int) (ks:List DK) (ds:List D) (t:Int):Prop:=∀ (μ0:Mu) (p:Nat) (n:Int),∃ h' o' ks' ds' g,U1 [.ref μ0.length,d,pk bs] (mac μ0 h o ks ds p n .non)=.ok .non (mac μ0 h' o' ks' ds' g (n + 1) (.int t))
theorem e7 {i:Int} (i0:0≤i) (i1:i < 4294967296):PT1 bs (b6 i) h o ks ds i:=fun μ0 p n=>⟨h,o,ks,ds,_,Z2 (z:=0) (fun _=>Qh ⟨rfl,rfl,rfl⟩) ((v_iteT rfl).trans (D7 5 rfl (v_var 0 rfl) rfl))⟩
theorem fw:PS1 bs uz h o ks ds h h ks ds 0:=fun μ0 p n=>Z2 (fun _=>Qh ⟨rfl,rfl,rfl⟩) ((v_iteF rfl).trans ((v_iteF rfl).trans ((v_iteT rfl).trans (v_drop (v_call rfl (Ys 0 ((v_iteF rfl).trans ((v_iteT rfl).trans (D7 1 (h_get rfl) (v_var 0 rfl) rfl)))))))))
theorem e9 (hk:ks.length < 16777216) {s:Nat} (hs:s < 8):PS1 bs (Ji s) h o ks ds h o (pK ks (.inl s)) (pD ks ds (.inl s) (.int h)) 0:=fun μ0 p n=>Z2 (fun _=>Qh ⟨rfl,rfl,rfl⟩) ((v_iteF rfl).trans ((v_iteF rfl).trans ((v_iteT rfl).trans (v_drop (v_call rfl (Ys 0 ((v_iteF rfl).trans ((v_iteF rfl).trans ((f6 (h_get rfl) (b4 rfl) rfl).trans (an5 hk))))))))))
theorem A7 {k:Nat}:PS1 bs (ei k) h o ks ds h o ks ds k:=fun μ0 p n=>Z2 (fun _=>Jy 0 (v_take rfl rfl)) ((v_iteF rfl).trans ((v_iteF rfl).trans ((v_iteF rfl).trans ((v_iteF rfl).trans rfl))))
theorem wq {x:List Nat} {r:List D} {d':D} (g1:gEq (.str x) (.str yk)=some (.bl false)) (g2:gEq (.str x) (.str Zr)=some (.bl false)) (g3:gIn (.str x) (.tup [.str qb,.str w_tax,.str w_keep])=some (.bl false)) (g4:wc (.str x) (.tup [.str Y8,.str Gf,.str ze])=some (.bl true))
  (e1:∀ (μ0:Mu) (p n:Int),U6 [.ref μ0.length,.tup (.str x::r),pk bs] (mac μ0 h o ks ds p n .non)=.ok d' (mac μ0 h o ks ds p n .non)) {μ0:Mu} {p:Nat} {n h':Int} {t':D} (et:Jk [.ref μ0.length,d'] (mac μ0 h o ks ds p n .non)=.ok .non (mac μ0 h' o ks ds p n t')) :
  a64 [some (.ref μ0.length),some (.tup (.str x::r)),some (pk bs)] (mac μ0 h o ks ds p n .non)=.ok (.nx [some (.ref μ0.length),some (.tup (.str x::r)),some (pk bs)]) (mac μ0 h' o ks ds p n t') :=
 (v_iteF (jm (v_bin (x:=.str x) (v_bin rfl rfl (U2 _ _)) rfl g1))).trans ((v_iteF (jm (v_bin (x:=.str x) (v_bin rfl rfl (U2 _ _)) rfl g2))).trans ((v_iteF (jm (v_bin (x:=.str x) (v_bin rfl rfl (U2 _ _)) rfl g3))).trans ((v_iteT (jm (v_bin (x:=.str x) (v_bin rfl rfl (U2 _ _)) rfl g4))).trans (v_drop (v_call (v_cons rfl (v_cons ((v_call rfl (e1 _ _ _))) v_nil)) et)))))
theorem aa9 {i:Int} (i0:0≤i) (i1:i < 4294967296):PS1 bs (Ay i) h o ks ds i o ks ds 0:=fun μ0 p n=>Z2 (fun _=>Qh ⟨rfl,rfl,rfl⟩) (wq rfl rfl rfl rfl (d':=.int i) (fun μ0 p n=>Jy 1 ((v_skip rfl).trans ((v_skip rfl).trans (v_take rfl rfl)))) Zl)
theorem ab0:PS1 bs Ax h o ks ds bs.length o ks ds 0:=fun μ0 p n=>by
 have e:(bs.map D.int).length=bs.length:=List.length_map _
 rw [← e]
 exact Z2 (fun _=>Qh ⟨rfl,rfl,rfl⟩) (wq rfl rfl rfl rfl (d':=.int (bs.map D.int).length) (fun μ0 p n=>Jy 1 ((v_skip rfl).trans (v_take rfl rfl))) Zl)
theorem Ci {x:List Nat} {r:List D} {d':D} (hs:Nr x) (g1:gEq (.str x) (.str yk)=some (.bl false)) (g2:gEq (.str x) (.str Zr)=some (.bl false)) (g3:gIn (.str x) (.tup [.str qb,.str w_tax,.str w_keep])=some (.bl false)) (g4:wc (.str x) (.tup [.str Y8,.str Gf,.str ze])=some (.bl true))
  (e1:∀ (μ0:Mu) (p n:Int),U6 [.ref μ0.length,.tup (.str x::r),pk bs] (mac μ0 h o ks ds p n .non)=.ok d' (mac μ0 h o ks ds p n .non)) :
  (d'=.non→PT1 bs (.tup (.str x::r)) h o ks ds 0)∧∀ i,d'=.int i→PS1 bs (.tup (.str x::r)) h o ks ds i o ks ds 0:=by
 refine ⟨fun z=>?_,fun i z=>?_⟩
 ·subst z
  exact fun μ0 p n=>⟨h,o,ks,ds,_,Z2 (z:=0) (fun _=>Qh hs) (wq g1 g2 g3 g4 e1 Cj)⟩
 ·subst z
  exact fun μ0 p n=>Z2 (fun _=>Qh hs) (wq g1 g2 g3 g4 e1 Zl)
theorem A6 (hB:zr bs) {z:Int} (hz:z=1∨z=2∨z=4) (ho:0≤o):(ld bs z o=.non→PT1 bs (Yi z) h o ks ds 0)∧∀ i,ld bs z o=.int i→PS1 bs (Yi z) h o ks ds i o ks ds 0 :=
 Ci ⟨rfl,rfl,rfl⟩ rfl rfl rfl rfl fun μ0 p n=>by
  have e:∀ μ,yy [pk bs,.int z,.int (o + 0)] μ=.ok (ld bs z o) μ:=by rw [Int.add_zero];exact (ld_eq hB hz ho).2.1
  exact Jy 1 (Xu ((v_iteT rfl).trans ((v_set 3 ((v_ifT rfl).trans (o_get rfl))).trans (v_ret (v_call (v_cons rfl (v_cons rfl (v_cons (v_bin (x:=.int o) rfl rfl rfl) v_nil))) (e _))))))
theorem ab1 {x:List Nat} (hx:x∈opL) (I:In h o ks ds):(rk x h o=.non→PT1 bs (zk x) h o ks ds 0)∧∀ i,rk x h o=.int i→PS1 bs (zk x) h o ks ds i o ks ds 0 :=
 Ci ⟨rfl,rfl,rfl⟩ rfl rfl rfl rfl fun μ0 p n=>Jy 1 ((v_skip rfl).trans ((v_skip rfl).trans ((v_skip rfl).trans ((v_skip rfl).trans ((v_skip rfl).trans (v_take rfl (v_call (v_cons rfl (v_cons (h_get rfl) (v_cons (o_get rfl) v_nil))) ((eh hx I.h0 I.h1 I.o0 I.o1).2.1 _))))))))
theorem Kj {s:Nat} (hs:s < 8) {i:Int} (hl:jc ks ds (.inl (s:Int))=some (.int i)):PS1 bs (J9 s) h o ks ds i o ks ds 0:=fun μ0 p n=>by
 refine Z2 (fun _=>Qh ⟨rfl,rfl,rfl⟩) (wq rfl rfl rfl rfl (d':=.int i) (fun μ0 p n=>?_) Zl)
 refine Jy 1 ((v_skip rfl).trans ((v_skip rfl).trans ((v_skip rfl).trans ((v_skip rfl).trans ((v_skip rfl).trans ((v_skip rfl).trans (v_ret (v_call rfl (Jy 0 ((v_skip (jm (v_bin rfl (b4 rfl) ?_))).trans (v_ret (v_bin (b4 rfl) rfl ?_))))))))))))
 ·rw [gj]
  show some (D.bl (!(jc ks ds (.inl (s:Int))).isSome))=_
  rw [hl]
  rfl
 ·rw [gj]
  exact hl
theorem aa8 {x:List Nat} (hx:x∈cpL) {y n:Nat} {k:Bool} (hk:cp x h o=.bl k):PS1 bs (Vx x y n) h o ks ds h o ks ds (if k then y else n):=by
 have go:∀ (t:List Nat) (b:Bool) (y' n':Nat),(∀ μ,zp [.str t,.int h,.int o] μ=.ok (.bl b) μ)→PS1 bs (ab4 t y' n') h o ks ds h o ks ds (if b then y' else n'):=fun t b y' n' e μ0 p m=>Z2 (fun n''=>by
  cases b
  ·exact Jy 0 ((v_skip rfl).trans ((v_skip rfl).trans (v_take rfl ((v_ifF (a60 (v_call (v_cons rfl (v_cons (h_get rfl) (v_cons (o_get rfl) v_nil))) (e _)) rfl)).trans rfl))))
  ·exact Jy 0 ((v_skip rfl).trans ((v_skip rfl).trans (v_take rfl ((v_ifT (a60 (v_call (v_cons rfl (v_cons (h_get rfl) (v_cons (o_get rfl) v_nil))) (e _)) rfl)).trans rfl))))) ((v_iteF rfl).trans ((v_iteF rfl).trans ((v_iteF rfl).trans ((v_iteF rfl).trans rfl))))
 revert hk
 revert hx
 revert x
 show ∀ x∈cpL,_
 refine Qr ⟨fun hk=>?_,fun hk=>?_,fun hk=>?_,fun hk=>?_,fun hk=>?_,fun hk=>?_⟩
 ·have hk:(h == o)=k:=D.bl.inj hk
  have:=go uw (h == o) y n (fun _=>rfl)
  rw [hk] at this
  exact this
 ·have hk:(!(h == o))=k:=D.bl.inj hk
  have:=go uw (h == o) n y (fun _=>rfl)
  rw [show (h == o)= !k by rw [← hk,Bool.not_not]] at this
  cases k <;> exact this
 ·have hk:decide (h < o)=k:=D.bl.inj hk
  have:=go J2 (decide (h ≥ o)) n y (fun _=>rfl)
  rw [show decide (h ≥ o)= !k by rw [← hk,← decide_not];exact decide_eq_decide.mpr (by omega)] at this
  cases k <;> exact this
 ·have hk:decide (h > o)=k:=D.bl.inj hk
  have:=go ji (decide (h > o)) y n (fun _=>rfl)
  rw [hk] at this
  exact this
 ·have hk:decide (h≤o)=k:=D.bl.inj hk
  have:=go ji (decide (h > o)) n y (fun _=>rfl)
  rw [show decide (h > o)= !k by rw [← hk,← decide_not];exact decide_eq_decide.mpr (by omega)] at this
  cases k <;> exact this
 ·have hk:decide (h ≥ o)=k:=D.bl.inj hk
  have:=go J2 (decide (h ≥ o)) y n (fun _=>rfl)
  rw [hk] at this
  exact this
end
end K21
set_option Elab.async false
set_option linter.all false
set_option maxRecDepth 100000
set_option maxHeartbeats 400000
namespace K21
open PySem PySem.Spec PyProof.Rows L2 M
noncomputable abbrev tT:MB:=j5 (Yo (Jl j4 "told" (mVar 2)))
noncomputable abbrev pE (cs:List D) (bs:List Int) (μ0:Mu):En:=[some (.lst cs),some (pk bs),some (.ref μ0.length)]
structure S5 where
 p:Nat
 h:Int
 o:Int
 ks:List DK
 ds:List D
noncomputable def MR (F:Cd) (bs:List Int) (c:Nat) (a b:S5):Prop:=∀ (μ0:Mu) (k:Nat) (n:Int),yg tT ut (k + c) (pE (F.map Prod.fst) bs μ0) (mac μ0 a.h a.o a.ks a.ds a.p n .non)=yg tT ut k (pE (F.map Prod.fst) bs μ0) (mac μ0 b.h b.o b.ks b.ds b.p (n + c) .non)
noncomputable def MT (F:Cd) (bs:List Int) (c:Nat) (a:S5) (t:Int):Prop:=∀ (μ0:Mu) (k:Nat) (n:Int),∃ h o ks ds g m,yg tT ut (k + c + 1) (pE (F.map Prod.fst) bs μ0) (mac μ0 a.h a.o a.ks a.ds a.p n .non)=.ok (.nx (pE (F.map Prod.fst) bs μ0)) (mac μ0 h o ks ds g m (.int t))
section
variable {F:Cd} {bs:List Int} {a b c:S5} {m n:Nat} {t:Int}
theorem MR.then (x:MR F bs m a b) (y:MR F bs n b c):MR F bs (m + n) a c:=fun μ0 k q=>by
 rw [show k + (m + n)=k + n + m by omega,x μ0 (k + n) q,y μ0 k (q + m),Int.add_assoc,← Int.natCast_add]
theorem MR.tell (x:MR F bs m a b) (y:MT F bs n b t):MT F bs (m + n) a t:=fun μ0 k q=>by
 obtain ⟨h,o,ks,ds,g,w,e⟩:=y μ0 k (q + m)
 exact ⟨h,o,ks,ds,g,w,by rw [show k + (m + n) + 1=k + n + 1 + m by omega,x μ0 (k + n + 1) q,e]⟩
theorem MT.more (y:MT F bs n a t) (h:n≤m):MT F bs m a t:=fun μ0 k q=>by
 obtain ⟨h1,o,ks,ds,g,w,e⟩:=y μ0 (k + (m - n)) q
 exact ⟨h1,o,ks,ds,g,w,by rw [← e];congr 1;omega⟩
theorem ua {p:Nat} {e:D×Nat} {X:Cd} (h:F.drop p=e::X):F[p]? =some e∧F.drop (p + 1)=X:=by
 constructor
 ·have:(F.drop p)[0]? =some e:=by rw [h];rfl
  rwa [List.getElem?_drop] at this
 ·rw [← List.drop_drop,h]
  rfl
theorem W6 {μ0:Mu} {p:Nat} {h o:Int} {ks:List DK} {ds:List D} {q:Int} {e:D×Nat} (hp:F[p]? =some e):tT (pE (F.map Prod.fst) bs μ0) (mac μ0 h o ks ds p q .non)=.ok true (mac μ0 h o ks ds p q .non) ∧
  ut (pE (F.map Prod.fst) bs μ0) (mac μ0 h o ks ds p q .non)=(u2 (jq U1 (mCons (mVar 2) (mCons (mBin gIdx (mVar 0) (Jl j4 "place" (mVar 2))) (mCons (mVar 1) mNil))))) (pE (F.map Prod.fst) bs μ0) (mac μ0 h o ks ds p q .non) ∧
  mCons (mVar 2) (mCons (mBin gIdx (mVar 0) (Jl j4 "place" (mVar 2))) (mCons (mVar 1) mNil)) (pE (F.map Prod.fst) bs μ0) (mac μ0 h o ks ds p q .non)=.ok [.ref μ0.length,e.1,pk bs] (mac μ0 h o ks ds p q .non):=by
 have hl:p < F.length:=(List.getElem?_eq_some_iff.mp hp).1
 have hl2:(F.map Prod.fst).length=F.length:=List.length_map _
 refine ⟨?_,v_skip (jm (v_bin (x:=.int p) (y:=.int (F.map Prod.fst).length) (Wp 3 (v_var 2 rfl) rfl rfl) (Ue (v_cons rfl v_nil) rfl) ?_)),v_cons rfl (v_cons (v_bin (x:=.lst (F.map Prod.fst)) (y:=.int p) rfl (Wp 3 (v_var 2 rfl) rfl rfl) (D5 ?_)) (v_cons rfl v_nil))⟩
 ·show j5 (Yo (Jl j4 "told" (mVar 2))) _ _=_
  unfold j5 Yo
  rw [Wp 5 (v_var 2 rfl) rfl rfl]
  rfl
 ·rw [deref_int,deref_int,Wf,decide_eq_false (by rw [hl2];omega)]
 ·rw [List.getElem?_map,hp]
  rfl
theorem mr1 {p z:Nat} {e:D×Nat} {h o h' o':Int} {ks ks':List DK} {ds ds':List D} (hp:F[p]? =some e) (s:PS1 bs e.1 h o ks ds h' o' ks' ds' z):MR F bs 1 ⟨p,h,o,ks,ds⟩ ⟨p + 1 + z,h',o',ks',ds'⟩:=fun μ0 k q=>by
 obtain ⟨t1,t2,t3⟩:=W6 (bs:=bs) (μ0:=μ0) (h:=h) (o:=o) (ks:=ks) (ds:=ds) (q:=q) hp
 show yg tT ut (k + 1) _ (mac μ0 h o ks ds p q .non)=_
 rw [yg,t1,bind_ok,if_pos rfl,t2,v_drop (v_call t3 (s μ0 p q)),bind_ok]
 rfl
theorem mt1 {p:Nat} {e:D×Nat} {h o:Int} {ks:List DK} {ds:List D} (hp:F[p]? =some e) (s:PT1 bs e.1 h o ks ds t):MT F bs 1 ⟨p,h,o,ks,ds⟩ t:=fun μ0 k q=>by
 obtain ⟨t1,t2,t3⟩:=W6 (bs:=bs) (μ0:=μ0) (h:=h) (o:=o) (ks:=ks) (ds:=ds) (q:=q) hp
 obtain ⟨h',o',ks',ds',g,e1⟩:=s μ0 p q
 refine ⟨h',o',ks',ds',g,q + 1,?_⟩
 show yg tT ut (k + 1 + 1) _ (mac μ0 h o ks ds p q .non)=_
 rw [yg,t1,bind_ok,if_pos rfl,t2,v_drop (v_call t3 e1),bind_ok]
 dsimp only
 have t4:tT (pE (F.map Prod.fst) bs μ0) (mac μ0 h' o' ks' ds' g (q + 1) (.int t))=.ok false (mac μ0 h' o' ks' ds' g (q + 1) (.int t)):=by
  show j5 (Yo (Jl j4 "told" (mVar 2))) _ _=_
  unfold j5 Yo
  rw [Wp 5 (v_var 2 rfl) rfl rfl]
  rfl
 rw [yg,t4,bind_ok]
 rfl
structure Gd (a:S5):Prop extends In a.h a.o a.ks a.ds where
 kl:a.ks.length≤a.p
theorem Y7 {p:Nat} {L C:Cd} (h:F.drop p=L++C):F.drop (p + L.length)=C:=by
 rw [← List.drop_drop,h,List.drop_left]
theorem Xe (hB:zr bs) (hF:F.length≤9000):∀ (x:N) (s:Nat) (C:Cd) (a:S5),x.ok→s + x.need≤8→F.drop a.p=cN x s++C→Gd a→(x.ev bs=.non→MT F bs (cN x s).length a 0)∧∀ i,x.ev bs=.int i→∃ b,MR F bs (cN x s).length a b∧Gd b∧b.h=i∧b.p=a.p + (cN x s).length∧∀ j:Nat,j < s→jc b.ks b.ds (.inl j)=jc a.ks a.ds (.inl j)
 | .num k,s,C,a,hx,hs,hd,G=>by
  refine ⟨fun z=>(by cases z),fun i hi=>?_⟩
  have hi:k=i:=D.int.inj hi
  subst hi
  obtain ⟨g1,g2⟩:=ua (F:=F) (e:=(Ay k,s)) (X:=C) hd
  exact ⟨_,mr1 g1 (aa9 hx.1 hx.2),⟨⟨hx.1,hx.2,G.o0,G.o1,G.sl⟩,Nat.le_trans G.kl (by simp)⟩,rfl,rfl,fun _ _=>rfl⟩
 | .len,s,C,a,hx,hs,hd,G=>by
  refine ⟨fun z=>(by cases z),fun i hi=>?_⟩
  have hi:(bs.length:Int)=i:=D.int.inj hi
  subst hi
  obtain ⟨g1,g2⟩:=ua (F:=F) (e:=(Ax,s)) (X:=C) hd
  exact ⟨_,mr1 g1 ab0,⟨⟨by show 0≤(bs.length:Int);omega,by show (bs.length:Int) < 4294967296;have:=hB.2;omega,G.o0,G.o1,G.sl⟩,Nat.le_trans G.kl (by simp)⟩,rfl,rfl,fun _ _=>rfl⟩
 | .load z x,s,C,a,hx,hs,hd,G=>by
  simp only [cN,List.append_assoc,List.cons_append,List.nil_append] at hd
  obtain ⟨f1,r1⟩:=Xe hB hF x s _ a hx.2 hs hd G
  have hl:(cN (.load z x) s).length=(cN x s).length + 2:=by simp [cN]
  simp only [N.ev]
  rw [hl]
  rcases N.num_ev hB x hx.2 with e | ⟨i,e,i0,i1⟩
  ·rw [e]
   exact ⟨fun _=>(f1 e).more (by omega),fun i z=>(by cases z)⟩
  ·rw [e]
   obtain ⟨b,rb,gb,hbh,hbp,hbl⟩:=r1 i e
   have hd2:=Y7 hd
   rw [← hbp] at hd2
   obtain ⟨g1,g2⟩:=ua hd2
   obtain ⟨g3,g4⟩:=ua g2
   have m1:=mr1 (h:=b.h) (o:=b.o) (ks:=b.ks) (ds:=b.ds) g1 (fw (bs:=bs))
   obtain ⟨p1,p2⟩:=A6 (bs:=bs) (h:=b.h) (o:=b.h) (ks:=b.ks) (ds:=b.ds) hB hx.1 gb.h0
   rw [hbh] at p1 p2
   refine ⟨fun z=>?_,fun q hq=>?_⟩
   ·have t1:=mt1 (F:=F) g3 (p1 z)
    rw [← hbh] at t1
    exact ((rb.then m1).tell t1).more (by omega)
   ·have nq:=(ld_eq hB hx.1 i0).1
    have hq':ld bs z i=.int q:=hq
    rw [hq'] at nq
    obtain ⟨q',eq',q0,q1⟩:=nq.resolve_left (by intro z;cases z)
    cases eq'
    have m2:=mr1 (F:=F) g3 (p2 q hq')
    rw [← hbh] at m2
    have fin:=(rb.then m1).then m2
    rw [show (cN x s).length + 1 + 1=(cN x s).length + 2 by omega] at fin
    refine ⟨_,fin,⟨⟨q0,q1,gb.h0,gb.h1,gb.sl⟩,by show b.ks.length≤b.p + 1 + 0 + 1 + 0;have:=gb.kl;omega⟩,rfl,by show b.p + 1 + 0 + 1 + 0=_;rw [hbp];omega,hbl⟩
 | .op x u v,s,C,a,hx,hs,hd,G=>by
  have hn:max u.need (1 + v.need) + s≤8:=by simp only [N.need] at hs;omega
  simp only [cN,List.append_assoc,List.cons_append,List.nil_append] at hd
  have hl:(cN (.op x u v) s).length=(cN u s).length + (cN v (s + 1)).length + 4:=by simp [cN];omega
  obtain ⟨f1,r1⟩:=Xe hB hF u s _ a hx.2.1 (by omega) hd G
  simp only [N.ev]
  rw [hl]
  rcases N.num_ev hB u hx.2.1 with e | ⟨i,e,i0,i1⟩
  ·rw [e]
   exact ⟨fun _=>(f1 e).more (by omega),fun i z=>(by cases z)⟩
  ·rw [e]
   obtain ⟨b,rb,gb,hbh,hbp,hbl⟩:=r1 i e
   have hd2:=Y7 hd
   rw [← hbp] at hd2
   obtain ⟨g1,g2⟩:=ua hd2
   have hbF:b.p < F.length:=(List.getElem?_eq_some_iff.mp g1).1
   have hkb:=gb.kl
   have m1:=mr1 (h:=b.h) (o:=b.o) (ks:=b.ks) (ds:=b.ds) g1 (e9 (bs:=bs) (by omega) (by omega))
   have gb2:Gd ⟨b.p + 1 + 0,b.h,b.o,pK b.ks (.inl s),pD b.ks b.ds (.inl s) (.int b.h)⟩:=⟨⟨gb.h0,gb.h1,gb.o0,gb.o1,gb.sl.put _ ⟨b.h,rfl,gb.h0,gb.h1⟩⟩,by have:=B0 b.ks (.inl s);show (pK b.ks (.inl (s:Int))).length≤b.p + 1 + 0;omega⟩
   obtain ⟨f3,r3⟩:=Xe hB hF v (s + 1) _ _ hx.2.2 (by omega) (show F.drop (b.p + 1 + 0)=_ from g2) gb2
   rcases N.num_ev hB v hx.2.2 with e' | ⟨j,e',j0,j1⟩
   ·rw [e']
    exact ⟨fun _=>((rb.then m1).tell (f3 e')).more (by omega),fun i z=>(by cases z)⟩
   ·rw [e']
    obtain ⟨c,rc,gc,hch,hcp,hcl⟩:=r3 j e'
    have hd4:=Y7 (show F.drop (b.p + 1 + 0)=_ from g2)
    rw [← hcp] at hd4
    obtain ⟨k1,k2⟩:=ua hd4
    obtain ⟨k3,k4⟩:=ua k2
    obtain ⟨k5,k6⟩:=ua k4
    have n1:=mr1 (h:=c.h) (o:=c.o) (ks:=c.ks) (ds:=c.ds) k1 (fw (bs:=bs))
    have hlk:jc c.ks c.ds (.inl (s:Int))=some (.int i):=by
     have:=hcl s (Nat.lt_succ_self s)
     rw [this]
     show jc (pK b.ks (.inl (s:Int))) (pD b.ks b.ds (.inl (s:Int)) (.int b.h)) (.inl (s:Int))=_
     rw [wy gb.sl.len,if_pos rfl,hbh]
    have n2:=mr1 (h:=c.h) (o:=c.h) (ks:=c.ks) (ds:=c.ds) k3 (Kj (bs:=bs) (by omega) hlk)
    have Ic:In i c.h c.ks c.ds:=⟨i0,i1,gc.h0,gc.h1,gc.sl⟩
    obtain ⟨p1,p2⟩:=ab1 (bs:=bs) hx.1 Ic
    have all:=(((rb.then m1).then rc).then n1).then n2
    rw [hch] at p1 p2
    have hkc:=gc.kl
    refine ⟨fun z=>?_,fun q hq=>?_⟩
    ·have t1:=mt1 (F:=F) k5 (p1 z)
     rw [← hch] at t1
     exact (all.tell t1).more (by omega)
    ·have hq':rk x i j=.int q:=hq
     have nq:=(eh hx.1 i0 i1 j0 j1).1
     rw [hq'] at nq
     obtain ⟨q',eq',q0,q1⟩:=nq.resolve_left (by intro z;cases z)
     cases eq'
     have m4:=mr1 (F:=F) k5 (p2 q hq')
     rw [← hch] at m4
     have fin:=all.then m4
     rw [show (cN u s).length + 1 + (cN v (s + 1)).length + 1 + 1 + 1=(cN u s).length + (cN v (s + 1)).length + 4 by omega] at fin
     refine ⟨_,fin,⟨⟨q0,q1,gc.h0,gc.h1,gc.sl⟩,by show c.ks.length≤c.p + 1 + 0 + 1 + 0 + 1 + 0;omega⟩,rfl,by show c.p + 1 + 0 + 1 + 0 + 1 + 0=_;rw [hcp];show b.p + 1 + 0 + _ + 1 + 0 + 1 + 0 + 1 + 0=_;rw [hbp];omega,fun y hy=>?_⟩
     have:=hcl y (by omega)
     rw [this]
     show jc (pK b.ks (.inl (s:Int))) (pD b.ks b.ds (.inl (s:Int)) (.int b.h)) (.inl (y:Int))=_
     rw [wy gb.sl.len,if_neg (fun z=>by have:=Sum.inl.inj z;omega)]
     exact hbl y hy
end
end K21
set_option Elab.async false
set_option linter.all false
set_option maxRecDepth 100000
set_option maxHeartbeats 400000
namespace K21
open PySem PySem.Spec PyProof.Rows L2 M
section
variable {μ ν ν':Mu} {ns:List Str} {ds:List D} {ρ:En} {mv:MX} {v:D}
theorem i_set {nm:Str} (h0:ρ[0]? =some (some (.ref μ.length))) (hv:mv ρ (μ++[.obj "Machine" ns ds]++ν)=.ok v (μ++[.obj "Machine" ns ds]++ν')) (hn:nm∉ns) (hl:ns.length=ds.length) (hs:ns.length < 900) :
  U4 okM nm (mVar 0) mv ρ (μ++[.obj "Machine" ns ds]++ν)=.ok (.nx ρ) (μ++[.obj "Machine" (ns++[nm]) (ds++[v])]++ν'):=by
 have e:(μ++[.obj "Machine" ns ds]++ν')[μ.length]? =some (.obj "Machine" ns ds):=by
  rw [List.append_assoc,List.getElem?_append_right (Nat.le_refl _),Nat.sub_self]
  rfl
 have e2:Q6 okM (.ref μ.length) (μ++[.obj "Machine" ns ds]++ν')=some (μ.length,("Machine":Str),ns,ds):=by
  unfold Q6
  dsimp only
  rw [e]
  dsimp only
  rw [if_pos Ex]
 unfold U4
 rw [hv,bind_ok,v_var 0 h0,bind_ok]
 unfold Kh
 rw [e2]
 dsimp only
 rw [if_pos hs,g8 hn hl,List.append_assoc,List.set_append_right _ _ (Nat.le_refl _),Nat.sub_self,List.append_assoc]
 rfl
end
theorem a37 (μ:Mu):Jo [.ref μ.length] (μ++[.obj "Machine" [] []])=.ok .non (mac μ 0 0 [] [] 0 0 .non):=by
 have e0:μ++[Cell.obj "Machine" [] []]=μ++[Cell.obj "Machine" [] []]++[]:=(List.append_nil _).symm
 rw [e0]
 have ed:∀ (ns:List Str) (ds:List D),Ek [some (.ref μ.length)] (μ++[.obj "Machine" ns ds]++[])=.ok (.ref (μ.length + 1)) (μ++[.obj "Machine" ns ds]++[.dic [] []]):=fun ns ds=>by
  unfold Ek
  rw [List.append_nil,List.length_append]
  rfl
 have em:mac μ 0 0 [] [] 0 0 .non=μ++[.obj "Machine" nms [.int 0,.int 0,.ref (μ.length + 1),.int 0,.int 0,.non]]++[.dic [] []]:=by
  unfold mac
  rw [List.append_assoc]
  rfl
 rw [em]
 exact Ys 0 ((v_seqN (i_set rfl rfl (by decide +kernel) rfl (by decide))).trans ((v_seqN (i_set rfl rfl (by decide +kernel) rfl (by decide))).trans ((v_seqN (i_set rfl (ed _ _) (by decide +kernel) rfl (by decide))).trans ((v_seqN (i_set rfl rfl (by decide +kernel) rfl (by decide))).trans ((v_seqN (i_set rfl rfl (by decide +kernel) rfl (by decide))).trans (i_set rfl rfl (by decide +kernel) rfl (by decide)))))))
theorem as3 (i:Nat) {μ μ0:Mu} {h o:Int} {ks:List DK} {ds:List D} {p n:Int} {t:D} {ρ:En} {mo:MX} {nm:Str} {v:D} (hm:mo ρ μ=.ok (.ref μ0.length) (mac μ0 h o ks ds p n t)) (hn:nms[i]? =some nm) (hv:([.int h,.int o,.ref (μ0.length + 1),.int p,.int n,t]:List D)[i]? =some v) :
  Jl okM nm mo ρ μ=.ok v (mac μ0 h o ks ds p n t):=by
 unfold Jl
 rw [hm,bind_ok,qy]
 show ofO _ (zi nm nms ([.int h,.int o,.ref (μ0.length + 1),.int p,.int n,t]:List D))=_
 rw [xg (ds:=([.int h,.int o,.ref (μ0.length + 1),.int p,.int n,t]:List D)) Vl rfl hn,hv]
 rfl
section
variable {F:Cd} {bs:List Int}
theorem yh:∀ (b:B) (y n:Nat) (C:Cd),∃ L,cT b y n C=L++C
 | .tru b,y,n,C=>⟨[_],rfl⟩
 | .nt a,y,n,C=>yh a n y C
 | .both a b,y,n,C=>by
  obtain ⟨L,e⟩:=yh b y n C
  obtain ⟨L',e'⟩:=yh a (cT b y n C).length n (cT b y n C)
  exact ⟨L'++L,by simp only [cT];rw [e',e,List.append_assoc]⟩
 | .eith a b,y,n,C=>by
  obtain ⟨L,e⟩:=yh b y n C
  obtain ⟨L',e'⟩:=yh a y (cT b y n C).length (cT b y n C)
  exact ⟨L'++L,by simp only [cT];rw [e',e,List.append_assoc]⟩
 | .cmp x a b,y,n,C=>⟨cN a 0++(Ji 0,0)::(cN b 1++[(uz,1),(J9 0,1),(Vx x (C.length - y) (C.length - n),0)]),by simp [cT]⟩
theorem Xp {p:Nat} {L C:Cd} (h:F.drop p=L++C) (hp:p≤F.length):F.drop (F.length - C.length)=C∧F.length=p + L.length + C.length:=by
 have hl:F.length - p=L.length + C.length:=by rw [← List.length_drop,h,List.length_append]
 have e:F.length - C.length=p + L.length:=by omega
 exact ⟨by rw [e];exact Y7 h,by omega⟩
theorem Yj (hB:zr bs) (hF:F.length≤9000):∀ (b:B) (y n:Nat) (C:Cd) (a:S5),b.ok→b.fits→F.drop a.p=cT b y n C→a.p≤F.length→y≤C.length→n≤C.length→Gd a →
  (b.ev bs=.non→MT F bs (F.length - a.p) a 0)∧∀ k,b.ev bs=.bl k→∃ c s,MR F bs c a s∧Gd s∧s.p=F.length - (if k then y else n)∧c + a.p≤s.p
 | .tru b,y,n,C,a,h,hf,hd,hp,hy,hn,G=>by
  refine ⟨fun z=>(by cases z),fun k hk=>?_⟩
  have hk:b=k:=D.bl.inj hk
  subst hk
  obtain ⟨g1,g2⟩:=ua (F:=F) (e:=(ei (C.length - (if b then y else n)),0)) (X:=C) hd
  obtain ⟨_,hl⟩:=Xp (F:=F) (L:=[(ei (C.length - (if b then y else n)),0)]) (C:=C) hd hp
  have hl:F.length=a.p + 1 + C.length:=hl
  have hz:(if b then y else n)≤C.length:=by split <;> assumption
  have hk:=G.kl
  refine ⟨1,_,mr1 g1 A7,⟨G.toIn,by show a.ks.length≤a.p + 1 + (C.length - (if b then y else n));omega⟩,?_,?_⟩
  ·show a.p + 1 + (C.length - (if b then y else n))=_
   omega
  ·show 1 + a.p≤a.p + 1 + (C.length - (if b then y else n))
   omega
 | .nt u,y,n,C,a,h,hf,hd,hp,hy,hn,G=>by
  obtain ⟨f1,r1⟩:=Yj hB hF u n y C a h hf hd hp hn hy G
  simp only [B.ev]
  rcases B.bl_ev hB u h with e | ⟨k,e⟩
  ·rw [e]
   exact ⟨fun _=>f1 e,fun k z=>(by cases z)⟩
  ·rw [e]
   refine ⟨fun z=>(by cases z),fun k' hk=>?_⟩
   have hk:(!k)=k':=D.bl.inj hk
   subst hk
   obtain ⟨c,s,h1,h2,h3,h4⟩:=r1 k e
   exact ⟨c,s,h1,h2,by rw [h3];cases k <;> rfl,h4⟩
 | .both u v,y,n,C,a,h,hf,hd,hp,hy,hn,G=>by
  obtain ⟨L,eL⟩:=yh v y n C
  have hvl:C.length≤(cT v y n C).length:=by rw [eL,List.length_append];omega
  obtain ⟨L',eL'⟩:=yh u (cT v y n C).length n (cT v y n C)
  obtain ⟨f1,r1⟩:=Yj hB hF u (cT v y n C).length n (cT v y n C) a h.1 hf.1 hd hp (Nat.le_refl _) (by omega) G
  obtain ⟨hs,hlen⟩:=Xp (F:=F) (C:=cT v y n C) (hd.trans eL') hp
  simp only [B.ev]
  rcases B.bl_ev hB u h.1 with e | ⟨k,e⟩
  ·rw [e]
   exact ⟨fun _=>f1 e,fun k z=>(by cases z)⟩
  ·rw [e]
   obtain ⟨c,s,h1,h2,h3,h4⟩:=r1 k e
   cases k with
   | false =>
    refine ⟨fun z=>(by cases z),fun k' hk=>?_⟩
    have hk:false=k':=D.bl.inj hk
    subst hk
    exact ⟨c,s,h1,h2,h3,h4⟩
   | true =>
    have h3:s.p=F.length - (cT v y n C).length:=h3
    obtain ⟨f2,r2⟩:=Yj hB hF v y n C s h.2 hf.2 (by rw [h3];exact hs) (by omega) hy hn h2
    refine ⟨fun z=>(h1.tell (f2 z)).more (by omega),fun k' hk=>?_⟩
    obtain ⟨c',s',g1,g2,g3,g4⟩:=r2 k' hk
    exact ⟨c + c',s',h1.then g1,g2,g3,by omega⟩
 | .eith u v,y,n,C,a,h,hf,hd,hp,hy,hn,G=>by
  obtain ⟨L,eL⟩:=yh v y n C
  have hvl:C.length≤(cT v y n C).length:=by rw [eL,List.length_append];omega
  obtain ⟨L',eL'⟩:=yh u y (cT v y n C).length (cT v y n C)
  obtain ⟨f1,r1⟩:=Yj hB hF u y (cT v y n C).length (cT v y n C) a h.1 hf.1 hd hp (by omega) (Nat.le_refl _) G
  obtain ⟨hs,hlen⟩:=Xp (F:=F) (C:=cT v y n C) (hd.trans eL') hp
  simp only [B.ev]
  rcases B.bl_ev hB u h.1 with e | ⟨k,e⟩
  ·rw [e]
   exact ⟨fun _=>f1 e,fun k z=>(by cases z)⟩
  ·rw [e]
   obtain ⟨c,s,h1,h2,h3,h4⟩:=r1 k e
   cases k with
   | true =>
    refine ⟨fun z=>(by cases z),fun k' hk=>?_⟩
    have hk:true=k':=D.bl.inj hk
    subst hk
    exact ⟨c,s,h1,h2,h3,h4⟩
   | false =>
    have h3:s.p=F.length - (cT v y n C).length:=h3
    obtain ⟨f2,r2⟩:=Yj hB hF v y n C s h.2 hf.2 (by rw [h3];exact hs) (by omega) hy hn h2
    refine ⟨fun z=>(h1.tell (f2 z)).more (by omega),fun k' hk=>?_⟩
    obtain ⟨c',s',g1,g2,g3,g4⟩:=r2 k' hk
    exact ⟨c + c',s',h1.then g1,g2,g3,by omega⟩
 | .cmp x u v,y,n,C,a,h,hf,hd,hp,hy,hn,G=>by
  have hd':F.drop a.p=cN u 0++(Ji 0,0)::(cN v 1++(uz,1)::(J9 0,1)::(Vx x (C.length - y) (C.length - n),0)::C):=hd
  obtain ⟨_,hlen⟩:=Xp (F:=F) hd' hp
  simp only [List.length_cons,List.length_append] at hlen
  obtain ⟨f1,r1⟩:=Xe hB hF u 0 _ a h.2.1 (by have:=hf.1;omega) hd' G
  simp only [B.ev]
  rcases N.num_ev hB u h.2.1 with e | ⟨i,e,i0,i1⟩
  ·rw [e]
   exact ⟨fun _=>(f1 e).more (by omega),fun i z=>(by cases z)⟩
  ·rw [e]
   obtain ⟨b,rb,gb,hbh,hbp,hbl⟩:=r1 i e
   have hd2:=Y7 hd'
   rw [← hbp] at hd2
   obtain ⟨g1,g2⟩:=ua hd2
   have hkb:=gb.kl
   have m1:=mr1 (h:=b.h) (o:=b.o) (ks:=b.ks) (ds:=b.ds) g1 (e9 (bs:=bs) (by omega) (by decide))
   have gb2:Gd ⟨b.p + 1 + 0,b.h,b.o,pK b.ks (.inl ((0:Nat):Int)),pD b.ks b.ds (.inl ((0:Nat):Int)) (.int b.h)⟩:=⟨⟨gb.h0,gb.h1,gb.o0,gb.o1,gb.sl.put _ ⟨b.h,rfl,gb.h0,gb.h1⟩⟩,by have:=B0 b.ks (.inl ((0:Nat):Int));show (pK b.ks (.inl ((0:Nat):Int))).length≤b.p + 1 + 0;omega⟩
   obtain ⟨f3,r3⟩:=Xe hB hF v 1 _ _ h.2.2 (by have:=hf.2;omega) (show F.drop (b.p + 1 + 0)=_ from g2) gb2
   rcases N.num_ev hB v h.2.2 with e' | ⟨j,e',j0,j1⟩
   ·rw [e']
    exact ⟨fun _=>((rb.then m1).tell (f3 e')).more (by omega),fun i z=>(by cases z)⟩
   ·rw [e']
    obtain ⟨c,rc,gc,hch,hcp,hcl⟩:=r3 j e'
    have hcp:c.p=b.p + 1 + 0 + (cN v 1).length:=hcp
    have hd4:=Y7 (show F.drop (b.p + 1 + 0)=_ from g2)
    rw [← hcp] at hd4
    obtain ⟨k1,k2⟩:=ua hd4
    obtain ⟨k3,k4⟩:=ua k2
    obtain ⟨k5,k6⟩:=ua k4
    have n1:=mr1 (h:=c.h) (o:=c.o) (ks:=c.ks) (ds:=c.ds) k1 (fw (bs:=bs))
    have hlk:jc c.ks c.ds (.inl ((0:Nat):Int))=some (.int i):=by
     have:=hcl 0 (by decide)
     rw [this]
     show jc (pK b.ks (.inl ((0:Nat):Int))) (pD b.ks b.ds (.inl ((0:Nat):Int)) (.int b.h)) (.inl ((0:Nat):Int))=_
     rw [wy gb.sl.len,if_pos rfl,hbh]
    have n2:=mr1 (h:=c.h) (o:=c.h) (ks:=c.ks) (ds:=c.ds) k3 (Kj (bs:=bs) (s:=0) (by decide) hlk)
    refine ⟨fun z=>(by cases z),fun k hk=>?_⟩
    have hk':cp x i c.h=.bl k:=by rw [hch];exact hk
    have n3:=mr1 (F:=F) (bs:=bs) (h:=i) (o:=c.h) (ks:=c.ks) (ds:=c.ds) k5 (aa8 h.1 hk')
    have hkc:=gc.kl
    have hz:(if k then C.length - y else C.length - n)=C.length - (if k then y else n):=by cases k <;> rfl
    rw [hz] at n3
    have hzz:(if k then y else n)≤C.length:=by split <;> assumption
    refine ⟨_,_,((((rb.then m1).then rc).then n1).then n2).then n3,⟨⟨i0,i1,gc.h0,gc.h1,gc.sl⟩,?_⟩,?_,?_⟩
    ·show c.ks.length≤c.p + 1 + 0 + 1 + 0 + 1 + (C.length - (if k then y else n))
     omega
    ·show c.p + 1 + 0 + 1 + 0 + 1 + (C.length - (if k then y else n))=_
     omega
    ·show _≤c.p + 1 + 0 + 1 + 0 + 1 + (C.length - (if k then y else n))
     omega
noncomputable def tk:D→Bool
 | .bl b=>b
 | _=>false
theorem v_new {cs:List D} {μ:Mu}:ag7 "Machine" Jo mNil [some (.lst cs),some (pk bs),none] μ=.ok (.ref μ.length) (mac μ 0 0 [] [] 0 0 .non):=by
 show Bv "Machine" Jo [] μ=_
 unfold Bv
 rw [a37]
 rfl
theorem ab6 (hB:zr bs) {b:B} (h:b.ok) (hf:b.fits) (hl:(Ja b).length≤2000) (μ:Mu):∃ μ',qp [.lst ((Ja b).map Prod.fst),pk bs] μ=.ok (.int (if tk (b.ev bs) then 1 else 0)) μ':=by
 have G:Gd ⟨0,0,0,[],[]⟩:=⟨⟨by decide,by decide,by decide,by decide,⟨rfl,fun q d h=>by cases h⟩⟩,Nat.le_refl _⟩
 obtain ⟨f1,r1⟩:=Yj (F:=Ja b) hB (by omega) b 2 1 C0 ⟨0,0,0,[],[]⟩ h hf rfl (Nat.zero_le _) (by decide) (by decide) G
 obtain ⟨L,eL⟩:=yh b 2 1 C0
 obtain ⟨hs,hlen⟩:=Xp (F:=Ja b) (p:=0) (C:=C0) eL (Nat.zero_le _)
 have hlen:(Ja b).length=0 + L.length + 2:=hlen
 have hs:(Ja b).drop ((Ja b).length - 2)=C0:=hs
 obtain ⟨e1,e2⟩:=ua hs
 obtain ⟨e3,_⟩:=ua e2
 have fin:∀ t:Int,MT (Ja b) bs 2050 ⟨0,0,0,[],[]⟩ t→∃ μ',qp [.lst ((Ja b).map Prod.fst),pk bs] μ=.ok (.int t) μ':=fun t ht=>by
  obtain ⟨h',o',ks',ds',g,m,e⟩:=ht μ 49 0
  have ee:Qs [.lst ((Ja b).map Prod.fst),pk bs] μ=.ok (.ref μ.length) (mac μ h' o' ks' ds' g m (.int t)):=Jy 1 ((v_set 2 v_new).trans ((v_seqN e).trans (v_ret rfl)))
  exact ⟨_,Jy 0 (v_ret (as3 5 (v_call rfl ee) rfl rfl))⟩
 rcases B.bl_ev hB b h with e | ⟨k,e⟩
 ·rw [e]
  exact fin 0 ((f1 e).more (by omega))
 ·rw [e]
  obtain ⟨c,s,h1,h2,h3,h4⟩:=r1 k e
  have h4:c + 0≤s.p:=h4
  cases k with
  | true =>
   have h3:s.p=(Ja b).length - 2:=h3
   exact fin 1 ((h1.tell (mt1 (h:=s.h) (o:=s.o) (ks:=s.ks) (ds:=s.ds) (by rw [h3];exact e1) (e7 (i:=1) (by decide) (by decide)))).more (by omega))
  | false =>
   have h3:s.p=(Ja b).length - 2 + 1:=by rw [h3];show (Ja b).length - 1=_;omega
   exact fin 0 ((h1.tell (mt1 (h:=s.h) (o:=s.o) (ks:=s.ks) (ds:=s.ds) (by rw [h3];exact e3) (e7 (i:=0) (by decide) (by decide)))).more (by omega))
end
end K21
set_option Elab.async false
set_option linter.all false
set_option maxRecDepth 100000
set_option maxHeartbeats 400000
namespace K21
open PySem PySem.Spec PyProof.Rows L2 M
noncomputable abbrev pEl:MX:=mBin ux (mBin Ul (jq yx (mCons (mVar 1) (mCons (mBin uc (mBin uc (mVar 2) (mC (.int 1))) (mBin ux (mVar 0) (mC (.int 40)))) mNil))) (mBin uc (mC (.int 1)) (mVar 0))) (mC (.int 256))
theorem ba (ns:List Int) (b:Nat) (μ:Mu):∀ (m p:Nat),p + m < 1000→∀ (a:Option D) (acc:List D),∃ bs:List Int,u8 (gN 0) mTT pEl (iL (List.range' p m)) [a,some (sc ns),some (.int b)] μ acc=.ok (acc++bs.map .int) μ∧bs.length=m∧∀ i∈bs,0≤i∧i < 256
 | 0,p,_,a,acc=>⟨[],by simp [u8,iL],rfl,fun _ h=>by simp at h⟩
 | m + 1,p,hp,a,acc=>by
  have e1:pEl [some (.int p),some (sc ns),some (.int b)] μ=.ok (.int (mix ns (b + 1 + p % 40) / (1 + (p:Int)) % 256)) μ:=by
   refine v_bin (x:=.int (mix ns (b + 1 + p % 40) / (1 + (p:Int)))) (v_bin (x:=.int (mix ns (b + 1 + p % 40))) (y:=.int (1 + (p:Int))) (v_call (v_cons rfl (v_cons (v_bin (x:=.int ((b:Int) + 1)) (y:=.int ((p:Int) % 40)) (z:=.int ((b:Int) + 1 + (p:Int) % 40)) rfl (v_bin rfl rfl (Uf _ _ (by decide))) rfl) v_nil)) (Q7 ns (b + 1 + p % 40) (by omega) μ)) rfl (Y4 _ _ (by omega) (by omega))) rfl (Uf _ _ (by decide))
  obtain ⟨ds,ih,hl,hb⟩:=ba ns b μ m (p + 1) (by omega) (some (.int p)) (acc++[.int (mix ns (b + 1 + p % 40) / (1 + (p:Int)) % 256)])
  refine ⟨(mix ns (b + 1 + p % 40) / (1 + (p:Int)) % 256)::ds,?_,by rw [List.length_cons,hl],List.forall_mem_cons.mpr ⟨⟨Int.emod_nonneg _ (by decide),Int.emod_lt_of_pos _ (by decide)⟩,hb⟩⟩
  rw [Vd]
  refine (Yk (ds:=iL (List.range' (p + 1) m)) rfl e1).trans (ih.trans ?_)
  rw [List.append_assoc,List.singleton_append]
  rfl
theorem Dj (ns:List Int) (b:Nat) (μ:Mu):∃ bs,zw [sc ns,.int b] μ=.ok (pk bs) μ∧zr bs:=by
 obtain ⟨d,hd,e⟩:=Xt (ρ:=[some (sc ns),some (.int b),none]) (μ:=μ) (m:=jq yx (mCons (mVar 0) (mCons (mVar 1) mNil))) (L:=[.int 0,.int 1,.int 3,.int 20,.int 34,.int 60]) (ms:=mCons (mC (.int 0)) (mCons (mC (.int 1)) (mCons (mC (.int 3)) (mCons (mC (.int 20)) (mCons (mC (.int 34)) (mCons (mC (.int 60)) mNil)))))) (n:=6) rfl (v_call rfl (Q7 ns b rfl μ)) rfl (by decide)
 have hk:∃ k:Nat,d=.int k∧k≤60:=by
  simp only [List.mem_cons,List.not_mem_nil,or_false] at hd
  rcases hd with rfl | rfl | rfl | rfl | rfl | rfl
  ·exact ⟨0,rfl,by decide⟩
  ·exact ⟨1,rfl,by decide⟩
  ·exact ⟨3,rfl,by decide⟩
  ·exact ⟨20,rfl,by decide⟩
  ·exact ⟨34,rfl,by decide⟩
  ·exact ⟨60,rfl,by decide⟩
 obtain ⟨k,rfl,hk⟩:=hk
 obtain ⟨ds,ec,hl,hb⟩:=ba ns b μ k 0 (by omega) none []
 refine ⟨ds,Jy 1 ((v_set 2 e).trans (v_ret ?_)),hb,by omega⟩
 unfold vn
 rw [Fd (n:=k) rfl (by omega),bind_ok,if_pos (by rw [iL,List.length_map,List.length_range'];omega)]
 show (u8 (gN 0) mTT pEl _ [none,some (sc ns),some (.int b)] μ []).bind _=_
 rw [ec]
 rfl
theorem am3 {v:D} (h:v=.non∨∃ b,v=.bl b):(sv v == 1)=tk v:=by
 rcases h with rfl | ⟨b,rfl⟩
 ·rfl
 ·cases b <;> rfl
end K21
set_option Elab.async false
set_option linter.all false
set_option maxRecDepth 100000
set_option maxHeartbeats 400000
namespace K21
open PySem PySem.Spec PyProof.Rows L2 M
section
variable {ρ:En} {μ μ1 μ2:Mu} {x:Exc} {m ma mb mo:MX} {ms:MAs} {n r a b:MSt} {t:MB} {φ:Fn} {d:D} {ds:List D} {g:G2}
theorem a93 (j:Nat) (h:n (ds.map some++List.replicate j none) μ=.exc x μ1):fnOf j n ds μ=.exc x μ1:=by rw [Zw,h];rfl
theorem Cu (h:n ρ μ=.exc x μ1):jz n r ρ μ=.exc x μ1:=by unfold jz;rw [h];rfl
theorem ak3 (h:m ρ μ=.exc x μ1):je m ρ μ=.exc x μ1:=by unfold je;rw [h];rfl
theorem x_drop (h:m ρ μ=.exc x μ1):u2 m ρ μ=.exc x μ1:=by unfold u2;rw [h];rfl
theorem a94 (h:m ρ μ=.exc x μ1):mCons m ms ρ μ=.exc x μ1:=by rw [Zv,h];rfl
theorem a95 (h:ms ρ μ=.exc x μ1):jq φ ms ρ μ=.exc x μ1:=by unfold jq;rw [h];rfl
theorem ak6 (h:ma ρ μ=.exc x μ1):mBin g ma mb ρ μ=.exc x μ1:=by unfold mBin;rw [h];rfl
theorem x_ext (ho:mo ρ μ=.ok d μ) (hd:Qd (j9 μ d)=true) (h:m ρ μ=.exc x μ1):yn mo m ρ μ=.exc x μ1:=by unfold yn;rw [ho,bind_ok,if_pos hd,h];rfl
end
noncomputable def CX (t0:Option D) (μ0:Mu) (c:Nat) (C:Cd) (W:List D):Prop:=∀ k x3,∃ μ',yg tC Jg (k + c) (eC t0 μ0 x3) (pm μ0 (md C) W)=.exc ⟨0,.non⟩ μ'
section
variable {t0:Option D} {μ0:Mu} {W W':List D} {C C':Cd} {c c1 c2:Nat}
theorem CX.more (a:CX t0 μ0 c C W) (h:c≤c2):CX t0 μ0 c2 C W:=fun k x3=>by
 obtain ⟨μ',e⟩:=a (k + (c2 - c)) x3
 refine ⟨μ',?_⟩
 rw [← e,show k + (c2 - c) + c=k + c2 by omega]
theorem CR.exc (a:CR t0 μ0 c1 C W C' W') (b:CX t0 μ0 c2 C' W'):CX t0 μ0 (c1 + c2) C W:=fun k x3=>by
 obtain ⟨y3,e1⟩:=a (k + c2) x3
 obtain ⟨μ',e2⟩:=b k y3
 exact ⟨μ',by rw [show k + (c1 + c2)=k + c2 + c1 by omega,e1,e2]⟩
theorem ak4 {t:D} (h:∀ x3,∃ μ',Jg (eC t0 μ0 x3) (pm μ0 (md C) (W++[t]))=.exc ⟨0,.non⟩ μ'):CX t0 μ0 1 C (W++[t]):=fun k x3=>by
 obtain ⟨μ',h⟩:=h x3
 refine ⟨μ',?_⟩
 have tt:tC (eC t0 μ0 x3) (pm μ0 (md C) (W++[t]))=.ok true (pm μ0 (md C) (W++[t])):=by
  refine jm (v_bin (Bg rfl) rfl ?_)
  rw [deref_int,deref_int,k9,decide_eq_true (by rw [List.length_append,List.length_singleton];omega)]
 rw [yg,tt,bind_ok,if_pos rfl,h]
 rfl
theorem bb {x:List Nat} {a b:D} {s:Nat} (hs:8≤s) (μ:Mu):Jq [.tup [.str x,a,b],.int s] μ=.exc ⟨0,.non⟩ μ:=by
 refine a93 0 (Cu ((v_iteT (jm (v_bin (y:=.int 8) rfl rfl ?_))).trans rfl))
 rw [deref_int,deref_int,Wf,decide_eq_true (by omega)]
theorem af0 {x:List Nat} {a b:D} {s:Nat} (hx:x∈opL) (hs:8≤s) (μ:Mu):J6 [.tup [.str x,a,b],.int s] μ=.exc ⟨0,.non⟩ μ:=a93 0 ((E8 hx).trans (Cu (ak3 (ak6 (v_callX rfl (bb hs μ))))))
theorem ak5 {a:D} {s:Nat} (e:∀ μ,J6 [a,.int s] μ=.exc ⟨0,.non⟩ μ):CX t0 μ0 1 C (W++[kN a s]):=ak4 fun x3=>⟨_,(v_set 3 (pop_v rfl)).trans ((v_iteF rfl).trans ((v_iteT rfl).trans (x_drop (x_ext rfl (by rw [dr_v];rfl) (v_callX rfl (e _))))))⟩
theorem Kq:∀ (a:N) (s:Nat) (C:Cd) (W:List D),a.ok→s≤8→8 < s + a.need→C.length + a.co≤9000→W.length + 2 * a.co≤9000→CX t0 μ0 a.co C (W++[kN a.d s])
 | .num k,s,C,W,h,h8,hn,hc,hw=>absurd hn (by simp only [N.need];omega)
 | .len,s,C,W,h,h8,hn,hc,hw=>absurd hn (by simp only [N.need];omega)
 | .load z a,s,C,W,h,h8,hn,hc,hw=>by
  simp only [N.co] at hc hw ⊢
  have:=(G0 (z:=z) (by omega) (by omega)).exc (Kq a s ((uz,s)::(Yi z,s)::C) W h.2 h8 hn (by simp;omega) (by omega))
  exact this.more (by omega)
 | .op x a b,s,C,W,h,h8,hn,hc,hw=>by
  simp only [N.co] at hc hw ⊢
  have hn:8 < s + max a.need (1 + b.need):=hn
  by_cases h0:s=8
  ·exact (ak5 fun μ=>af0 h.1 (by omega) μ).more (by omega)
  ·have p:=B3 (t0:=t0) (μ0:=μ0) (C:=C) (W:=W) (a:=a) (b:=b) h.1 (show s < 8 by omega) (by omega) (by omega)
   by_cases hb:8 < s + 1 + b.need
   ·exact (p.exc (Kq b (s + 1) _ _ h.2.2 (by omega) hb (by simp;omega) (by simp;omega))).more (by omega)
   ·obtain ⟨rb,lb⟩:=Xa (t0:=t0) (μ0:=μ0) b (s + 1) ((uz,s + 1)::(J9 s,s + 1)::(zk x,s)::C) (W++[kN a.d s,kS (Ji s)]) h.2.2 (by omega) (by simp;omega) (by simp;omega)
    exact (((p.then rb).then (xi (by simp;omega))).exc (Kq a s _ W h.2.1 h8 (by omega) (by simp;omega) (by omega))).more (by omega)
theorem Kz {x:List Nat} {a b:N} (h:(B.cmp x a b).ok) (hf:¬ (B.cmp x a b).fits) (hc:a.co + b.co≤1000) (μ:Mu):∃ μ',um [(B.cmp x a b).d] μ=.exc ⟨0,.non⟩ μ':=by
 have hf:¬ (a.need≤8∧b.need≤7):=hf
 have p:=df (t0:=some (B.cmp x a b).d) (μ0:=μ) (C:=C0) (W:=[]) (a:=a) (b:=b) (y:=2) (n:=1) h.1 (by decide) (by decide) (by simp [C0]) (by simp)
 have fin:CX (some (B.cmp x a b).d) μ (a.co + b.co + 10) C0 ([]++[kT (B.cmp x a b).d 2 1]):=by
  by_cases hb:8 < 1 + b.need
  ·exact (p.exc (Kq b 1 _ _ h.2.2 (by omega) hb (by simp [C0];omega) (by simp;omega))).more (by omega)
  ·obtain ⟨rb,lb⟩:=Xa (t0:=some (B.cmp x a b).d) (μ0:=μ) b 1 ((uz,1)::(J9 0,1)::(Vx x (C0.length - 2) (C0.length - 1),0)::C0) ([]++[kN a.d 0,kS (Ji 0)]) h.2.2 (by omega) (by simp [C0];omega) (by simp;omega)
   exact (((p.then rb).then (xi (s:=0) (by simp [C0];omega))).exc (Kq a 0 _ _ h.2.1 (by omega) (by omega) (by simp [C0];omega) (by simp;omega))).more (by omega)
 obtain ⟨μ',e⟩:=fin (3000 - (a.co + b.co + 10)) none
 rw [show 3000 - (a.co + b.co + 10) + (a.co + b.co + 10)=3000 by omega] at e
 exact ⟨μ',a93 3 ((vc (b:=B.cmp x a b) μ).trans (Cu e))⟩
end
theorem At (k:Nat):yo (k + 1) 0=fnOf 0 (Ks (yo k)):=rfl
theorem opI:∀ x∈opL,gIn (.str x) (.tup [.str J1,.str Ug])=some (.bl false):=Vr ⟨rfl,rfl,rfl,rfl,rfl,rfl,rfl,rfl,rfl,rfl⟩
theorem cpI:∀ x∈cpL,gIn (.str x) (.tup [.str J1,.str Ug])=some (.bl false)∧gEq (.str x) (.str Uw)=some (.bl false):=Qr ⟨⟨rfl,rfl⟩,⟨rfl,rfl⟩,⟨rfl,rfl⟩,⟨rfl,rfl⟩,⟨rfl,rfl⟩,⟨rfl,rfl⟩⟩
theorem vz {x:List Nat} {a b:D} {i j:Nat} {R:Nat→Fn} {μ:Mu} (g1:gIn (.str x) (.tup [.str J1,.str Ug])=some (.bl false)) (g2:gEq (.str x) (.str Uw)=some (.bl false)) (ha:R 0 [a] μ=.ok (.int i) μ) (hb:R 0 [b] μ=.ok (.int j) μ) :
  fnOf 0 (Ks R) [.tup [.str x,a,b]] μ=.ok (.int ((max i (1 + j):Nat):Int)) μ:=by
 refine Jy 0 ((v_skip (jm (v_bin (x:=.str x) (v_bin (x:=.tup [.str x,a,b]) rfl rfl (U2 _ _)) rfl g1))).trans ((v_skip (jm (v_bin (x:=.str x) (v_bin (x:=.tup [.str x,a,b]) rfl rfl (U2 _ _)) rfl g2))).trans (v_ret (Ue (ds:=[.int i,.int (1 + j)]) (v_cons (v_call rfl ha) (v_cons (v_bin (x:=.int 1) rfl (v_call rfl hb) rfl) v_nil)) ?_))))
 show some (D.int (if (1 + (j:Int)) > i then 1 + (j:Int) else i))=_
 refine congrArg (fun i=>some (D.int i)) ?_
 split <;> omega
theorem q9:∀ (a:N) (k:Nat),a.ok→a.dp≤k→∀ μ,yo k 0 [a.d] μ=.ok (.int a.need) μ
 | a,0,h,hk,μ=>absurd hk (by cases a <;> simp [N.dp])
 | .num i,k + 1,h,hk,μ=>by rw [At];exact Jy 0 (v_take rfl rfl)
 | .len,k + 1,h,hk,μ=>by rw [At];exact Jy 0 (v_take rfl rfl)
 | .load s a,k + 1,h,hk,μ=>by
  rw [At]
  exact Jy 0 ((v_skip rfl).trans (v_take rfl (v_call rfl (q9 a k h.2 (by simp only [N.dp] at hk;omega) μ))))
 | .op x a b,k + 1,h,hk,μ=>by
  rw [At]
  have hk':max a.dp b.dp + 1≤k + 1:=hk
  exact vz (opI x h.1) (opN x h.1).2.2 (q9 a k h.2.1 (by omega) μ) (q9 b k h.2.2 (by omega) μ)
end K21
set_option Elab.async false
set_option linter.all false
set_option maxRecDepth 100000
set_option maxHeartbeats 400000
namespace K21
open PySem PySem.Spec PyProof.Rows L2 M
structure Fi (a:N) (c d:Nat):Prop where
 ok:a.ok
 co:a.co≤c
 dp:a.dp≤d
theorem leaf {ns:List Int} {a:D} {k n:Int} {x4 x5 x6 x7 x8 x9:Option D} (h0:0≤n) (μ:Mu):∃ l:N,Fi l 2 1∧mBin gIdx (yt (mCons (jf (mCons (mC (.str J1)) (mCons (mBin ux (mBin Ul (mVar 3) (mC (.int 8))) (mC (.int 30))) mNil))) (mCons (jf (mCons (mC (.str Ug)) mNil)) mNil))) (mBin ux (mVar 3) (mC (.int 2))) [some (sc ns),some a,some (.int k),some (.int n),x4,x5,x6,x7,x8,x9] μ=.ok l.d μ:=by
 obtain ⟨d,hd,e⟩:=Xt (ρ:=[some (sc ns),some a,some (.int k),some (.int n),x4,x5,x6,x7,x8,x9]) (μ:=μ) (m:=mVar 3) (L:=[(N.num (n / 8 % 30)).d,N.len.d]) (n:=2) (ms:=mCons (jf (mCons (mC (.str J1)) (mCons (mBin ux (mBin Ul (mVar 3) (mC (.int 8))) (mC (.int 30))) mNil))) (mCons (jf (mCons (mC (.str Ug)) mNil)) mNil)) (v_cons (Wa (v_cons rfl (v_cons (Fc (Fb (x:=3) rfl (by decide) (by decide)) (by decide)) v_nil))) (v_cons rfl v_nil)) (v_var 3 rfl) rfl (by decide)
 simp only [List.mem_cons,List.not_mem_nil,or_false] at hd
 rcases hd with rfl | rfl
 ·exact ⟨.num (n / 8 % 30),⟨by show 0≤n / 8 % 30∧n / 8 % 30 < 4294967296;omega,Nat.le_refl _,Nat.le_refl _⟩,e⟩
 ·exact ⟨.len,⟨trivial,Nat.le_refl _,Nat.le_refl _⟩,e⟩
theorem ae1 {ns:List Int} {a l:D} {k n:Int} {x5 x6 x7 x8 x9:Option D} (μ:Mu):∃ x∈opL,mBin gIdx (yt (mCons (mC (.str Jz)) (mCons (mC (.str Js)) (mCons (mC (.str J0)) (mCons (mC (.str u9)) mNil))))) (mBin ux (mBin Ul (mVar 3) (mC (.int 2))) (mC (.int 4))) [some (sc ns),some a,some (.int k),some (.int n),some l,x5,x6,x7,x8,x9] μ=.ok (.str x) μ:=by
 obtain ⟨d,hd,e⟩:=Xt (ρ:=[some (sc ns),some a,some (.int k),some (.int n),some l,x5,x6,x7,x8,x9]) (μ:=μ) (m:=mBin Ul (mVar 3) (mC (.int 2))) (L:=[.str Jz,.str Js,.str J0,.str u9]) (n:=4) (ms:=mCons (mC (.str Jz)) (mCons (mC (.str Js)) (mCons (mC (.str J0)) (mCons (mC (.str u9)) mNil)))) rfl (Fb (x:=3) rfl (by decide) (by decide)) rfl (by decide)
 simp only [List.mem_cons,List.not_mem_nil,or_false] at hd
 rcases hd with rfl | rfl | rfl | rfl
 all_goals exact ⟨_,by simp [opL],e⟩
theorem aj6 {ns:List Int} {a l:N} {c d:Nat} (ha:Fi a c d) (hd1:1≤d) (hl:Fi l 2 1) {x:List Nat} (hx:x∈opL) {k n:Int} {x6 x7 x8 x9:Option D} (μ:Mu):∃ a':N,Fi a' (c + 7) (d + 1)∧mBin gIdx (yt (mCons (jf (mCons (mVar 5) (mCons (mVar 4) (mCons (mVar 1) mNil)))) (mCons (jf (mCons (mVar 5) (mCons (mVar 4) (mCons (mVar 1) mNil)))) (mCons (jf (mCons (mVar 5) (mCons (mVar 1) (mCons (mVar 4) mNil)))) mNil)))) (mBin ux (mBin Ul (mVar 3) (mC (.int 8))) (mC (.int 3))) [some (sc ns),some a.d,some (.int k),some (.int n),some l.d,some (.str x),x6,x7,x8,x9] μ=.ok a'.d μ:=by
 obtain ⟨d',hd,e⟩:=Xt (ρ:=[some (sc ns),some a.d,some (.int k),some (.int n),some l.d,some (.str x),x6,x7,x8,x9]) (μ:=μ) (m:=mBin Ul (mVar 3) (mC (.int 8))) (L:=[(N.op x l a).d,(N.op x l a).d,(N.op x a l).d]) (n:=3) (ms:=mCons (jf (mCons (mVar 5) (mCons (mVar 4) (mCons (mVar 1) mNil)))) (mCons (jf (mCons (mVar 5) (mCons (mVar 4) (mCons (mVar 1) mNil)))) (mCons (jf (mCons (mVar 5) (mCons (mVar 1) (mCons (mVar 4) mNil)))) mNil))) rfl (Fb (x:=3) rfl (by decide) (by decide)) rfl (by decide)
 have h1:=ha.co
 have h2:=ha.dp
 have h3:=hl.co
 have h4:=hl.dp
 have f1:Fi (.op x l a) (c + 7) (d + 1):=⟨⟨hx,hl.ok,ha.ok⟩,by show l.co + a.co + 5≤_;omega,by show max l.dp a.dp + 1≤_;omega⟩
 have f2:Fi (.op x a l) (c + 7) (d + 1):=⟨⟨hx,ha.ok,hl.ok⟩,by show a.co + l.co + 5≤_;omega,by show max a.dp l.dp + 1≤_;omega⟩
 simp only [List.mem_cons,List.not_mem_nil,or_false] at hd
 rcases hd with rfl | rfl | rfl
 ·exact ⟨_,f1,e⟩
 ·exact ⟨_,f1,e⟩
 ·exact ⟨_,f2,e⟩
theorem Kk (ns:List Int) {a:N} {c d:Nat} (h:Fi a c d) (hd1:1≤d) (k:Nat) (x3 x4 x5 x6 x7 x8 x9:Option D) (μ:Mu):∃ (a':N) (y3 y4 y5:Option D),Fi a' (c + 17) (if k=0 then d + 3 else d + 1) ∧
  xj [some (sc ns),some a.d,some (.int k),x3,x4,x5,x6,x7,x8,x9] μ=.ok (.nx [some (sc ns),some a'.d,some (.int k),y3,y4,y5,x6,x7,x8,x9]) μ:=by
 have h0:=Bp ns (2 + k)
 obtain ⟨n,hn⟩:∃ n,n=mix ns (2 + k):=⟨_,rfl⟩
 rw [← hn] at h0
 obtain ⟨l,hl,e4⟩:=leaf (ns:=ns) (a:=a.d) (k:=k) (x4:=x4) (x5:=x5) (x6:=x6) (x7:=x7) (x8:=x8) (x9:=x9) h0 μ
 obtain ⟨x,hx,e5⟩:=ae1 (ns:=ns) (a:=a.d) (l:=l.d) (k:=k) (n:=n) (x5:=x5) (x6:=x6) (x7:=x7) (x8:=x8) (x9:=x9) μ
 obtain ⟨a1,h1,e1⟩:=aj6 (ns:=ns) h hd1 hl hx (k:=k) (n:=n) (x6:=x6) (x7:=x7) (x8:=x8) (x9:=x9) μ
 have e3:jq yx (mCons (mVar 0) (mCons (mBin uc (mC (.int 2)) (mVar 2)) mNil)) [some (sc ns),some a.d,some (.int k),x3,x4,x5,x6,x7,x8,x9] μ=.ok (.int n) μ:=by
  rw [hn]
  exact v_call (v_cons rfl (v_cons (v_bin (z:=.int (2 + k)) rfl rfl rfl) v_nil)) (Q7 ns (2 + k) (by omega) μ)
 have tst:∃ b:Bool,(b=true→k=0)∧w9 (j5 (mBin gEq (mVar 2) (mC (.int 0)))) (j5 (mBin gEq (mBin ux (mBin Ul (mVar 3) (mC (.int 24))) (mC (.int 2))) (mC (.int 0)))) [some (sc ns),some a1.d,some (.int k),some (.int n),some l.d,some (.str x),x6,x7,x8,x9] μ=.ok b μ:=by
  have t1:j5 (mBin gEq (mVar 2) (mC (.int 0))) [some (sc ns),some a1.d,some (.int k),some (.int n),some l.d,some (.str x),x6,x7,x8,x9] μ=.ok ((k:Int) == 0) μ:=jm (v_bin (x:=.int k) (y:=.int 0) rfl rfl (Z3 _ _))
  cases hk:((k:Int) == 0) with
  | false =>
   rw [hk] at t1
   exact ⟨false,(fun z=>by cases z),Yz t1⟩
  | true =>
   rw [hk] at t1
   exact ⟨_,(fun _=>by have:=eq_of_beq hk;omega),(Co t1).trans (jm (v_bin (Fc (Fb (x:=3) rfl (by decide) (by decide)) (by decide)) rfl (Z3 _ _)))⟩
 obtain ⟨b,hb,et⟩:=tst
 have c1:=h1.co
 have c2:=h1.dp
 cases b with
 | true =>
  have hk:=hb rfl
  refine ⟨.load 1 (.op Jw a1 (.num 15)),some (.int n),some l.d,some (.str x),⟨⟨.inl rfl,by simp [opL],h1.ok,by show (0:Int)≤15∧(15:Int) < 4294967296;decide⟩,by show a1.co + 2 + 5 + 3≤_;omega,by rw [if_pos hk];show max a1.dp 1 + 1 + 1≤_;omega⟩,(v_set 3 e3).trans ((v_set 4 e4).trans ((v_set 5 e5).trans ((v_set 1 e1).trans ((v_iteT et).trans (v_set1 1 (d:=(N.load 1 (.op Jw a1 (.num 15))).d) rfl)))))⟩
 | false =>
  refine ⟨a1,some (.int n),some l.d,some (.str x),⟨h1.ok,by omega,by split <;> omega⟩,(v_set 3 e3).trans ((v_set 4 e4).trans ((v_set 5 e5).trans ((v_set 1 e1).trans ((v_iteF et).trans rfl))))⟩
theorem gf (ns:List Int) (x6 x7 x8 x9:Option D) (μ:Mu):∀ (q p:Nat) (a:N) (c d:Nat) (x2 x3 x4 x5:Option D),1≤p→1≤d→Fi a c d→∃ (a':N) (y2 y3 y4 y5:Option D),Fi a' (c + 17 * q) (d + q) ∧
  u4 (gN 2) xj (iL (List.range' p q)) [some (sc ns),some a.d,x2,x3,x4,x5,x6,x7,x8,x9] μ=.ok (.nx [some (sc ns),some a'.d,y2,y3,y4,y5,x6,x7,x8,x9]) μ
 | 0,p,a,c,d,x2,x3,x4,x5,hp,hd1,h=>⟨a,x2,x3,x4,x5,h,rfl⟩
 | q + 1,p,a,c,d,x2,x3,x4,x5,hp,hd1,h=>by
  obtain ⟨a1,y3,y4,y5,h1,e1⟩:=Kk ns h hd1 p x3 x4 x5 x6 x7 x8 x9 μ
  rw [if_neg (by omega)] at h1
  obtain ⟨a2,z2,z3,z4,z5,h2,e2⟩:=gf ns x6 x7 x8 x9 μ q (p + 1) a1 (c + 17) (d + 1) (some (.int p)) y3 y4 y5 (by omega) (by omega) h1
  refine ⟨a2,z2,z3,z4,z5,⟨h2.ok,by have:=h2.co;omega,by have:=h2.dp;omega⟩,?_⟩
  rw [Vd]
  exact (a97 e1).trans e2
theorem Ck (ns:List Int) (x6 x7 x8 x9:Option D) (μ:Mu) (m:Nat) (hm:m≤10) (a:N) (h:Fi a 2 1):∃ (a':N) (y2 y3 y4 y5:Option D),Fi a' 200 13 ∧
  u4 (gN 2) xj (iL (List.range' 0 m)) [some (sc ns),some a.d,none,none,none,none,x6,x7,x8,x9] μ=.ok (.nx [some (sc ns),some a'.d,y2,y3,y4,y5,x6,x7,x8,x9]) μ:=by
 cases m with
 | zero=>exact ⟨a,none,none,none,none,⟨h.ok,by have:=h.co;omega,by have:=h.dp;omega⟩,rfl⟩
 | succ q =>
  obtain ⟨a1,y3,y4,y5,h1,e1⟩:=Kk ns h (Nat.le_refl _) 0 none none none x6 x7 x8 x9 μ
  rw [if_pos rfl] at h1
  obtain ⟨a2,z2,z3,z4,z5,h2,e2⟩:=gf ns x6 x7 x8 x9 μ q (0 + 1) a1 (2 + 17) (1 + 3) (some (.int (0:Nat))) y3 y4 y5 (by omega) (by omega) h1
  refine ⟨a2,z2,z3,z4,z5,⟨h2.ok,by have:=h2.co;omega,by have:=h2.dp;omega⟩,?_⟩
  rw [Vd]
  exact (a97 e1).trans e2
end K21
set_option Elab.async false
set_option linter.all false
set_option maxRecDepth 100000
set_option maxHeartbeats 400000
namespace K21
open PySem PySem.Spec PyProof.Rows L2 M
theorem a92 {g:Str→Option Bool} {i:Nat} {ρ:En} {μ:Mu} {k:Bool} (hi:ρ[i]? =some (some (.ref μ.length))) (hg:g "TooDeep"=some k):w8 g (mVar i) ρ (μ++[.exz "TooDeep"])=.ok (.bl k) (μ++[.exz "TooDeep"]):=by
 unfold w8
 rw [v_var i hi,bind_ok]
 unfold a34
 dsimp only
 have e:(μ++[Cell.exz "TooDeep"])[μ.length]? =some (.exz "TooDeep"):=by
  rw [List.getElem?_append_right (Nat.le_refl _),Nat.sub_self]
  rfl
 rw [e]
 dsimp only
 rw [hg]
 rfl
theorem a98 {m:MX} {ρ:En} {μ μ1:Mu} {k:Bool} (h:m ρ μ=.ok (.bl k) μ1):vq m ρ μ=.ok (.bl (!k)) μ1:=by unfold vq;rw [h];rfl
noncomputable abbrev ak9:MSt:=(jz (jd (j5 (mBin gGt (jq kx (mCons (mVar 1) mNil)) (mC (.int 8))))
  (je (Z0 (w8 (fun c=>([("TooDeep",true)]:List (Str×Bool)).lookup c) (mVar 7)) (Z0 (w8 (fun c=>([("TooDeep",true)]:List (Str×Bool)).lookup c) (mVar 7)) (vq (w8 (fun c=>([("TooDeep",false)]:List (Str×Bool)).lookup c) (mVar 7))))))
  jp)
  (je (Z0 (Yo (mVar 7)) (mBin gEq (mVar 8) (J5 qu (mCons (mBin gEq (jq ky (mCons (mVar 1) (mCons (mVar 6) mNil))) (mC (.int 1))) mNil))))))
noncomputable abbrev Cl:MX:=jq qp (mCons (yj um (mCons (mVar 1) mNil)) (mCons (mVar 6) mNil))
theorem b9 (ns:List Int) {x:List Nat} {a b:N} (hx:x∈cpL) (ha:Fi a 200 13) (hb:Fi b 200 13) (x2 x3 x4 x5:Option D) (μ:Mu):∃ μ',(jz (Ju 6 (jq zw (mCons (mVar 0) (mCons (mC (.int 21)) mNil))))
  (jz (Ju 7 (mC .non))
  (jz (Ju 8 (mC .non))
  (jz (Ya 8 9 (fun k=>k == 0) xc Cl xt) ak9)))) [some (sc ns),some (B.cmp x a b).d,x2,x3,x4,x5,none,none,none,none] μ=.ok (.rt (.bl true)) μ':=by
 obtain ⟨bs,ep,hB⟩:=Dj ns 21 μ
 have ok:(B.cmp x a b).ok:=⟨hx,ha.ok,hb.ok⟩
 have c1:=ha.co
 have c2:=hb.co
 have c3:=ha.dp
 have c4:=hb.dp
 obtain ⟨i1,i2⟩:=cpI x hx
 have nd:∀ μ,kx [(B.cmp x a b).d] μ=.ok (.int ((max a.need (1 + b.need):Nat):Int)) μ:=fun μ=>vz (R:=yo 19) i1 i2 (q9 a 19 ha.ok (by omega) μ) (q9 b 19 hb.ok (by omega) μ)
 have head:∀ {r:MSt},(jz (Ju 6 (jq zw (mCons (mVar 0) (mCons (mC (.int 21)) mNil)))) (jz (Ju 7 (mC .non)) (jz (Ju 8 (mC .non)) r))) [some (sc ns),some (B.cmp x a b).d,x2,x3,x4,x5,none,none,none,none] μ=r [some (sc ns),some (B.cmp x a b).d,x2,x3,x4,x5,some (pk bs),some .non,some .non,none] μ:=fun {r} =>
  (v_set 6 (v_call rfl ep)).trans ((v_set 7 rfl).trans (v_set 8 rfl))
 by_cases hf:(B.cmp x a b).fits
 ·have hf':a.need≤8∧b.need≤7:=hf
  have hco:(B.cmp x a b).co≤500:=by show a.co + b.co + 4≤500;omega
  obtain ⟨_,_,hlen⟩:=Xr (t0:=none) (μ0:=[]) (B.cmp x a b) 2 1 C0 [] ok hf (by decide) (by decide) (by simp [C0];omega) (by simp;omega)
  have hlen:(Ja (B.cmp x a b)).length≤2 + (B.cmp x a b).co:=hlen
  obtain ⟨μ1,ec⟩:=Gr ok hf (by omega) μ
  obtain ⟨μ2,er⟩:=ab6 hB ok hf (by omega) μ1
  obtain ⟨μ3,es⟩:=Ce hB hx ha.ok hb.ok (by omega) (by omega) (Zb 19) μ2
  have es:ky [(B.cmp x a b).d,pk bs] μ2=.ok (.int (sv ((B.cmp x a b).ev bs))) μ3:=es
  generalize hv:(B.cmp x a b).ev bs=v at er es
  have hvv:=B.bl_ev hB (B.cmp x a b) ok
  rw [hv] at hvv
  have et:Cl [some (sc ns),some (B.cmp x a b).d,x2,x3,x4,x5,some (pk bs),some .non,some .non,none] μ=.ok (.int (if tk v then 1 else 0)) μ2:=v_call (v_cons (v_callX rfl ec) (v_cons rfl v_nil)) er
  have e8:Ya 8 9 (fun k=>k == 0) xc Cl xt [some (sc ns),some (B.cmp x a b).d,x2,x3,x4,x5,some (pk bs),some .non,some .non,none] μ=.ok (.nx [some (sc ns),some (B.cmp x a b).d,x2,x3,x4,x5,some (pk bs),some .non,some (.int (if tk v then 1 else 0)),none]) μ2:=by
   unfold Ya
   rw [et]
   rfl
  refine ⟨μ3,head.trans ((v_seqN e8).trans ((v_skip (jm (v_bin (v_call rfl (nd _)) rfl ?_))).trans (v_ret ((V7 rfl).trans (v_bin (x:=.int (if tk v then 1 else 0)) (y:=.int (if tk v then 1 else 0)) rfl (Ue (v_cons (d:=.bl (tk v)) (v_bin (v_call rfl es) rfl ?_) v_nil) rfl) ?_)))))⟩
  ·rw [deref_int,deref_int,k9,decide_eq_false (by omega)]
  ·rw [deref_int,deref_int,Z3,am3 hvv]
  ·rw [deref_int,Z3]
   simp
 ·obtain ⟨μ1,ec⟩:=Kz ok hf (by omega) μ
  have hf':¬ (a.need≤8∧b.need≤7):=hf
  have et:Cl [some (sc ns),some (B.cmp x a b).d,x2,x3,x4,x5,some (pk bs),some .non,some .non,none] μ=.exc ⟨0,.non⟩ μ1:=a95 (a94 (v_callX rfl ec))
  have e8:Ya 8 9 (fun k=>k == 0) xc Cl xt [some (sc ns),some (B.cmp x a b).d,x2,x3,x4,x5,some (pk bs),some .non,some .non,none] μ=.ok (.nx [some (sc ns),some (B.cmp x a b).d,x2,x3,x4,x5,some (pk bs),some (.ref μ1.length),some .non,none]) (μ1++[.exz "TooDeep"]):=by
   unfold Ya
   rw [et]
   rfl
  refine ⟨μ1++[.exz "TooDeep"],head.trans ((v_seqN e8).trans (v_take (jm (v_bin (v_call rfl (nd _)) rfl ?_)) ((V7 (a92 rfl (by decide +kernel))).trans ((V7 (a92 rfl (by decide +kernel))).trans (a98 (k:=false) (a92 rfl (by decide +kernel)))))))⟩
  rw [deref_int,deref_int,k9,decide_eq_true (by omega)]
theorem law_true (ns:List Int) (hl:ns.length≤63):∃ μ,f_law [.lst (ns.map .int)] []=.ok (.bl true) μ:=by
 show ∃ μ,f_law [sc ns] []=.ok (.bl true) μ
 have h0:=Bp ns 0
 have m0:=Int.emod_nonneg (mix ns 1) (b:=11) (by decide)
 have m1:=Int.emod_lt_of_pos (mix ns 1) (b:=11) (by decide)
 obtain ⟨m,hm⟩:∃ m:Nat,mix ns 1 % 11=m:=⟨(mix ns 1 % 11).toNat,by omega⟩
 let a0:N:=.num (mix ns 0 % 30)
 have e1:jf (mCons (mC (.str J1)) (mCons (mBin ux (jq yx (mCons (mVar 0) (mCons (mC (.int 0)) mNil))) (mC (.int 30))) mNil)) [some (sc ns),none,none,none,none,none,none,none,none,none] []=.ok a0.d []:=Wa (v_cons rfl (v_cons (Fc (v_call rfl (Q7 ns 0 rfl [])) (by decide)) v_nil))
 obtain ⟨a,y2,y3,y4,y5,ha,e2⟩:=Ck ns none none none none [] m (by omega) a0 ⟨by show 0≤mix ns 0 % 30∧mix ns 0 % 30 < 4294967296;omega,Nat.le_refl _,Nat.le_refl _⟩
 have er:uf (mBin ux (jq yx (mCons (mVar 0) (mCons (mC (.int 1)) mNil))) (mC (.int 11))) [some (sc ns),some a0.d,none,none,none,none,none,none,none,none] []=.ok (iL (List.range' 0 m)) []:=by
  refine Fd ?_ (by omega)
  rw [← hm]
  exact Fc (v_call rfl (Q7 ns 1 rfl [])) (by decide)
 obtain ⟨d,hd,e3⟩:=Xt (ρ:=[some (sc ns),some a.d,y2,y3,y4,y5,none,none,none,none]) (μ:=[]) (m:=jq yx (mCons (mVar 0) (mCons (mC (.int 20)) mNil))) (L:=[(B.cmp ji a (.num 9)).d,(B.cmp Jf .len a).d]) (n:=2) (ms:=mCons (jf (mCons (mC (.str ji)) (mCons (mVar 1) (mCons (jf (mCons (mC (.str J1)) (mCons (mC (.int 9)) mNil))) mNil)))) (mCons (jf (mCons (mC (.str Jf)) (mCons (jf (mCons (mC (.str Ug)) mNil)) (mCons (mVar 1) mNil)))) mNil)) rfl (v_call rfl (Q7 ns 20 rfl [])) rfl (by decide)
 have fin:∀ (x:List Nat) (u v:N),x∈cpL→Fi u 200 13→Fi v 200 13→d=(B.cmp x u v).d→∃ μ,f_law [sc ns] []=.ok (.bl true) μ:=fun x u v hx hu hv z=>by
  obtain ⟨μ',e4⟩:=b9 ns hx hu hv y2 y3 y4 y5 []
  rw [z] at e3
  exact ⟨μ',Jy 9 ((v_set 1 e1).trans ((v_seqN ((v_for er).trans e2)).trans ((v_set 1 e3).trans e4)))⟩
 simp only [List.mem_cons,List.not_mem_nil,or_false] at hd
 rcases hd with h | h
 ·exact fin ji a (.num 9) (by simp [cpL]) ha ⟨by show (0:Int)≤9∧(9:Int) < 4294967296;decide,by show 2≤200;decide,by show 1≤13;decide⟩ h
 ·exact fin Jf .len a (by simp [cpL]) ⟨trivial,by show 2≤200;decide,by show 1≤13;decide⟩ ha h
end K21
noncomputable def PySem.W.Fast.tw17061186404652036873 : Unit := ()
noncomputable def PySem.W.Fast.tw17042145650683597638 : Unit := ()
noncomputable def PySem.W.Fast.tw506376761673733771 : Unit := ()
noncomputable def PySem.W.Fast.tw974451462574922413 : PySem.Program := PySem.Challenge.pw_netsieve_k21_need
theorem PySem.W.Fast.te974451462574922413 : PySem.Challenge.pw_netsieve_k21_need=PySem.W.Fast.tw974451462574922413 := rfl
noncomputable def PySem.W.Fast.tw13237288005690519757 : Unit := ()
noncomputable def PySem.W.Fast.tw4819040874943126005 : Unit := ()
noncomputable def PySem.W.Fast.tw3131218629179704861 : Unit := ()
noncomputable def PySem.W.Fast.tw9295246962535436714 : Unit := ()
noncomputable def PySem.W.Fast.tw8869182922599580828 : Unit := ()
noncomputable def PySem.W.Fast.tw8046384308203411958 : Unit := ()
noncomputable def PySem.W.Fast.tw12531629842885666326 : Unit := ()
noncomputable def PySem.W.Fast.tw5781641104679111802 : Unit := ()
noncomputable def PySem.W.Fast.tw9719012434774029403 : Unit := ()
noncomputable def PySem.W.Fast.tw2224580539101485562 : Unit := ()
noncomputable def PySem.W.Fast.tw12386070961756985643 : Unit := ()
noncomputable def PySem.W.Fast.tw13569282048466837382 : Unit := ()
noncomputable def PySem.W.Fast.tw10710970667203789851 : Unit := ()
noncomputable def PySem.W.Fast.tw14056199080666862271 : Unit := ()
noncomputable def PySem.W.Fast.tw7898450738606025581 : Unit := ()
noncomputable def PySem.W.Fast.tw9332833627101721673 : Unit := ()
noncomputable def PySem.W.Fast.tw960605540149509275 : Unit := ()
noncomputable def PySem.W.Fast.tw3233324291641085143 : Unit := ()
noncomputable def PySem.W.Fast.tw1473682131821949671 : Unit := ()
noncomputable def PySem.W.Fast.tw14960581085826072425 : Unit := ()
noncomputable def PySem.W.Fast.tw5975995826392884659 : Unit := ()
noncomputable def PySem.W.Fast.tw6351446855703640752 : Unit := ()
noncomputable def PySem.W.Fast.tw14371183667042064779 : Unit := ()
noncomputable def PySem.W.Fast.tw13059979825384695434 : Unit := ()
noncomputable def PySem.W.Fast.tw12575885205480887358 : Unit := ()
noncomputable def PySem.W.Fast.tw2989311850131384926 : Unit := ()
open PySem PySem.W PyProof.Rows
set_option maxRecDepth 100000 in
set_option maxHeartbeats 0 in
theorem PySem.Challenge.cw_netsieve_k21_need_holds : PySem.Challenge.rw_netsieve_k21_need.Holds := by
 w_on;o_law;k_head;(case hw=>w_witness2)
 k_fill
 refine M.walk_lawM (l := PySem.Challenge.rw_netsieve_k21_need) (k := 44) (x := "_law_script") (φ := K21.f_law) rfl rfl ⟨rfl, by decide, by decide⟩ (fun w h Y=>PySem.W.kIn_of Y) ?F (fun ns hl=>K21.law_true ns hl)
 case F =>
  intro w mg fa h KX G hmg
  refine K21.finish hmg ?T
  refine' K21.mkT KX G ?n_len ?n_range ?n_max ?n_list ?n_reversed ?n_isinstance ?n_ValueError ?n_int ?n_sum ?n_min ?a_DIVIDING ?l_DIVIDING ?a_WIDTH ?a_ROUND ?a_OPS ?l_OPS ?a_SLOTS ?a_TEST_OF ?l_TEST_OF ?h_TEST_OF ?l0_TEST_OF ?l1_TEST_OF ?l2_TEST_OF ?l3_TEST_OF ?l4_TEST_OF ?l5_TEST_OF ?a_SieveError ?a_Machine ?a_TooDeep ?a_BadFilter ?o0_TooDeep ?k0_TooDeep ?h1_SieveError ?h2_SieveError ?h3_SieveError ?s_TooDeep_SieveError ?v_TooDeep ?y2_TooDeep ?y3_TooDeep ?y4_TooDeep ?z1_TooDeep ?z2_TooDeep ?z3_TooDeep ?z4_TooDeep ?k_TooDeep_TooDeep ?k_TooDeep_ValueError ?k_TooDeep_BadFilter ?p1_Machine ?p2_Machine ?p3_Machine ?p4_Machine ?na_Machine_hand ?na_Machine_other ?na_Machine_slots ?na_Machine_place ?na_Machine_done ?na_Machine_told ?i_p_Machine__init__ ?l_p_Machine__init__ ?c_p_Machine__init__ ?k_p_Machine__init__ ?m1_p_Machine__init__ ?m2_p_Machine__init__ ?m3_p_Machine__init__ ?d_cell ?d_mix ?d_packet ?d_p_put_away ?d_p_take_in_hand ?d_p_loaded ?d_p_shifted ?d_p_plainly_reckoned ?d_p_reckoned ?d_p_fetched ?d_p_value_of ?d_p_holds ?d_p_distance ?d_p_do_step ?d_p_ended ?d_p_run ?d_p_tasks_of_pair ?d_p_tasks_of_number ?d_p_step_of_test ?d_p_make_truth ?d_p_task_of_first ?d_p_compiled ?d_need ?d_bytes ?d_reckoned ?d_worth ?d_says ?d_law
  (case n_len=>k_is);(case n_range=>k_is);(case n_max=>k_is);(case n_list=>k_is)
  (case n_reversed=>k_is);(case n_isinstance=>k_is);(case n_ValueError=>k_is);(case n_int=>k_is)
  (case n_sum=>k_is);(case n_min=>k_is);(case a_DIVIDING=>k_is);(case l_DIVIDING=>k_is)
  (case a_WIDTH=>k_is);(case a_ROUND=>k_is);(case a_OPS=>k_is);(case l_OPS=>k_is)
  (case a_SLOTS=>k_is);(case a_TEST_OF=>k_is);(case l_TEST_OF=>k_is);(case h_TEST_OF=>rfl)
  (case l0_TEST_OF=>k_is);(case l1_TEST_OF=>k_is);(case l2_TEST_OF=>k_is);(case l3_TEST_OF=>k_is)
  (case l4_TEST_OF=>k_is);(case l5_TEST_OF=>k_is);(case a_SieveError=>k_is);(case a_Machine=>k_is)
  (case a_TooDeep=>k_is);(case a_BadFilter=>k_is);(case o0_TooDeep=>kernel_rfl);(case k0_TooDeep=>k_is)
  (case h1_SieveError=>k_is);(case h2_SieveError=>kernel_rfl);(case h3_SieveError=>k_is);(case s_TooDeep_SieveError=>k_is)
  (case v_TooDeep=>kernel_rfl);(case y2_TooDeep=>k_is);(case y3_TooDeep=>k_is);(case y4_TooDeep=>k_is)
  (case z1_TooDeep=>k_is);(case z2_TooDeep=>k_is);(case z3_TooDeep=>k_is);(case z4_TooDeep=>k_is)
  (case k_TooDeep_TooDeep=>kernel_rfl);(case k_TooDeep_ValueError=>kernel_rfl);(case k_TooDeep_BadFilter=>kernel_rfl);(case p1_Machine=>kernel_rfl)
  (case p2_Machine=>k_is);(case p3_Machine=>k_is);(case p4_Machine=>k_is);(case na_Machine_hand=>k_is)
  (case na_Machine_other=>k_is);(case na_Machine_slots=>k_is);(case na_Machine_place=>k_is);(case na_Machine_done=>k_is)
  (case na_Machine_told=>k_is);(case i_p_Machine__init__=>k_is);(case l_p_Machine__init__=>k_is);(case c_p_Machine__init__=>k_is)
  (case k_p_Machine__init__=>k_is);(case m1_p_Machine__init__=>k_is);(case m2_p_Machine__init__=>k_is);(case m3_p_Machine__init__=>k_is)
  (case d_cell=>walk_at "dm");(case d_mix=>walk_at "dm");(case d_packet=>walk_at "dm");(case d_p_put_away=>walk_at "dm")
  (case d_p_take_in_hand=>walk_at "dm");(case d_p_loaded=>walk_at "dm");(case d_p_shifted=>walk_at "dm");(case d_p_plainly_reckoned=>walk_at "dm")
  (case d_p_reckoned=>walk_at "dm");(case d_p_fetched=>walk_at "dm");(case d_p_value_of=>walk_at "dm");(case d_p_holds=>walk_at "dm")
  (case d_p_distance=>walk_at "dm");(case d_p_do_step=>walk_at "dm");(case d_p_ended=>walk_at "dm");(case d_p_run=>walk_at "dm")
  (case d_p_tasks_of_pair=>walk_at "dm");(case d_p_tasks_of_number=>walk_at "dm");(case d_p_step_of_test=>walk_at "dm");(case d_p_make_truth=>walk_at "dm")
  (case d_p_task_of_first=>walk_at "dm");(case d_p_compiled=>walk_at "dm");(case d_need=>walk_at "dm");(case d_bytes=>walk_at "dm")
  (case d_reckoned=>walk_at "dm");(case d_worth=>walk_at "dm");(case d_says=>walk_at "dm");(case d_law=>walk_at "dm")
