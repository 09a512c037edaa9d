import PyProof.Rows.All
import Wide.All
import OpenK.AllK
import Wide.FinOn
import Lean
import PyProof.EqAt
import PyProof.EqKinds
import PyProof.TupleCall
import PySem.Challenge.RW_netsieve_k10_trees
set_option Elab.async false
set_option linter.all false
set_option maxRecDepth 100000
namespace L2
open PySem PySem.Spec PyProof.Rows
noncomputable abbrev Key:=Sum Int Str
noncomputable def keyIs:Key → Value → Bool
  | .inl k,v => Value.isInt k v
  | .inr x,v => Value.isStrOf x v
noncomputable def keyH (w:World):Key → Int
  | .inl k => hashInt k
  | .inr x => hashStr w x
theorem keyIs_shape:∀ {k:Key} {v:Value},keyIs k v = true → (∃ i t,k = Sum.inl i ∧ v = Value.int i t) ∨ (∃ x t,k = Sum.inr x ∧ v = Value.str x t)
  | .inl i,v,h => by
    obtain ⟨t,e⟩:=Value.isInt_shape (k:=i) (v:=v) h
    exact .inl ⟨i,t,rfl,e⟩
  | .inr x,v,h => by
    obtain ⟨t,e⟩:=Value.isStrOf_shape (x:=x) (v:=v) h
    exact .inr ⟨x,t,rfl,e⟩
theorem keyIs_int (i:Int) (t:Tok):keyIs (.inl i) (.int i t) = true:=by simp [keyIs,Value.isInt]
theorem keyIs_str (x:Str) (t:Tok):keyIs (.inr x) (.str x t) = true:=by simp [keyIs,Value.isStrOf]
theorem key_ll (a b:Int):decide ((Sum.inl a:Key) = Sum.inl b) = (a == b):=by
  by_cases e:a = b
  · subst e; simp
  · have h:¬ (Sum.inl a:Key) = Sum.inl b:=fun q => e (Sum.inl.inj q)
    rw [decide_eq_false h]
    exact (beq_eq_false_iff_ne.mpr e).symm
theorem key_rr (a b:Str):decide ((Sum.inr a:Key) = Sum.inr b) = decide (a = b):=by
  by_cases e:a = b
  · subst e; simp
  · have h:¬ (Sum.inr a:Key) = Sum.inr b:=fun q => e (Sum.inr.inj q)
    rw [decide_eq_false h,decide_eq_false e]
theorem key_lr (a:Int) (b:Str):decide ((Sum.inl a:Key) = Sum.inr b) = false:=decide_eq_false (fun q => nomatch q)
theorem key_rl (a:Str) (b:Int):decide ((Sum.inr a:Key) = Sum.inl b) = false:=decide_eq_false (fun q => nomatch q)
noncomputable def mixKind (prog:Program) (w:World):PySem.KeyKind prog w Key where
  is:=keyIs
  hash:=keyH w
  inj:=fun v a b ha hb => by
    rcases keyIs_shape ha with ⟨i,t,rfl,rfl⟩ | ⟨x,t,rfl,rfl⟩
    · rcases keyIs_shape hb with ⟨j,u,rfl,e⟩ | ⟨y,u,rfl,e⟩
      · injection e with e1 _; rw [e1]
      · exact nomatch e
    · rcases keyIs_shape hb with ⟨j,u,rfl,e⟩ | ⟨y,u,rfl,e⟩
      · exact nomatch e
      · injection e with e1 _; rw [e1]
  byValue:=fun k v h => by
    rcases keyIs_shape h with ⟨i,t,rfl,rfl⟩ | ⟨x,t,rfl,rfl⟩ <;> rfl
  pyHash:=fun hv h => by
    rcases keyIs_shape hv with ⟨i,t,rfl,rfl⟩ | ⟨x,t,rfl,rfl⟩
    · exact wpAny_pyHash_int h
    · exact wpAny_pyHash_str h
  eqBool:=fun hu hv h => by
    rcases keyIs_shape hu with ⟨i,t,rfl,rfl⟩ | ⟨x,t,rfl,rfl⟩
    · rcases keyIs_shape hv with ⟨j,u,rfl,rfl⟩ | ⟨y,u,rfl,rfl⟩
      · rw [key_ll] at h; exact wpAny_eqBool_int h
      · rw [key_lr] at h; exact SeqAt.EqAt.int_str i t y u _ _ _ _ h
    · rcases keyIs_shape hv with ⟨j,u,rfl,rfl⟩ | ⟨y,u,rfl,rfl⟩
      · rw [key_rl] at h; exact SeqAt.EqAt.str_int x t j u _ _ _ _ h
      · rw [key_rr] at h; exact wpAny_eqBool_str h
  «strs»:=fun k x t v h => by
    rcases keyIs_shape h with ⟨i,u,rfl,e⟩ | ⟨y,u,rfl,e⟩
    · exact nomatch e
    · injection e with e1 _
      subst e1
      cases v <;> rfl
theorem mixKind_int (prog:Program) (w:World) (i:Int) (t:Tok):(mixKind prog w).is (.inl i) (.int i t) = true:=keyIs_int i t
theorem mixKind_str (prog:Program) (w:World) (x:Str) (t:Tok):(mixKind prog w).is (.inr x) (.str x t) = true:=keyIs_str x t
end L2
namespace L2
open PySem PySem.Spec PyProof.Rows
inductive V where
  | non | bl (b:Bool) | int (i:Int) | str (x:Str) | byt (b:Array UInt8) | flt (b:UInt64) | ref (a:Addr) | ty (n:String)
  deriving DecidableEq
noncomputable def RelV:V → Value → Prop
  | .non,u => u = Value.none
  | .bl b,u => u = Value.bool b
  | .int i,u => ∃ t,u = Value.int i t
  | .str x,u => ∃ t,u = Value.str x t
  | .byt b,u => ∃ t,u = Value.bytes b t
  | .flt b,u => ∃ t,u = Value.float b t
  | .ref a,u => u = Value.ref a
  | .ty n,u => u = Value.type n
noncomputable abbrev Vals:List V → List Value → Prop:=Paired RelV
theorem Vals.length {xs:List V} {us:List Value} (r:Vals xs us):xs.length = us.length:=Paired.length r
theorem Vals.get:∀ {xs:List V} {us:List Value} {i:Nat} {x:V},Vals xs us → xs[i]? = some x → ∃ u,us[i]? = some u ∧ RelV x u
  | _,_,_,_,.nil,e => by simp at e
  | _,_,0,_,.cons r _,e => by simp at e; subst e; exact ⟨_,rfl,r⟩
  | _,_,i + 1,x,.cons _ t,e => by
    obtain ⟨u,h1,h2⟩:=Vals.get (i:=i) (x:=x) t (by simpa using e)
    exact ⟨u,by simpa using h1,h2⟩
theorem Vals.append:∀ {xs ys:List V} {us ws:List Value},Vals xs us → Vals ys ws → Vals (xs ++ ys) (us ++ ws)
  | _,_,_,_,.nil,s => s
  | _,_,_,_,.cons r t,s => .cons r (Vals.append t s)
theorem Vals.take:∀ {xs:List V} {us:List Value} (n:Nat),Vals xs us → Vals (xs.take n) (us.take n)
  | _,_,0,_ => .nil
  | _,_,_ + 1,.nil => .nil
  | _,_,n + 1,.cons r t => .cons r (Vals.take n t)
theorem Vals.drop:∀ {xs:List V} {us:List Value} (n:Nat),Vals xs us → Vals (xs.drop n) (us.drop n)
  | _,_,0,r => r
  | _,_,_ + 1,.nil => .nil
  | _,_,n + 1,.cons _ t => Vals.drop n t
noncomputable def RelO:Option V → Option Value → Prop
  | some v,some u => RelV v u
  | none,none => True
  | _,_ => False
noncomputable def KV {κ:Type}:List (κ × V) → List (κ × Value) → Prop:=Paired fun (p:κ × V) (q:κ × Value) => p.1 = q.1 ∧ RelV p.2 q.2
noncomputable def kV:Key → V
  | .inl i => .int i
  | .inr x => .str x
inductive HO where
  | lst (xs:List V)
  | tup (xs:List V)
  | dK (kvs:List (Key × V)) | dT (kvs:List (List Key × V))
  | set (S:Int → Bool) (n:Nat)
  | ins (C dx:Addr) (fs:List (Str × V))
  | own (x:Addr)
  | xd (fs:List (Str × V))
  | met (f x:Addr)
  | rng (lo hi:Int)
  | frz (o:Obj) (u:HO)
  | tbl (ps:Array Value)
  | ext (φ:Heap → Prop)
noncomputable abbrev Hp:=Addr → Option HO
noncomputable def upd (H:Hp) (a:Addr) (o:HO):Hp:=fun b => if b = a then some o else H b
theorem upd_same {H:Hp} {a:Addr} {o:HO}:upd H a o a = some o:=by unfold upd; rw [if_pos rfl]
theorem upd_ne {H:Hp} {a b:Addr} {o:HO} (h:b ≠ a):upd H a o b = H b:=by unfold upd; rw [if_neg h]
theorem upd_upd {H:Hp} {a:Addr} {o u:HO}:upd (upd H a o) a u = upd H a u:=by
  funext b; unfold upd; split <;> rfl
theorem ne_of_none {H:Hp} {a b:Addr} {o:HO} (h:H a = some o) (h':H b = none):a ≠ b:=by
  intro e; subst e; rw [h] at h'; cases h'
section
variable (P:Program) (w:World)
noncomputable def ObjOk (H:Hp) (h:Heap) (a:Addr):HO → Prop
  | .lst xs => xs.length ≤ sizeLine ∧ ∃ (its:List Value) (n:Nat),Vals xs its ∧ h.get? a = some { cls:=.type "list",data:=.seq its.toArray n }
  | .tup xs => xs.length ≤ sizeLine ∧ ∃ its:List Value,Vals xs its ∧ IsTup h a its.toArray
  | .dK kvs => kvs.length ≤ sizeLine ∧ (a == sysModules) = false ∧ ∃ vs,KV kvs vs ∧ h.DictOf (mixKind P w) a vs
  | .dT kvs => kvs.length ≤ sizeLine ∧ (a == sysModules) = false ∧ ∃ xs:List (List Key × Addr × Value),
      Paired (fun (p:List Key × V) (q:List Key × Addr × Value) => p.1 = q.1 ∧ H q.2.1 = some (.tup (p.1.map kV)) ∧ RelV p.2 q.2.2) kvs xs ∧
      ∃ o es ep,h.get? a = some o ∧ o.ExactDict ∧ o.data = .dict es ep ∧ es.toList = xs.map (entryOfKey (tupleKind (mixKind P w))) ∧ (xs.map (·.1)).Nodup
  | .set S n => h.SetOf (intKind P w) a S n
  | .ins C dx fs => H dx = some (.own a) ∧ fs.length ≤ 1000 ∧ dx ≠ a ∧ h.get? a = some (PySem.W.instObj C dx) ∧
      ∃ mA,h.Ns1 dx mA ∧ (∀ f,RelO (fs.lookup f) (mA f)) ∧ PySem.Within mA (fs.map (·.1))
  | .own _ => ∃ o,h.get? a = some o
  | .xd fs => ∃ mA,h.Ns1 a mA ∧ ∀ f,RelO (fs.lookup f) (mA f)
  | .rng lo hi => ∃ t u v,h.get? a = some { cls:=.type "range",data:=.fields #[.int lo t,.int hi u,.int 1 v] }
  | .frz o u => h.get? a = some o ∧ ObjOk H h a u
  | .tbl ps => h.get? a = some { cls:=.none,data:=.fields ps }
  | .met f x => h.get? a = some (PySem.W.methodObj (.ref f) (.ref x))
  | .ext φ => φ h ∧ (∃ o,h.get? a = some o) ∧ ∀ h1 h2:Heap,φ h1 → (∀ o,h1.get? a = some o → h2.get? a = some o) → φ h2
noncomputable def HOk (H:Hp) (h:Heap):Prop:=∀ a o,H a = some o → ObjOk P w H h a o
end
section
variable {P:Program} {w:World} {H H':Hp} {h h':Heap} {a:Addr} {o:HO}
theorem ObjOk.lt (x:ObjOk P w H h a o):a < h.objs.size:=by
  cases o with
  | lst xs => obtain ⟨_,_,_,_,e⟩:=x; exact Heap.lt_size e
  | tup xs => obtain ⟨_,_,_,p⟩:=x; exact p.lt
  | dK kvs => obtain ⟨_,_,_,_,o,_,_,e,_⟩:=x; exact Heap.lt_size e
  | dT kvs => obtain ⟨_,_,_,_,o,_,_,e,_⟩:=x; exact Heap.lt_size e
  | set S n => obtain ⟨o,_,_,_,e,_⟩:=x; exact Heap.lt_size e
  | ins C dx fs => obtain ⟨_,_,_,e,_⟩:=x; exact Heap.lt_size e
  | own y => obtain ⟨_,e⟩:=x; exact Heap.lt_size e
  | xd fs => obtain ⟨_,⟨_,_,_,e,_⟩,_⟩:=x; exact Heap.lt_size e
  | rng lo hi => obtain ⟨_,_,_,e⟩:=x; exact Heap.lt_size e
  | frz ob u => obtain ⟨e,_⟩:=x; exact Heap.lt_size e
  | tbl ps => exact Heap.lt_size (show h.get? a = some _ from x)
  | met f y => exact Heap.lt_size (show h.get? a = some _ from x)
  | ext φ => obtain ⟨_,⟨_,e⟩,_⟩:=x; exact Heap.lt_size e
theorem Paired.mapP {α β:Type} {F G:α → β → Prop}:∀ {l₁:List α} {l₂:List β},Paired F l₁ l₂ → (∀ a b,F a b → G a b) → Paired G l₁ l₂
  | _,_,.nil,_ => .nil
  | _,_,.cons r t,f => .cons (f _ _ r) (Paired.mapP t f)
theorem ObjOk.stay (x:ObjOk P w H h a o) (k:∀ b u,(b = a ∨ H b = some (.own a)) → h.get? b = some u → h'.get? b = some u)
    (ho:∀ b,H b = some (.own a) → H' b = some (.own a)) (ht:∀ b xs,H b = some (.tup xs) → H' b = some (.tup xs)):ObjOk P w H' h' a o:=by
  induction o with
  | lst xs => obtain ⟨z,its,n,r,e⟩:=x; exact ⟨z,its,n,r,k _ _ (.inl rfl) e⟩
  | tup xs => obtain ⟨z,its,r,ob,e,c⟩:=x; exact ⟨z,its,r,ob,k _ _ (.inl rfl) e,c⟩
  | dK kvs => obtain ⟨z,y,vs,r,ob,es,ep,e,c⟩:=x; exact ⟨z,y,vs,r,ob,es,ep,k _ _ (.inl rfl) e,c⟩
  | dT kvs =>
    obtain ⟨z,y,xs,r,ob,es,ep,e,c⟩:=x
    exact ⟨z,y,xs,Paired.mapP r fun p q z => ⟨z.1,ht _ _ z.2.1,z.2.2⟩,ob,es,ep,k _ _ (.inl rfl) e,c⟩
  | set S n => obtain ⟨ob,es,ep,t,e,c⟩:=x; exact ⟨ob,es,ep,t,k _ _ (.inl rfl) e,c⟩
  | ins C dx fs =>
    obtain ⟨d,z,ne,e,mA,⟨od,es,ep,e2,c⟩,r⟩:=x
    exact ⟨ho _ d,z,ne,k _ _ (.inl rfl) e,mA,⟨od,es,ep,k _ _ (.inr d) e2,c⟩,r⟩
  | own y => obtain ⟨ob,e⟩:=x; exact ⟨ob,k _ _ (.inl rfl) e⟩
  | xd fs => obtain ⟨mA,⟨od,es,ep,e,c⟩,r⟩:=x; exact ⟨mA,⟨od,es,ep,k _ _ (.inl rfl) e,c⟩,r⟩
  | rng lo hi => obtain ⟨t,u,v,e⟩:=x; exact ⟨t,u,v,k _ _ (.inl rfl) e⟩
  | frz ob u ih => obtain ⟨e,q⟩:=x; exact ⟨k _ _ (.inl rfl) e,ih q⟩
  | tbl ps =>
    have e:h.get? a = some { cls:=.none,data:=.fields ps }:=x
    show h'.get? a = some { cls:=.none,data:=.fields ps }
    exact k a _ (.inl rfl) e
  | met f y =>
    have e:h.get? a = some (PySem.W.methodObj (.ref f) (.ref y)):=x
    show h'.get? a = some (PySem.W.methodObj (.ref f) (.ref y))
    exact k a _ (.inl rfl) e
  | ext φ => obtain ⟨p,⟨o,e⟩,st⟩:=x; exact ⟨st _ _ p fun o q => k _ _ (.inl rfl) q,⟨o,k _ _ (.inl rfl) e⟩,st⟩
theorem HOk.lt (x:HOk P w H h) (e:H a = some o):a < h.objs.size:=(x a o e).lt
theorem HOk.fresh (x:HOk P w H h) (e:h.objs.size ≤ a):H a = none:=by
  cases q:H a with
  | none => rfl
  | some u => exact absurd (Nat.lt_of_lt_of_le (x.lt q) e) (Nat.lt_irrefl _)
theorem HOk.kept (x:HOk P w H h) (k:∀ b u,h.get? b = some u → h'.get? b = some u):HOk P w H h':=fun a o e =>
  (x a o e).stay (fun b u _ q => k b u q) (fun _ q => q) fun _ _ q => q
theorem HOk.laid (x:HOk P w H h) (k:∀ b u,h.get? b = some u → h'.get? b = some u) (hp:h.objs.size ≤ a) (new:ObjOk P w (upd H a o) h' a o):HOk P w (upd H a o) h':=fun b u e => by
  have hn:=x.fresh hp
  by_cases hb:b = a
  · subst hb; rw [upd_same] at e; cases e; exact new
  · rw [upd_ne hb] at e
    exact (x b u e).stay (fun c v _ q => k c v q) (fun c q => by rw [upd_ne (ne_of_none q hn)]; exact q) fun c xs q => by rw [upd_ne (ne_of_none q hn)]; exact q
end
noncomputable def Rd (H:Hp) (a:Addr) (u:HO):Prop:=H a = some u ∨ ∃ o,H a = some (.frz o u)
theorem Rd.ok {P:Program} {w:World} {H:Hp} {h:Heap} {a:Addr} {u:HO} (r:Rd H a u) (x:HOk P w H h):ObjOk P w H h a u:=by
  rcases r with r | ⟨o,r⟩
  · exact x a u r
  · obtain ⟨_,q⟩:=x a _ r
    exact q
noncomputable def Mut:Option HO → Prop
  | some (.lst _) => True
  | some (.dK _) => True
  | some (.dT _) => True
  | some (.set _ _) => True
  | some (.ins _ _ _) => True
  | some (.ext _) => True
  | _ => False
section
variable {P:Program} {w:World} {H:Hp} {h h':Heap} {x e:Addr} {o':HO}
theorem HOk.write (ok:HOk P w H h) (mu:Mut (H x)) (he:e = x ∨ H e = some (.own x)) (k:∀ b u,b ≠ e → h.get? b = some u → h'.get? b = some u) (heo:∃ u,h'.get? e = some u)
    (new:ObjOk P w (upd H x o') h' x o'):HOk P w (upd H x o') h':=fun b u q => by
  have nown:∀ c y,H c = some (.own y) → c ≠ x:=fun c y r z => by subst z; rw [r] at mu; exact mu
  have ntup:∀ c xs,H c = some (.tup xs) → c ≠ x:=fun c xs r z => by subst z; rw [r] at mu; exact mu
  by_cases hb:b = x
  · subst hb; rw [upd_same] at q; cases q; exact new
  · rw [upd_ne hb] at q
    by_cases hbe:b = e
    · have q':H b = some (.own x):=by
        rcases he with z | z
        · exact absurd (hbe.trans z) hb
        · rw [hbe]; exact z
      rw [q] at q'; cases q'
      obtain ⟨v,hv⟩:=heo
      exact ⟨v,by rw [hbe]; exact hv⟩
    · refine (ok b u q).stay (fun c v hc r => k c v ?_ r) (fun c r => by rw [upd_ne (nown c b r)]; exact r) fun c xs r => by rw [upd_ne (ntup c xs r)]; exact r
      rcases hc with rfl | hc
      · exact hbe
      · rintro rfl
        rcases he with z | z
        · exact nown c b hc z
        · rw [hc] at z; cases z; exact hb rfl
end
structure Un (fs ex:List Addr) (H H':Hp) (h h':Heap):Prop where
  keep:∀ b o,h.get? b = some o → H b = none → b ∉ fs → b ∉ ex → h'.get? b = some o
  slot:∀ b o,h.get? b = some o → H b = none → b ∈ fs → b ∉ ex → ∃ sl,h'.get? b = some { o with slots:=sl }
  free:∀ b o,h.get? b = some o → H b = none → b ∉ ex → H' b = none
  there:∀ b o,h.get? b = some o → b ∉ ex → ∃ o',h'.get? b = some o'
  tups:∀ b xs,H b = some (.tup xs) → H' b = some (.tup xs)
  frzs:∀ b o u,H b = some (.frz o u) → H' b = some (.frz o u)
  tbls:∀ b ps,H b = some (.tbl ps) → ∃ more,H' b = some (.tbl (ps ++ more))
section
variable {fs fs' ex ex':List Addr} {H H1 H2:Hp} {h h1 h2 h':Heap} {a x e:Addr} {o:HO}
theorem Un.any (u:Un fs ex H H1 h h1) {b:Addr} {ob:Obj} (q:h.get? b = some ob) (n:H b = none) (hx:b ∉ ex):∃ sl,h1.get? b = some { ob with slots:=sl }:=by
  by_cases hb:b ∈ fs
  · exact u.slot b ob q n hb hx
  · exact ⟨ob.slots,u.keep b ob q n hb hx⟩
theorem Un.kept (k:∀ b u,h.get? b = some u → h'.get? b = some u):Un fs ex H H h h' :=
  ⟨fun b ob q _ _ _ => k b ob q,fun b ob q _ _ _ => ⟨ob.slots,k b ob q⟩,fun _ _ _ n _ => n,fun b ob q _ => ⟨ob,k b ob q⟩,fun _ _ q => q,fun _ _ _ q => q,fun _ ps q => ⟨#[],by rw [q]; simp⟩⟩
theorem Un.refl:Un fs ex H H h h:=Un.kept fun _ _ q => q
theorem Un.laid (k:∀ b u,h.get? b = some u → h'.get? b = some u) (hp:h.objs.size ≤ a) (hn:H a = none):Un fs ex H (upd H a o) h h' where
  keep:=fun b u q _ _ _ => k b u q
  slot:=fun b u q _ _ _ => ⟨u.slots,k b u q⟩
  free:=fun b u q n _ => by rw [upd_ne (Nat.ne_of_lt (Nat.lt_of_lt_of_le (Heap.lt_size q) hp))]; exact n
  there:=fun b u q _ => ⟨u,k b u q⟩
  tups:=fun b xs q => by rw [upd_ne (ne_of_none q hn)]; exact q
  frzs:=fun b u xs q => by rw [upd_ne (ne_of_none q hn)]; exact q
  tbls:=fun b ps q => ⟨#[],by rw [upd_ne (ne_of_none q hn),q]; simp⟩
theorem Un.write (mu:Mut (H x)) (he:e = x ∨ H e = some (.own x)) (k:∀ b u,b ≠ e → h.get? b = some u → h'.get? b = some u) (heo:∃ u,h'.get? e = some u):Un fs ex H (upd H x o) h h':=by
  have hx:∀ b,H b = none → b ≠ x:=fun b n z => by subst z; rw [n] at mu; exact mu
  have hb:∀ b,H b = none → b ≠ e:=fun b n z => by
    subst z
    rcases he with r | r
    · exact hx b n r
    · rw [n] at r; cases r
  have hm:∀ b u,H b = some u → ¬ Mut (some u) → b ≠ x:=fun b u q nm z => by subst z; rw [q] at mu; exact nm mu
  refine ⟨fun b u q n _ _ => k b u (hb b n) q,fun b u q n _ _ => ⟨u.slots,k b u (hb b n) q⟩,fun b u q n _ => by rw [upd_ne (hx b n)]; exact n,fun b u q _ => ?_,
    fun b xs q => by rw [upd_ne (hm b _ q fun z => z)]; exact q,fun b u xs q => by rw [upd_ne (hm b _ q fun z => z)]; exact q,fun b ps q => ⟨#[],by rw [upd_ne (hm b _ q fun z => z),q]; simp⟩⟩
  by_cases hbe:b = e
  · subst hbe; exact heo
  · exact ⟨u,k b u hbe q⟩
end
noncomputable def trk (h:Heap) (H:Hp):List Addr:=(List.range h.objs.size).filter fun a => (H a).isSome
noncomputable def hidT (h:Heap) (H:Hp):Heap:=PySem.W.hideAll h (trk h H)
theorem hidT_size (h:Heap) (H:Hp):(hidT h H).objs.size = h.objs.size:=PySem.W.hideAll_size _ _
theorem hidT_get {h:Heap} {H:Hp} {b:Addr} {o:Obj} (e:h.get? b = some o) (n:H b = none):(hidT h H).get? b = some o :=
  PySem.W.hideAll_get _ e fun hm => by
    have q:(H b).isSome = true:=(List.mem_filter.mp hm).2
    rw [n] at q; simp at q
theorem of_hidT {h:Heap} {H:Hp} {b:Addr} {o:Obj} (e:(hidT h H).get? b = some o):h.get? b = some o ∧ H b = none:=by
  have e':h.get? b = some o:=PySem.W.of_hideAll (trk h H) e
  refine ⟨e',?_⟩
  cases q:H b with
  | none => rfl
  | some x =>
    have hm:b ∈ trk h H:=List.mem_filter.mpr ⟨List.mem_range.mpr (Heap.lt_size e'),by simp [q]⟩
    have z:(hidT h H).get? b = none:=PySem.W.hideAll_none (trk h H) hm
    rw [z] at e; cases e
noncomputable def allNews (g h:Heap) (L:Addr):List (Addr × Obj):=(List.range h.objs.size).filterMap fun a => if a = L ∨ (g.get? a).isSome = true then none else (h.get? a).map fun o => (a,o)
noncomputable def rest (g h:Heap) (L d:Addr):List (Addr × Obj):=(allNews g h L).filter fun p => decide (p.1 ≠ d)
end L2
namespace L2
open PySem PySem.Spec PyProof.Rows
structure Mod (K:PySem.W.Frag) (mg:Str → Option Value) (base:Heap):Prop where
  kin:K.In base
  glob:base.Ns mainGlobals mg
  blt:∃ mb,base.Ns builtinsNs mb ∧ ∀ x:Str,x ≠ "__name__" → mb x = bootBuiltins x
  nolimit:base.NoLimit
structure Cx where
  prog:Program
  w:World
  K:PySem.W.Frag
  mg:Str → Option Value
  base:Heap
  A:Around
  N:List Str
  s₀:Shared
  H₀:Hp
  env:Env
  outer:List Env
  stack:List Env
  ex:List Addr
  fn:Str → Bool
  calm:Bool
  pn:List (Addr × Obj)
  xe:Value → Shared → Prop
  kn:Option (Str → Option Value):=none
noncomputable def Cx.nd (X:Cx):Prop:=X.N.Nodup ∧ X.kn = none
noncomputable def frs (l:List Env):List Addr:=l.filterMap (·.frame)
noncomputable abbrev Cx.fs (X:Cx):List Addr:=frs X.outer
noncomputable def Vis (sc:Scope) (x:Str):Prop:=sc.names.lookup x = some .local ∨ sc.names.lookup x = some .cell ∨ sc.names.lookup x = some .free
noncomputable def Loc (sc:Scope) (x:Str):Prop:=sc.names.lookup x = some .local ∨ sc.names.lookup x = some .cell
noncomputable def Look (env:Env) (h:Heap) (m:Str → Option Value) (x:Str) (u:Value):Prop :=
  (env.kindOf x = some .local ∧ m x = some u) ∨ ((env.kindOf x = some .cell ∨ env.kindOf x = some .free) ∧ ∃ c,env.cells.lookup x = some c ∧ h.IsCell c (some u))
structure Cx.Ok (X:Cx):Prop where
  mod:Mod X.K X.mg X.base
  kind:X.env.scope.kind = .function
  glob:X.env.globals = mainGlobals
  blt:X.env.builtins = builtinsNs
  above:X.s₀.heap.objs.size ≤ X.env.locals
  inj:∀ x y c,X.env.cells.lookup x = some c → X.env.cells.lookup y = some c → x = y
  has:∀ x,(X.env.kindOf x = some .cell ∨ X.env.kindOf x = some .free) → ∃ c,X.env.cells.lookup x = some c
  cab:∀ x c,X.fn x = true → X.env.cells.lookup x = some c → X.s₀.heap.objs.size ≤ c
  hd:X.calm = true → X.A.handled = none
  frames:X.A.frames = some X.stack
  stk:X.stack = X.outer ∨ (X.stack = X.env :: X.outer ∧ X.env.frame = some X.env.locals)
  exf:∀ b ∈ X.ex,b ≠ X.env.locals ∧ ∀ x c,X.env.cells.lookup x = some c → c ≠ b
  bs:∀ b o,X.base.get? b = some o → X.s₀.heap.get? b = some o ∧ X.H₀ b = none
  bsz:X.base.objs.size ≤ X.s₀.heap.objs.size
  noex:∀ b o,X.base.get? b = some o → b ∉ X.ex
  exfs:∀ b ∈ X.ex,b ∉ X.fs
  funs:X.s₀.heap.FunFrames X.base X.outer
  frf:∀ b ∈ X.fs,X.H₀ b = none
structure Inv (X:Cx) (pins:List (Addr × Obj)) (σ:List (Option V)) (H:Hp) (s:Shared):Prop where
  ok:X.Ok
  os:s.os = X.s₀.os
  bare:AllBare s.gens
  base:Un X.fs X.ex X.H₀ H X.s₀.heap s.heap
  loc:∃ m,s.heap.Ns X.env.locals m ∧ ∀ (i:Nat) (x:Str) (v:V),X.N[i]? = some x → σ[i]? = some (some v) → Vis X.env.scope x → ∃ u,RelV v u ∧ Look X.env s.heap m x u
  cell:∀ x c,X.env.cells.lookup x = some c → ∃ v,s.heap.IsCell c v
  free:H X.env.locals = none
  freeC:∀ x c,X.env.cells.lookup x = some c → H c = none
  pin:∀ p ∈ X.pn ++ pins,s.heap.get? p.1 = some p.2 ∧ H p.1 = none ∧ p.1 ≠ X.env.locals ∧ p.1 ∉ X.fs ∧ ∀ v,p.2.data ≠ .cell v
  hok:HOk X.prog X.w H s.heap
  len:σ.length = X.N.length
  fx:∀ f,X.kn = some f → s.heap.Ns X.env.locals f
section
variable {X:Cx} {pins:List (Addr × Obj)} {σ:List (Option V)} {H H':Hp} {s:Shared} {h':Heap}
theorem Cx.Ok.nofr (ok:X.Ok) {b:Addr} {o:Obj} (e:X.base.get? b = some o):b ∉ X.fs:=fun hb => by
  have:=(ok.funs.mem hb).1
  rw [e] at this; cases this
theorem Inv.bs (I:Inv X pins σ H s):∀ b o,X.base.get? b = some o → s.heap.get? b = some o ∧ H b = none:=fun b o e =>
  ⟨I.base.keep b o (I.ok.bs b o e).1 (I.ok.bs b o e).2 (I.ok.nofr e) (I.ok.noex b o e),I.base.free b o (I.ok.bs b o e).1 (I.ok.bs b o e).2 (I.ok.noex b o e)⟩
theorem Inv.bk (I:Inv X pins σ H s):∀ b o,X.base.get? b = some o → s.heap.get? b = some o:=fun b o e => (I.bs b o e).1
theorem Inv.mod (I:Inv X pins σ H s):Mod X.K X.mg X.base:=I.ok.mod
theorem Inv.kIn (I:Inv X pins σ H s):X.K.In s.heap:=I.ok.mod.kin.keeps I.bk
theorem Inv.fr (I:Inv X pins σ H s):∃ m,Fr X.base X.env.locals s.heap m :=
  let ⟨m,hn,_⟩:=I.loc
  ⟨m,hn,I.bk,Nat.le_trans I.ok.bsz I.ok.above⟩
theorem Inv.lt (I:Inv X pins σ H s):X.env.locals < s.heap.objs.size:=let ⟨_,hn,_⟩:=I.loc; hn.lt
theorem Inv.sz (I:Inv X pins σ H s):X.s₀.heap.objs.size ≤ s.heap.objs.size:=Nat.le_trans I.ok.above (Nat.le_of_lt I.lt)
theorem Inv.nofs (I:Inv X pins σ H s) {a:Addr} (h:s.heap.objs.size ≤ a):a ∉ X.fs:=fun hb => by
  obtain ⟨_,o,ho,_⟩:=I.ok.funs.mem hb
  exact absurd (Nat.lt_of_lt_of_le (Heap.lt_size ho) (Nat.le_trans I.sz h)) (Nat.lt_irrefl _)
theorem Inv.cne (I:Inv X pins σ H s):∀ x c,X.env.cells.lookup x = some c → c ≠ X.env.locals:=fun x c e z => by
  obtain ⟨v,o,ho,hd⟩:=I.cell x c e
  obtain ⟨m,⟨o',es,ep,ho',hd',_⟩,_⟩:=I.loc
  rw [z,ho'] at ho; cases ho; rw [hd'] at hd; cases hd
theorem Inv.funs (I:Inv X pins σ H s):s.heap.FunFrames X.base X.outer:=by
  have all:∀ (l:List Env),(∀ b ∈ frs l,b ∈ X.fs) → X.s₀.heap.FunFrames X.base l → s.heap.FunFrames X.base l:=by
    intro l
    induction l with
    | nil => intro _ _; trivial
    | cons env r ih =>
      intro hs hl
      obtain ⟨hk,⟨L,o,hf,hn,ho,hd⟩,hr⟩:=hl
      have hL:L ∈ X.fs:=hs L (by unfold frs; rw [List.filterMap_cons,hf]; exact List.mem_cons_self)
      obtain ⟨sl,e⟩:=I.base.slot L o ho (I.ok.frf L hL) hL fun z => I.ok.exfs L z hL
      exact ⟨hk,⟨L,_,hf,hn,e,hd⟩,ih (fun b hb => hs b (by unfold frs; rw [List.filterMap_cons,hf]; exact List.mem_cons_of_mem _ hb)) hr⟩
  exact all X.outer (fun _ hb => hb) I.ok.funs
theorem Inv.stack (I:Inv X pins σ H s):s.heap.FunFrames X.base X.stack:=by
  rcases I.ok.stk with e | ⟨e,hf⟩
  · rw [e]; exact I.funs
  · rw [e]
    obtain ⟨m,hn,_⟩:=I.loc
    refine .cons (by rw [I.ok.kind]; decide) hf hn ?_ I.funs
    exact Heap.get?_none_of_le (Nat.le_trans I.ok.bsz I.ok.above)
theorem Inv.stkSub (I:Inv X pins σ H s):∀ b ∈ frs X.stack,b ∈ X.env.locals :: X.fs:=fun b hb => by
  rcases I.ok.stk with e | ⟨e,hf⟩
  · rw [e] at hb; exact List.mem_cons_of_mem _ hb
  · rw [e] at hb
    unfold frs at hb
    rw [List.filterMap_cons,hf] at hb
    exact hb
theorem Inv.stkFree (I:Inv X pins σ H s):∀ b ∈ frs X.stack,H b = none:=fun b hb => by
  rcases List.mem_cons.mp (I.stkSub b hb) with e | hb
  · rw [e]; exact I.free
  · obtain ⟨_,o,ho,_⟩:=I.ok.funs.mem hb
    exact I.base.free b o ho (I.ok.frf b hb) fun z => I.ok.exfs b z hb
theorem Inv.step {g':Array GenState} {t':Nat} {d':Drawn} {ch:List Addr} (I:Inv X pins σ H s)
    (hch:∀ b ∈ ch,(b ∈ X.ex ∨ X.s₀.heap.objs.size ≤ b) ∧ b ≠ X.env.locals ∧ (∀ x c,X.env.cells.lookup x = some c → c ≠ b) ∧ ∀ p ∈ X.pn ++ pins,p.1 ≠ b)
    (keep:∀ b o,b ≠ X.env.locals → b ∉ X.fs → b ∉ ch → s.heap.get? b = some o → H b = none → h'.get? b = some o)
    (slot:∀ b o,b ≠ X.env.locals → b ∈ X.fs → b ∉ ch → s.heap.get? b = some o → H b = none → ∃ sl,h'.get? b = some { o with slots:=sl }) (free:∀ b o,b ∉ ch → s.heap.get? b = some o → H b = none → H' b = none)
    (there:∀ b o,b ∉ ch → s.heap.get? b = some o → ∃ o',h'.get? b = some o')
    (tups:∀ b xs,H b = some (.tup xs) → H' b = some (.tup xs)) (frzs:∀ b o u,H b = some (.frz o u) → H' b = some (.frz o u)) (tbls:∀ b ps,H b = some (.tbl ps) → ∃ more,H' b = some (.tbl (ps ++ more)))
    (ns:∀ m,s.heap.Ns X.env.locals m → h'.Ns X.env.locals m) (hok:HOk X.prog X.w H' h') (hg:AllBare g') :
    Inv X pins σ H' { s with heap:=h',gens:=g',drawn:=d',toks:=t' }:=by
  have neL:∀ b o,X.s₀.heap.get? b = some o → b ≠ X.env.locals:=fun b o e => Nat.ne_of_lt (Nat.lt_of_lt_of_le (Heap.lt_size e) I.ok.above)
  have neC:∀ b o,X.s₀.heap.get? b = some o → b ∉ X.ex → b ∉ ch:=fun b o e hx hb => by
    rcases (hch b hb).1 with z | z
    · exact hx z
    · exact absurd (Nat.lt_of_lt_of_le (Heap.lt_size e) z) (Nat.lt_irrefl _)
  have cellK:∀ x c,X.env.cells.lookup x = some c → ∀ v,s.heap.IsCell c v → h'.IsCell c v:=fun x c e v ⟨o,ho,hd⟩ => by
    have nch:c ∉ ch:=fun z => (hch c z).2.2.1 x c e rfl
    by_cases hc:c ∈ X.fs
    · obtain ⟨sl,q⟩:=slot c o (I.cne x c e) hc nch ho (I.freeC x c e)
      exact ⟨_,q,hd⟩
    · exact ⟨o,keep c o (I.cne x c e) hc nch ho (I.freeC x c e),hd⟩
  refine ⟨I.ok,I.os,hg,⟨fun b o e n hb hx => ?_,fun b o e n hb hx => ?_,fun b o e n hx => ?_,fun b o e hx => ?_,fun b xs e => tups b xs (I.base.tups b xs e),fun b o xs e => frzs b o xs (I.base.frzs b o xs e),fun b ps e => ?_⟩,?_,fun x c e => ?_,?_,fun x c e => ?_,fun p hp => ?_,hok,I.len,fun f e => ns f (I.fx f e)⟩
  · exact keep b o (neL b o e) hb (neC b o e hx) (I.base.keep b o e n hb hx) (I.base.free b o e n hx)
  · obtain ⟨sl,e1⟩:=I.base.slot b o e n hb hx
    obtain ⟨sl',e2⟩:=slot b _ (neL b o e) hb (neC b o e hx) e1 (I.base.free b o e n hx)
    exact ⟨sl',e2⟩
  · obtain ⟨o',e1⟩:=I.base.there b o e hx
    exact free b o' (neC b o e hx) e1 (I.base.free b o e n hx)
  · obtain ⟨o',e1⟩:=I.base.there b o e hx
    exact there b o' (neC b o e hx) e1
  · obtain ⟨m1,e1⟩:=I.base.tbls b ps e
    obtain ⟨m2,e2⟩:=tbls b _ e1
    exact ⟨m1 ++ m2,by rw [e2,Array.append_assoc]⟩
  · obtain ⟨m,hn,hl⟩:=I.loc
    refine ⟨m,ns m hn,fun i x v e1 e2 e3 => ?_⟩
    obtain ⟨u,r,l⟩:=hl i x v e1 e2 e3
    refine ⟨u,r,?_⟩
    rcases l with l | ⟨k,c,e,z⟩
    · exact .inl l
    · exact .inr ⟨k,c,e,cellK x c e _ z⟩
  · obtain ⟨v,z⟩:=I.cell x c e
    exact ⟨v,cellK x c e v z⟩
  · obtain ⟨m,⟨o,_,_,ho,_⟩,_⟩:=I.loc
    exact free _ o (fun z => (hch _ z).2.1 rfl) ho I.free
  · obtain ⟨v,o,ho,hd⟩:=I.cell x c e
    exact free c o (fun z => (hch c z).2.2.1 x c e rfl) ho (I.freeC x c e)
  · obtain ⟨e,n,ne,nf,d⟩:=I.pin p hp
    have nch:p.1 ∉ ch:=fun z => (hch p.1 z).2.2.2 p hp rfl
    exact ⟨keep p.1 p.2 ne nf nch e n,free p.1 p.2 nch e n,ne,nf,d⟩
theorem Inv.un {t':Nat} (I:Inv X pins σ H s) (u:Un X.fs [] H H' s.heap h') (hok:HOk X.prog X.w H' h'):Inv X pins σ H' { s with heap:=h',toks:=t' }:=by
  obtain ⟨m,⟨o,es,ep,ho,r⟩,_⟩:=id I.loc
  obtain ⟨sl,hL⟩:=u.any ho I.free (by simp)
  exact I.step (g':=s.gens) (d':=s.drawn) (ch:=[]) (fun _ z => nomatch z) (fun b o _ hb _ e n => u.keep b o e n hb (by simp)) (fun b o _ hb _ e n => u.slot b o e n hb (by simp)) (fun b o _ e n => u.free b o e n (by simp)) (fun b o _ e => u.there b o e (by simp)) u.tups u.frzs u.tbls (fun m' hm => by
    obtain ⟨o',es',ep',ho',r'⟩:=hm
    rw [ho] at ho'; cases ho'
    exact ⟨_,es',ep',hL,r'⟩) hok I.bare
theorem Inv.call {g':Array GenState} {t':Nat} {d':Drawn} {ch:List Addr} (I:Inv X pins σ H s) (u:Un (frs X.stack) ch H H' s.heap h') (hok:HOk X.prog X.w H' h') (hg:AllBare g')
    (hch:∀ b ∈ ch,(b ∈ X.ex ∨ X.s₀.heap.objs.size ≤ b) ∧ b ≠ X.env.locals ∧ (∀ x c,X.env.cells.lookup x = some c → c ≠ b) ∧ ∀ p ∈ X.pn ++ pins,p.1 ≠ b) :
    Inv X pins σ H' { s with heap:=h',gens:=g',drawn:=d',toks:=t' }:=by
  obtain ⟨m,⟨o,es,ep,ho,r⟩,_⟩:=id I.loc
  obtain ⟨sl,hL⟩:=u.any ho I.free fun z => (hch _ z).2.1 rfl
  exact I.step (ch:=ch) hch (fun b o hL hb hc e n => u.keep b o e n (fun z => (List.mem_cons.mp (I.stkSub b z)).elim hL hb) hc) (fun b o _ _ hc e n => u.any e n hc) (fun b o hc e n => u.free b o e n hc) (fun b o hc e => u.there b o e hc) u.tups u.frzs u.tbls (fun m' hm => by
    obtain ⟨o',es',ep',ho',r'⟩:=hm
    rw [ho] at ho'; cases ho'
    exact ⟨_,es',ep',hL,r'⟩) hok hg
theorem Inv.turned {t':Nat} {it:Addr} (I:Inv X pins σ H s) (k:∀ b o,b ≠ it → s.heap.get? b = some o → h'.get? b = some o) (hn:H it = none) (hL:it ≠ X.env.locals)
    (h1:it ∈ X.ex ∨ X.s₀.heap.objs.size ≤ it) (h2:∀ x c,X.env.cells.lookup x = some c → c ≠ it) (h3:∀ p ∈ X.pn ++ pins,p.1 ≠ it):Inv X pins σ H { s with heap:=h',toks:=t' }:=by
  have nit:∀ b u,H b = some u → b ≠ it:=fun b u e z => by rw [z,hn] at e; cases e
  refine I.step (g':=s.gens) (d':=s.drawn) (ch:=[it]) (fun b hb => ?_) (fun b o _ _ hc e _ => k b o (fun z => hc (by simp [z])) e) (fun b o _ _ hc e _ => ⟨o.slots,k b o (fun z => hc (by simp [z])) e⟩) (fun _ _ _ _ n => n)
    (fun b o hc e => ⟨o,k b o (fun z => hc (by simp [z])) e⟩) (fun _ _ e => e) (fun _ _ _ e => e) (fun b ps e => ⟨#[],by rw [e]; simp⟩) (fun m hm => ?_) (fun b u e => ?_) I.bare
  · have e:b = it:=by simpa using hb
    subst e
    exact ⟨h1,hL,h2,h3⟩
  · obtain ⟨o,es,ep,ho,r⟩:=hm
    exact ⟨o,es,ep,k _ o (Ne.symm hL) ho,r⟩
  · refine (I.hok b u e).stay (fun c v hc q => k c v ?_ q) (fun _ q => q) fun _ _ q => q
    rcases hc with z | z
    · rw [z]; exact nit b u e
    · exact nit c _ z
theorem Inv.tok (I:Inv X pins σ H s) (t:Nat):Inv X pins σ H { s with toks:=t }:=I.un (h':=s.heap) (t':=t) Un.refl I.hok
theorem Inv.kept {t':Nat} (I:Inv X pins σ H s) (k:∀ b u,s.heap.get? b = some u → h'.get? b = some u):Inv X pins σ H { s with heap:=h',toks:=t' }:=I.un (Un.kept k) (I.hok.kept k)
theorem Inv.laid {a:Addr} {o:HO} {t':Nat} (I:Inv X pins σ H s) (k:∀ b u,s.heap.get? b = some u → h'.get? b = some u) (hp:s.heap.objs.size ≤ a) (new:ObjOk X.prog X.w (upd H a o) h' a o) :
    Inv X pins σ (upd H a o) { s with heap:=h',toks:=t' }:=I.un (Un.laid k hp (I.hok.fresh hp)) (I.hok.laid k hp new)
theorem Inv.write {x e:Addr} {o:HO} {t':Nat} (I:Inv X pins σ H s) (mu:Mut (H x)) (he:e = x ∨ H e = some (.own x)) (k:∀ b u,b ≠ e → s.heap.get? b = some u → h'.get? b = some u) (heo:∃ u,h'.get? e = some u)
    (new:ObjOk X.prog X.w (upd H x o) h' x o):Inv X pins σ (upd H x o) { s with heap:=h',toks:=t' }:=I.un (Un.write mu he k heo) (I.hok.write mu he k heo new)
theorem Inv.pins_of {pins':List (Addr × Obj)} (I:Inv X pins σ H s) (h:∀ p ∈ pins',s.heap.get? p.1 = some p.2 ∧ H p.1 = none ∧ p.1 ≠ X.env.locals ∧ p.1 ∉ X.fs ∧ ∀ v,p.2.data ≠ .cell v):Inv X pins' σ H s :=
  ⟨I.ok,I.os,I.bare,I.base,I.loc,I.cell,I.free,I.freeC,fun p hp => (List.mem_append.mp hp).elim (fun z => I.pin p (List.mem_append_left _ z)) (h p),I.hok,I.len,I.fx⟩
theorem nodup_ix {N:List Str} (hN:N.Nodup) {i j:Nat} {x:Str} (a:N[i]? = some x) (b:N[j]? = some x):i = j:=by
  obtain ⟨h1,e1⟩:=List.getElem?_eq_some_iff.mp a
  obtain ⟨h2,e2⟩:=List.getElem?_eq_some_iff.mp b
  exact (List.getElem_inj hN).mp (e1.trans e2.symm)
theorem store_ok2 {M:Model} {A:Around} {E:Value → Shared → Prop} {i:Nat} {x:Str} {v:V} {u:Value} {Q:Unit → Shared → Prop} (I:Inv X pins σ H s) (hN:X.nd) (hi:X.N[i]? = some x) (hx:Loc X.env.scope x) (r:RelV v u)
    (h:∀ s',Inv X pins (σ.set i (some v)) H s' → (∃ a,Heap.SameBut a s.heap s'.heap ∧ (a = X.env.locals ∨ X.env.cells.lookup x = some a)) → Q () s') (hf:X.fn x = true ∨ X.env.scope.names.lookup x = some .local:=by first | exact .inl rfl | exact .inr rfl | assumption):wpAny M A (storeName X.env x u) Q E s:=by
  obtain ⟨m,hn,hl⟩:=id I.loc
  have hcls:(X.env.scope.kind == .class || (X.env.scope.kind == .module && X.env.locals != X.env.globals)) = false:=by rw [I.ok.kind]; rfl
  have hiσ:i < σ.length:=by rw [I.len]; exact (List.getElem?_eq_some_iff.mp hi).1
  have cne:=I.cne
  have tracked:∀ {a:Addr} {h':Heap},(∃ o,s.heap.get? a = some o ∧ H a = none) → Heap.SameBut a s.heap h' → HOk X.prog X.w H h':=fun {a h'} ha hs b ob e => by
    obtain ⟨_,_,hfree⟩:=ha
    refine (I.hok b ob e).stay (fun c w' hc q => (hs.2 c ?_).trans q) (fun _ q => q) fun _ _ q => q
    rintro rfl
    rcases hc with rfl | hc
    · rw [hfree] at e; cases e
    · rw [hfree] at hc; cases hc
  rcases hx with hk | hk
  · refine wpAny_storeName_local hk hn (fun h' hn' hs => ?_) hcls
    obtain ⟨oL,_,_,hoL,_⟩:=id hn
    refine h _ ⟨I.ok,I.os,I.bare,⟨fun b o e n hb hx => ?_,fun b o e n hb hx => ?_,I.base.free,fun b o e hx => ?_,I.base.tups,I.base.frzs,I.base.tbls⟩,⟨_,hn',fun j y v' e1 e2 e3 => ?_⟩,fun y c e => ?_,I.free,I.freeC,fun p hp => ?_,tracked ⟨oL,hoL,I.free⟩ hs,by simpa using I.len,fun f e => by rw [hN.2] at e; cases e⟩ ⟨_,hs,.inl rfl⟩
    · exact (hs.2 b (Nat.ne_of_lt (Nat.lt_of_lt_of_le (Heap.lt_size e) I.ok.above))).trans (I.base.keep b o e n hb hx)
    · obtain ⟨sl,e1⟩:=I.base.slot b o e n hb hx
      exact ⟨sl,(hs.2 b (Nat.ne_of_lt (Nat.lt_of_lt_of_le (Heap.lt_size e) I.ok.above))).trans e1⟩
    · obtain ⟨o',e1⟩:=I.base.there b o e hx
      exact ⟨o',(hs.2 b (Nat.ne_of_lt (Nat.lt_of_lt_of_le (Heap.lt_size e) I.ok.above))).trans e1⟩
    · by_cases hj:j = i
      · subst hj
        rw [hi] at e1; cases e1
        rw [List.getElem?_set_self hiσ] at e2
        cases e2
        exact ⟨u,r,.inl ⟨hk,by simp⟩⟩
      · rw [List.getElem?_set_ne (Ne.symm hj)] at e2
        obtain ⟨u',r',q⟩:=hl j y v' e1 e2 e3
        refine ⟨u',r',?_⟩
        rcases q with ⟨k,e⟩ | ⟨k,c,e,z⟩
        · refine .inl ⟨k,?_⟩
          have:y ≠ x:=fun e => hj (nodup_ix hN.1 e1 (e ▸ hi))
          simp [this,e]
        · exact .inr ⟨k,c,e,z.sameBut hs (cne y c e)⟩
    · obtain ⟨w',z⟩:=I.cell y c e
      exact ⟨w',z.sameBut hs (cne y c e)⟩
    · obtain ⟨e,n,ne,nf,d⟩:=I.pin p hp
      exact ⟨(hs.2 p.1 ne).trans e,n,ne,nf,d⟩
  · have hfn:X.fn x = true:=by
      rcases hf with z | z
      · exact z
      · rw [z] at hk; cases hk
    obtain ⟨c,hc⟩:=I.ok.has x (.inl hk)
    obtain ⟨w',z⟩:=I.cell x c hc
    refine wpAny_storeName_cell I.ok.kind hk hc z (fun h' hc' hs => ?_)
    obtain ⟨oc,hoc,hocd⟩:=id z
    refine h { s with heap:=h' } ⟨I.ok,I.os,I.bare,⟨fun b o e n hb hx => ?_,fun b o e n hb hx => ?_,I.base.free,fun b o e hx => ?_,I.base.tups,I.base.frzs,I.base.tbls⟩,⟨m,hn.sameBut hs (Ne.symm (cne x c hc)),fun j y v' e1 e2 e3 => ?_⟩,fun y c' e => ?_,I.free,I.freeC,fun p hp => ?_,tracked ⟨oc,hoc,I.freeC x c hc⟩ hs,by simpa using I.len,fun f e => by rw [hN.2] at e; cases e⟩ ⟨c,hs,.inr hc⟩
    · exact (hs.2 b (Nat.ne_of_lt (Nat.lt_of_lt_of_le (Heap.lt_size e) (I.ok.cab x c hfn hc)))).trans (I.base.keep b o e n hb hx)
    · obtain ⟨sl,e1⟩:=I.base.slot b o e n hb hx
      exact ⟨sl,(hs.2 b (Nat.ne_of_lt (Nat.lt_of_lt_of_le (Heap.lt_size e) (I.ok.cab x c hfn hc)))).trans e1⟩
    · obtain ⟨o',e1⟩:=I.base.there b o e hx
      exact ⟨o',(hs.2 b (Nat.ne_of_lt (Nat.lt_of_lt_of_le (Heap.lt_size e) (I.ok.cab x c hfn hc)))).trans e1⟩
    · by_cases hj:j = i
      · subst hj
        rw [hi] at e1; cases e1
        rw [List.getElem?_set_self hiσ] at e2
        cases e2
        exact ⟨u,r,.inr ⟨.inl hk,c,hc,hc'⟩⟩
      · rw [List.getElem?_set_ne (Ne.symm hj)] at e2
        obtain ⟨u',r',q⟩:=hl j y v' e1 e2 e3
        refine ⟨u',r',?_⟩
        rcases q with q | ⟨k,c',e,z'⟩
        · exact .inl q
        · refine .inr ⟨k,c',e,z'.sameBut hs ?_⟩
          rintro rfl
          exact hj (nodup_ix hN.1 e1 (I.ok.inj _ _ _ e hc ▸ hi))
    · by_cases hcc:c' = c
      · subst hcc; exact ⟨_,hc'⟩
      · obtain ⟨w2,z2⟩:=I.cell y c' e
        exact ⟨w2,z2.sameBut hs hcc⟩
    · obtain ⟨e,n,ne,nf,d⟩:=I.pin p hp
      refine ⟨(hs.2 p.1 ?_).trans e,n,ne,nf,d⟩
      intro q
      rw [q,hoc] at e
      have q':oc = p.2:=Option.some.inj e
      exact d w' (by rw [← q']; exact hocd)
theorem store_ok {M:Model} {A:Around} {E:Value → Shared → Prop} {i:Nat} {x:Str} {v:V} {u:Value} {Q:Unit → Shared → Prop} (I:Inv X pins σ H s) (hN:X.nd) (hi:X.N[i]? = some x) (hx:Loc X.env.scope x) (r:RelV v u)
    (h:∀ s',Inv X pins (σ.set i (some v)) H s' → Q () s') (hf:X.fn x = true ∨ X.env.scope.names.lookup x = some .local:=by first | exact .inl rfl | exact .inr rfl | assumption):wpAny M A (storeName X.env x u) Q E s :=
  store_ok2 I hN hi hx r (fun s' I' _ => h s' I') hf
end
noncomputable abbrev XK:=Value → Option Addr → Hp → Prop
noncomputable abbrev St:=List (Option V)
noncomputable abbrev VK:=V → Hp → Prop
noncomputable abbrev TE:=St → Hp → VK → Prop
noncomputable abbrev TT:=St → Hp → (Bool → Hp → Prop) → Prop
noncomputable abbrev TA:=St → Hp → (List V → Hp → Prop) → Prop
structure Ends where
  nx:St → Hp → Prop
  rt:VK
  bk:St → Hp → Prop:=fun _ _ => False
  ct:St → Hp → Prop:=fun _ _ => False
noncomputable abbrev TS:=Ends → St → Hp → Prop
noncomputable def EP (X:Cx) (pins:List (Addr × Obj)) (σ:St) (Q:VK) (u:Value) (s':Shared):Prop:=∃ v H',Inv X pins σ H' s' ∧ RelV v u ∧ Q v H'
noncomputable def TP (X:Cx) (pins:List (Addr × Obj)) (σ:St) (Q:Bool → Hp → Prop) (b:Bool) (s':Shared):Prop:=∃ H',Inv X pins σ H' s' ∧ Q b H'
noncomputable def AP (X:Cx) (pins:List (Addr × Obj)) (σ:St) (Q:List V → Hp → Prop) (us:List Value) (s':Shared):Prop:=∃ vs H',Inv X pins σ H' s' ∧ Vals vs us ∧ Q vs H'
noncomputable def SP (X:Cx) (pins:List (Addr × Obj)) (D:Ends) (f:Flow) (s':Shared):Prop :=
  match f with
  | .next => ∃ σ' H',Inv X pins σ' H' s' ∧ D.nx σ' H'
  | .brk => ∃ σ' H',Inv X pins σ' H' s' ∧ D.bk σ' H'
  | .cont => ∃ σ' H',Inv X pins σ' H' s' ∧ D.ct σ' H'
  | .ret u => ∃ v σ' H',Inv X pins σ' H' s' ∧ RelV v u ∧ D.rt v H'
noncomputable def PE (X:Cx) (e:Expr) (t:TE):Prop :=
  ∀ (pins:List (Addr × Obj)) (s:Shared) (σ:St) (H:Hp) (Q:VK),Inv X pins σ H s → t σ H Q → wpAny (model X.prog X.w) X.A (eval e X.env) (EP X pins σ Q) X.xe s
noncomputable def PT (X:Cx) (e:Expr) (t:TT):Prop :=
  ∀ (pins:List (Addr × Obj)) (s:Shared) (σ:St) (H:Hp) (Q:Bool → Hp → Prop),Inv X pins σ H s → t σ H Q → wpAny (model X.prog X.w) X.A (isTrue e X.env (eval e X.env)) (TP X pins σ Q) X.xe s
noncomputable def PW (X:Cx) (e:Expr) (t:TT):Prop :=
  ∀ (whole:Sem Value) (pins:List (Addr × Obj)) (s:Shared) (σ:St) (H:Hp) (Q:Bool → Hp → Prop),Inv X pins σ H s → t σ H Q → wpAny (model X.prog X.w) X.A (isTrue e X.env whole) (TP X pins σ Q) X.xe s
theorem PW.pt {X:Cx} {e:Expr} {t:TT} (h:PW X e t):PT X e t:=h _
noncomputable def PA (X:Cx) (es:List Expr) (t:TA):Prop :=
  ∀ (pos:Pos) (pins:List (Addr × Obj)) (s:Shared) (σ:St) (H:Hp) (Q:List V → Hp → Prop),Inv X pins σ H s → t σ H Q → wpAny (model X.prog X.w) X.A (spliced (backTo pos (starEach es X.env))) (AP X pins σ Q) X.xe s
noncomputable def PS (X:Cx) (st:Stmt) (t:TS):Prop :=
  ∀ (pins:List (Addr × Obj)) (s:Shared) (σ:St) (H:Hp) (D:Ends),Inv X pins σ H s → t D σ H → wpAny (model X.prog X.w) X.A (exec st X.env) (SP X pins D) X.xe s
noncomputable def PSs (X:Cx) (st:List Stmt) (t:TS):Prop :=
  ∀ (pins:List (Addr × Obj)) (s:Shared) (σ:St) (H:Hp) (D:Ends),Inv X pins σ H s → t D σ H → wpAny (model X.prog X.w) X.A (execs st X.env) (SP X pins D) X.xe s
theorem thn {α:Type} {t:Sem α} {Q Q':α → Shared → Prop} {M:Model} {A:Around} {E:Value → Shared → Prop} {s:Shared} (h:wpAny M A t Q E s) (hQ:∀ a s,Q a s → Q' a s):wpAny M A t Q' E s:=wpAny_mono h hQ fun _ _ x => x
end L2
namespace L2
open PySem PySem.Spec PyProof.Rows
section
variable {X:Cx}
theorem bin {a b:Expr} {ta tb:TE} (ha:PE X a ta) (hb:PE X b tb) {pins:List (Addr × Obj)} {s:Shared} {σ:St} {H:Hp} {R:V → V → Hp → Prop} (I:Inv X pins σ H s) (h:ta σ H fun x H1 => tb σ H1 fun y H2 => R x y H2)
    {α:Type} {Q:α → Shared → Prop} {f:Value → Value → Sem α}
    (hf:∀ v u s2 x y H2,Inv X pins σ H2 s2 → RelV x v → RelV y u → R x y H2 → wpAny (model X.prog X.w) X.A (f v u) Q X.xe s2) :
    wpAny (model X.prog X.w) X.A (eval a X.env) (fun v s₁ => wpAny (model X.prog X.w) X.A (eval b X.env) (fun u s₂ => wpAny (model X.prog X.w) X.A (f v u) Q X.xe s₂) X.xe s₁) X.xe s:=by
  refine thn (ha pins s σ H _ I h) fun v s1 ⟨x,H1,I1,r1,q1⟩ => ?_
  refine thn (hb pins s1 σ H1 _ I1 q1) fun u s2 ⟨y,H2,I2,r2,q2⟩ => ?_
  exact hf v u s2 x y H2 I2 r1 r2 q2
noncomputable def tVar (i:Nat):TE:=fun σ H Q => ∃ v,σ[i]? = some (some v) ∧ Q v H
noncomputable def tC (v:V):TE:=fun _ H Q => Q v H
theorem pe_var {i:Nat} {x:Str} {pos:Pos} (hN:X.N[i]? = some x) (hv:Vis X.env.scope x) (hd:(x == ("__debug__":Str)) = false:=by decide) (hcd:(x == ("__classdict__":Str)) = false:=by decide):PE X (.Name x pos) (tVar i):=by
  intro pins s σ H Q I h
  obtain ⟨v,e,h⟩:=h
  obtain ⟨m,hn,hl⟩:=I.loc
  obtain ⟨u,r,l⟩:=hl i x v hN e hv
  have fin:EP X pins σ Q u s:=⟨v,H,I,r,h⟩
  rcases l with ⟨hk,hm⟩ | ⟨hk,c,hc,hcell⟩
  · exact wpAny_Name (wpAny_loadName_local I.ok.kind hk hn hm fin) hd
  · rcases hk with hk | hk
    · exact wpAny_Name (wpAny_loadName_cell I.ok.kind hk hc hcell fin) hd
    · exact wpAny_Name (wpAny_loadName_free I.ok.kind hk hc hcell fin hcd) hd
theorem pe_int {i j pos}:PE X (.Constant (.int i) j pos) (tC (.int i)):=fun _ _ _ H _ I h => wpAny_Constant_int ⟨.int i,H,I.tok _,⟨_,rfl⟩,h⟩
theorem pe_non {j pos}:PE X (.Constant .none j pos) (tC .non):=fun _ _ _ H _ I h => Constant_none ⟨.non,H,I,rfl,h⟩
theorem pe_str {x j pos}:PE X (.Constant (.str x) j pos) (tC (.str x)):=fun _ _ _ H _ I h => Calls.Constant_str ⟨.str x,H,I.tok _,⟨_,rfl⟩,h⟩
noncomputable def Gl (X:Cx) (x:Str):Prop:=X.env.kindOf x = some .globalImplicit
theorem ld_glob {E:Value → Shared → Prop} {pins:List (Addr × Obj)} {s:Shared} {σ:St} {H:Hp} {x:Str} {u:Value} {pos:Pos} {Q:Value → Shared → Prop} (I:Inv X pins σ H s) (hg:Gl X x) (hm:X.mg x = some u) (h:Q u s)
    (hd:(x == ("__debug__":Str)) = false:=by decide):wpAny (model X.prog X.w) X.A (eval (.Name x pos) X.env) Q E s :=
  Calls.Name_function_global I.ok.kind hg (Calls.loadGlobal_global (by rw [I.ok.glob]; exact I.mod.glob.keeps I.bk) hm h) hd
theorem ld_blt {E:Value → Shared → Prop} {pins:List (Addr × Obj)} {s:Shared} {σ:St} {H:Hp} {x:Str} {u:Value} {pos:Pos} {Q:Value → Shared → Prop} (I:Inv X pins σ H s) (hg:Gl X x) (hm:X.mg x = none) (hv:bootBuiltins x = some u) (h:Q u s)
    (hn:x ≠ "__name__":=by decide) (hd:(x == ("__debug__":Str)) = false:=by decide):wpAny (model X.prog X.w) X.A (eval (.Name x pos) X.env) Q E s:=by
  obtain ⟨mb,h1,h2⟩:=I.mod.blt
  exact Calls.Name_function_global I.ok.kind hg (Calls.loadGlobal_builtin (by rw [I.ok.glob]; exact I.mod.glob.keeps I.bk) hm (by rw [I.ok.blt]; exact h1.keeps I.bk) ((h2 x hn).trans hv) h) hd
theorem pe_glob {x:Str} {v:V} {u:Value} {pos:Pos} (hg:Gl X x) (hm:X.mg x = some u) (r:RelV v u) (hd:(x == ("__debug__":Str)) = false:=by decide):PE X (.Name x pos) (tC v) :=
  fun _ _ _ H _ I h => ld_glob I hg hm ⟨v,H,I,r,h⟩ hd
theorem pe_bltn {x:Str} {v:V} {u:Value} {pos:Pos} (hg:Gl X x) (hm:X.mg x = none) (hv:bootBuiltins x = some u) (r:RelV v u) (hn:x ≠ "__name__":=by decide) (hd:(x == ("__debug__":Str)) = false:=by decide):PE X (.Name x pos) (tC v) :=
  fun _ _ _ H _ I h => ld_blt I hg hm hv ⟨v,H,I,r,h⟩ hn hd
variable {a b:Expr} {ta tb:TE} {pos:Pos}
noncomputable def PC (X:Cx) (op:CmpOp) (a b:Expr) (t:TE):Prop :=
  ∀ (pins:List (Addr × Obj)) (s:Shared) (σ:St) (H:Hp) (Q:VK),Inv X pins σ H s → t σ H Q →
    wpAny (model X.prog X.w) X.A (eval a X.env) (fun v s₁ => wpAny (model X.prog X.w) X.A (eval b X.env) (fun u s₂ => wpAny (model X.prog X.w) X.A (compareOp op v u) (EP X pins σ Q) X.xe s₂) X.xe s₁) X.xe s
theorem nobehind (b:Expr) {op:CmpOp} (h:op ≠ .In) (h2:op ≠ .NotIn):behindInMarks op b = false:=by
  have e1:(op == CmpOp.In) = false:=by cases op <;> first | rfl | exact absurd rfl h
  have e2:(op == CmpOp.NotIn) = false:=by cases op <;> first | rfl | exact absurd rfl h2
  cases b <;> simp [behindInMarks,e1,e2]
noncomputable def tB (t:TE):TT:=fun σ H Q => t σ H fun x H1 => ∃ c,x = .bl c ∧ Q c H1
theorem pt_cmp {op:CmpOp} {t:TE} (h:PC X op a b t) (h1:behindInMarks op b = false:=by first | exact nobehind _ (by decide) (by decide) | rfl):PT X (.Compare a [op] [b] pos) (tB t):=by
  intro pins s σ H Q I hw
  refine wpAny_isTrue_Compare1 (thn (h pins s σ H _ I hw) fun v s1 h1 => thn h1 fun u s2 h2 => thn h2 fun c s3 ⟨x,H1,I1,r1,q1⟩ => ?_) h1
  obtain ⟨d,rfl,q⟩:=q1
  cases r1
  exact wpAny_truthy_bool ⟨H1,I1,q⟩
variable {tA tB':TT} {rest:List Expr}
noncomputable def tAnd (t u:TT):TT:=fun σ H Q => t σ H fun c H1 => if c = true then u σ H1 Q else Q false H1
noncomputable def tOr (t u:TT):TT:=fun σ H Q => t σ H fun c H1 => if c = true then Q true H1 else u σ H1 Q
noncomputable def tNot (t:TT):TT:=fun σ H Q => t σ H fun c H1 => Q (!c) H1
theorem pw_and1 (ha:PT X a tA):PW X (.BoolOp .And [a] pos) tA:=by
  intro wh pins s σ H Q I h
  refine isTrue_and (thn (ha pins s σ H Q I h) fun c s1 e => ?_)
  cases c with
  | true => exact isTrue_and_nil e
  | false => exact e
theorem pw_or1 (ha:PT X a tA):PW X (.BoolOp .Or [a] pos) tA:=by
  intro wh pins s σ H Q I h
  refine isTrue_or (thn (ha pins s σ H Q I h) fun c s1 e => ?_)
  cases c with
  | false => exact isTrue_or_nil e
  | true => exact e
theorem pw_and (ha:PT X a tA) (hb:PW X (.BoolOp .And (b :: rest) pos) tB'):PW X (.BoolOp .And (a :: b :: rest) pos) (tAnd tA tB'):=by
  intro wh pins s σ H Q I h
  refine isTrue_and (thn (ha pins s σ H _ I h) fun c s1 ⟨H1,I1,q1⟩ => ?_)
  cases c with
  | true => exact hb wh pins s1 σ H1 Q I1 q1
  | false => exact ⟨H1,I1,q1⟩
theorem pw_or (ha:PT X a tA) (hb:PW X (.BoolOp .Or (b :: rest) pos) tB'):PW X (.BoolOp .Or (a :: b :: rest) pos) (tOr tA tB'):=by
  intro wh pins s σ H Q I h
  refine isTrue_or (thn (ha pins s σ H _ I h) fun c s1 ⟨H1,I1,q1⟩ => ?_)
  cases c with
  | true => exact ⟨H1,I1,q1⟩
  | false => exact hb wh pins s1 σ H1 Q I1 q1
theorem pt_not (ha:PT X a tA):PT X (.UnaryOp .Not a pos) (tNot tA):=by
  intro pins s σ H Q I h
  exact isTrue_not (ha pins s σ H (fun c H1 => Q (!c) H1) I h)
noncomputable def tAndV (ta tb:TE):TE:=fun σ H Q => ta σ H fun x H1 => ∃ c,x = .bl c ∧ if c = true then tb σ H1 Q else Q (.bl false) H1
noncomputable def tOrV (ta tb:TE):TE:=fun σ H Q => ta σ H fun x H1 => ∃ c,x = .bl c ∧ if c = true then Q (.bl true) H1 else tb σ H1 Q
noncomputable def tNotV (ta:TE):TE:=fun σ H Q => ta σ H fun x H1 => ∃ c,x = .bl c ∧ Q (.bl (!c)) H1
theorem pe_one {op} {t:TE} (h:PE X a t):PE X (.BoolOp op [a] pos) t:=fun pins s σ H Q I hw => BoolOp_one (h pins s σ H Q I hw)
theorem pe_and (ha:PE X a ta) (hb:PE X (.BoolOp .And (b :: rest) pos) tb):PE X (.BoolOp .And (a :: b :: rest) pos) (tAndV ta tb):=by
  intro pins s σ H Q I h
  refine BoolOp_and (thn (ha pins s σ H _ I h) fun v s1 ⟨x,H1,I1,r1,q1⟩ => ?_)
  obtain ⟨c,rfl,q1⟩:=q1
  cases r1
  refine wpAny_truthy_bool ?_
  cases c with
  | true => exact hb pins s1 σ H1 Q I1 q1
  | false => exact ⟨.bl false,H1,I1,rfl,q1⟩
theorem pe_or (ha:PE X a ta) (hb:PE X (.BoolOp .Or (b :: rest) pos) tb):PE X (.BoolOp .Or (a :: b :: rest) pos) (tOrV ta tb):=by
  intro pins s σ H Q I h
  refine BoolOp_or (thn (ha pins s σ H _ I h) fun v s1 ⟨x,H1,I1,r1,q1⟩ => ?_)
  obtain ⟨c,rfl,q1⟩:=q1
  cases r1
  refine wpAny_truthy_bool ?_
  cases c with
  | false => exact hb pins s1 σ H1 Q I1 q1
  | true => exact ⟨.bl true,H1,I1,rfl,q1⟩
theorem pe_not (ha:PE X a ta):PE X (.UnaryOp .Not a pos) (tNotV ta):=by
  intro pins s σ H Q I h
  refine UnaryOp_ (thn (ha pins s σ H _ I h) fun v s1 ⟨x,H1,I1,r1,q1⟩ => ?_)
  obtain ⟨c,rfl,q1⟩:=q1
  cases r1
  exact not_of (wpAny_truthy_bool ⟨.bl (!c),H1,I1,rfl,q1⟩)
noncomputable def tIf (t:TT) (ta tb:TE):TE:=fun σ H Q => t σ H fun c H1 => if c = true then ta σ H1 Q else tb σ H1 Q
theorem pe_ifExp {c:Expr} (hc:PT X c tA) (ha:PE X a ta) (hb:PE X b tb):PE X (.IfExp c a b pos) (tIf tA ta tb):=by
  intro pins s σ H Q I h
  refine wpAny_IfExp (thn (hc pins s σ H _ I h) fun d s1 ⟨H1,I1,q1⟩ => ?_)
  cases d with
  | true => exact ha pins s1 σ H1 Q I1 q1
  | false => exact hb pins s1 σ H1 Q I1 q1
end
end L2
namespace L2
open PySem PySem.Spec PyProof.Rows
noncomputable def SqL (K:PySem.W.Frag) (H:Hp) (a:Addr) (xs:List V):Prop :=
  Rd H a (.lst xs) ∨
    ∃ (o:Obj) (its:Array Value) (n:Nat),K.lookup a = some o ∧ o.cls = .type "list" ∧ o.dict = none ∧ o.data = .seq its n ∧ its.size ≤ sizeLine ∧ Vals xs its.toList
noncomputable def SqT (K:PySem.W.Frag) (H:Hp) (a:Addr) (xs:List V):Prop :=
  Rd H a (.tup xs) ∨
    ∃ (o:Obj) (its:Array Value) (n:Nat),K.lookup a = some o ∧ o.cls = .type "tuple" ∧ o.data = .seq its n ∧ its.size ≤ sizeLine ∧ Vals xs its.toList
section
variable {X:Cx} {pins:List (Addr × Obj)} {σ:St} {H:Hp} {s:Shared} {a:Addr} {xs ys:List V}
theorem SqL.of {K:PySem.W.Frag} (h:H a = some (.lst xs)):SqL K H a xs:=.inl (.inl h)
theorem SqT.of {K:PySem.W.Frag} (h:H a = some (.tup xs)):SqT K H a xs:=.inl (.inl h)
theorem Inv.list (I:Inv X pins σ H s) (h:SqL X.K H a xs):∃ its:List Value,Vals xs its ∧ PlainL s.heap a its.toArray ∧ xs.length ≤ sizeLine:=by
  rcases h with h | ⟨o,its,n,hk,hc,hd,hs,hz,r⟩
  · obtain ⟨z,its,n,r,e⟩:=h.ok I.hok
    exact ⟨its,r,⟨_,n,e,rfl,rfl,rfl⟩,z⟩
  · refine ⟨its.toList,r,⟨o,n,I.kIn a o hk,hc,hd,by simpa using hs⟩,?_⟩
    have e:=r.length
    simp only [Array.length_toList] at e
    omega
theorem Inv.tuple (I:Inv X pins σ H s) (h:SqT X.K H a xs):∃ its:List Value,Vals xs its ∧ IsTup s.heap a its.toArray ∧ xs.length ≤ sizeLine:=by
  rcases h with h | ⟨o,its,n,hk,hc,hs,hz,r⟩
  · obtain ⟨z,its,r,p⟩:=h.ok I.hok
    exact ⟨its,r,p,z⟩
  · refine ⟨its.toList,r,⟨o,I.kIn a o hk,hc,n,by simpa using hs⟩,?_⟩
    have e:=r.length
    simp only [Array.length_toList] at e
    omega
end
noncomputable abbrev Cx.wish (X:Cx) (E:Value → Shared → Prop):Cx:={ X with xe:=E }
noncomputable abbrev Cx.nox (X:Cx):Cx:=X.wish fun _ _ => False
theorem Cx.Ok.wish {X:Cx} (ok:X.Ok) (E:Value → Shared → Prop):(X.wish E).Ok :=
  ⟨ok.mod,ok.kind,ok.glob,ok.blt,ok.above,ok.inj,ok.has,ok.cab,ok.hd,ok.frames,ok.stk,ok.exf,ok.bs,ok.bsz,ok.noex,ok.exfs,ok.funs,ok.frf⟩
theorem Cx.Ok.unwish {X:Cx} {E:Value → Shared → Prop} (ok:(X.wish E).Ok):X.Ok :=
  ⟨ok.mod,ok.kind,ok.glob,ok.blt,ok.above,ok.inj,ok.has,ok.cab,ok.hd,ok.frames,ok.stk,ok.exf,ok.bs,ok.bsz,ok.noex,ok.exfs,ok.funs,ok.frf⟩
section
variable {X:Cx} {pins:List (Addr × Obj)} {σ:St} {H:Hp} {s:Shared} {E:Value → Shared → Prop}
theorem Inv.wish (I:Inv X pins σ H s) (E:Value → Shared → Prop):Inv (X.wish E) pins σ H s:=⟨I.ok.wish E,I.os,I.bare,I.base,I.loc,I.cell,I.free,I.freeC,I.pin,I.hok,I.len,I.fx⟩
theorem Inv.unwish (I:Inv (X.wish E) pins σ H s):Inv X pins σ H s:=⟨I.ok.unwish,I.os,I.bare,I.base,I.loc,I.cell,I.free,I.freeC,I.pin,I.hok,I.len,I.fx⟩
theorem SP.unwish {D:Ends} {f:Flow} {s':Shared} (h:SP (X.wish E) pins D f s'):SP X pins D f s':=by
  cases f with
  | next => obtain ⟨σ',H',I,q⟩:=h; exact ⟨σ',H',I.unwish,q⟩
  | brk => obtain ⟨σ',H',I,q⟩:=h; exact ⟨σ',H',I.unwish,q⟩
  | cont => obtain ⟨σ',H',I,q⟩:=h; exact ⟨σ',H',I.unwish,q⟩
  | ret u => obtain ⟨v,σ',H',I,r,q⟩:=h; exact ⟨v,σ',H',I.unwish,r,q⟩
theorem PSs.nox {st:List Stmt} {t:TS} (h:PSs X.nox st t):PSs X st t:=fun pins s σ H D I hw =>
  wpAny_mono (h pins s σ H D (I.wish _) hw) (fun _ _ q => q.unwish) fun _ _ z => False.elim z
end
section
variable {X:Cx} {st:Stmt} {rest:List Stmt} {t u:TS} {e:Expr} {te:TE} {pos:Pos}
noncomputable def tNext:TS:=fun D σ H => D.nx σ H
noncomputable def tSeq (t u:TS):TS:=fun D σ H => t { D with nx:=u D } σ H
theorem pss_nil:PSs X [] tNext:=fun _ _ σ H _ I h => wpAny_execs_nil ⟨σ,H,I,h⟩
theorem pss_cons (h1:PS X st t) (h2:PSs X rest u):PSs X (st :: rest) (tSeq t u):=by
  intro pins s σ H D I h
  refine wpAny_execs_cons (thn (h1 pins s σ H { D with nx:=u D } I h) fun f s1 q => ?_)
  cases f with
  | next =>
    obtain ⟨σ',H',I',q⟩:=q
    exact h2 pins s1 σ' H' D I' q
  | ret v => exact q
  | brk => exact q
  | cont => exact q
theorem pss_one (h1:PS X st t):PSs X [st] t:=by
  intro pins s σ H D I h
  refine wpAny_execs_cons (thn (h1 pins s σ H D I h) fun f s1 q => ?_)
  cases f with
  | next => exact wpAny_execs_nil q
  | ret v => exact q
  | brk => exact q
  | cont => exact q
theorem Inv.quiet {pins:List (Addr × Obj)} {σ:St} {H:Hp} {s:Shared} (I:Inv X pins σ H s):interactive X.env = false:=by simp [interactive,I.ok.kind]
noncomputable def tDrop (te:TE):TS:=fun D σ H => te σ H fun _ H1 => D.nx σ H1
theorem ps_expr (he:PE X e te) (hs:swapsWith e none pos.line X.env = pure false:=by rfl):PS X (.Expr e pos) (tDrop te):=by
  intro pins s σ H D I h
  exact wpAny_Expr_any (thn (he pins s σ H _ I h) fun v s1 ⟨x,H1,I1,r1,q1⟩ => ⟨σ,H1,I1,q1⟩) I.quiet hs
noncomputable def tRet (te:TE):TS:=fun D σ H => te σ H D.rt
theorem ps_ret (he:PE X e te):PS X (.Return (some e) pos) (tRet te):=by
  intro pins s σ H D I h
  exact wpAny_Return_some (thn (he pins s σ H _ I h) fun v s1 ⟨x,H1,I1,r1,q1⟩ => ⟨x,σ,H1,I1,r1,q1⟩)
noncomputable def tIfS (c:TT) (t u:TS):TS:=fun D σ H => c σ H fun b H1 => if b = true then t D σ H1 else u D σ H1
theorem ps_if {c:Expr} {a b:List Stmt} {tc:TT} (hc:PT X c tc) (ha:PSs X a t) (hb:PSs X b u):PS X (.If c a b pos) (tIfS tc t u):=by
  intro pins s σ H D I h
  refine wpAny_If (thn (hc pins s σ H _ I h) fun d s1 ⟨H1,I1,q1⟩ => ?_)
  cases d with
  | true => exact ha pins s1 σ H1 D I1 q1
  | false => exact hb pins s1 σ H1 D I1 q1
end
noncomputable abbrev TG:=V → St → Hp → (St → Hp → Prop) → Prop
noncomputable def PG (X:Cx) (target:Expr) (t:TG):Prop :=
  ∀ (pins:List (Addr × Obj)) (s:Shared) (σ:St) (H:Hp) (v:V) (u:Value) (Q:St → Hp → Prop),Inv X pins σ H s → RelV v u → t v σ H Q →
    wpAny (model X.prog X.w) X.A (assign target X.env u) (fun _ s' => ∃ σ' H',Inv X pins σ' H' s' ∧ Q σ' H') X.xe s
noncomputable abbrev TSet:=V → V → V → Hp → (Hp → Prop) → Prop
noncomputable abbrev TIp:=V → V → Hp → VK → Prop
noncomputable def PIp (X:Cx) (op:Operator) (t:TIp):Prop :=
  ∀ (pins:List (Addr × Obj)) (s:Shared) (σ:St) (H:Hp) (x y:V) (v u:Value) (Q:VK),Inv X pins σ H s → RelV x v → RelV y u → t x y H Q →
    wpAny (model X.prog X.w) X.A (inplaceOp op v u) (EP X pins σ Q) X.xe s
section
variable {X:Cx} {pos:Pos}
noncomputable def gName (i:Nat):TG:=fun v σ H Q => Q (σ.set i (some v)) H
theorem pg_name {i:Nat} {x:Str} (hN:X.nd) (hi:X.N[i]? = some x) (hx:Loc X.env.scope x) (hf:X.fn x = true ∨ X.env.scope.names.lookup x = some .local:=by first | exact .inl rfl | exact .inr rfl | assumption):PG X (.Name x pos) (gName i):=by
  intro pins s σ H v u Q I r h
  exact wpAny_assign_Name (store_ok I hN hi hx r (fun s' I' => ⟨_,H,I',h⟩) hf)
noncomputable def gSub (to ti:TE) (t:TSet):TG:=fun v σ H Q => to σ H fun o H1 => ti σ H1 fun i H2 => t o i v H2 fun H3 => Q σ H3
noncomputable def tAsg (te:TE) (g:TG):TS:=fun D σ H => te σ H fun x H1 => g x σ H1 D.nx
theorem ps_set {i:Nat} {x:Str} {e:Expr} {te:TE} {pos':Pos} (hN:X.nd) (hi:X.N[i]? = some x) (hx:Loc X.env.scope x) (he:PE X e te) (hs:swapsWith e (some (.Name x pos')) pos.line X.env = pure false:=by rfl) (hf:X.fn x = true ∨ X.env.scope.names.lookup x = some .local:=by first | exact .inl rfl | exact .inr rfl | assumption) :
    PS X (.Assign [.Name x pos'] e pos) (tAsg te (gName i)):=by
  intro pins s σ H D I h
  refine wpAny_Assign_Name (thn (he pins s σ H _ I h) fun v s1 ⟨y,H1,I1,r1,q1⟩ => ?_) hs
  exact store_ok I1 hN hi hx r1 (fun s2 I2 => ⟨_,H1,I2,q1⟩) hf
noncomputable def tAug (i:Nat) (te:TE) (ti:TIp):TS:=fun D σ H => ∃ x,σ[i]? = some (some x) ∧ te σ H fun y H1 => ti x y H1 fun z H2 => D.nx (σ.set i (some z)) H2
theorem ps_aug {i:Nat} {x:Str} {e:Expr} {te:TE} {op:Operator} {ti:TIp} {pos':Pos} (hN:X.nd) (hi:X.N[i]? = some x) (hx:Loc X.env.scope x) (he:PE X e te) (ho:PIp X op ti) (hf:X.fn x = true ∨ X.env.scope.names.lookup x = some .local:=by first | exact .inl rfl | exact .inr rfl | assumption) :
    PS X (.AugAssign (.Name x pos') op e pos) (tAug i te ti):=by
  intro pins s σ H D I h
  obtain ⟨v,e1,h⟩:=h
  obtain ⟨m,hn,hl⟩:=I.loc
  have vis:Vis X.env.scope x:=by rcases hx with k | k; exact .inl k; exact .inr (.inl k)
  obtain ⟨u,r,l⟩:=hl i x v hi e1 vis
  refine wpAny_AugAssign_Name ?_
  have go:wpAny (model X.prog X.w) X.A (eval e X.env) (fun w s₂ => wpAny (model X.prog X.w) X.A (inplaceOp op u w) (fun r s₃ => wpAny (model X.prog X.w) X.A (storeName X.env x r) (fun _ => SP X pins D .next) X.xe s₃) X.xe s₂) X.xe s:=by
    refine thn (he pins s σ H _ I h) fun w s1 ⟨y,H1,I1,r1,q1⟩ => ?_
    refine thn (ho pins s1 σ H1 v y u w _ I1 r r1 q1) fun z s2 ⟨zv,H2,I2,r2,q2⟩ => ?_
    exact store_ok I2 hN hi hx r2 (fun s3 I3 => ⟨_,H2,I3,q2⟩) hf
  rcases l with ⟨hk,hm⟩ | ⟨hk,c,hc,hcell⟩
  · exact wpAny_loadName_local I.ok.kind hk hn hm go
  · rcases hk with hk | hk
    · exact wpAny_loadName_cell I.ok.kind hk hc hcell go
    · rcases hx with k | k
      · have:X.env.scope.names.lookup x = some .free:=hk
        rw [k] at this; cases this
      · have:X.env.scope.names.lookup x = some .free:=hk
        rw [k] at this; cases this
end
section
variable {X:Cx} {pos:Pos}
noncomputable def tWhile (c:TT) (tb:TS):TS:=fun D σ H => ∃ W:Nat → St → Hp → Prop,(∃ m,W m σ H) ∧ ∀ m σ H,W m σ H →
  c σ H fun b H1 => if b = true then ∃ N:St → Hp → Prop,(∀ σ' H',N σ' H' → ∃ m',m' < m ∧ W m' σ' H') ∧ tb { D with nx:=N,ct:=N,bk:=D.nx } σ H1 else D.nx σ H1
theorem ps_while {c:Expr} {body:List Stmt} {tc:TT} {tb:TS} (hp:PassesOwn (model X.prog X.w) X.A X.env X.xe) (hc:PT X c tc) (hb:PSs X body tb):PS X (.While c body [] pos) (tWhile tc tb):=by
  intro pins s σ H D I h
  obtain ⟨W,⟨m0,w0⟩,turn⟩:=h
  refine wpAny_While (codeAny_whileLoop (fun n s' => ∃ σ' H',Inv X pins σ' H' s' ∧ W n σ' H') ?_ m0 ⟨σ,H,I,w0⟩)
  rintro n s1 ⟨σ1,H1,I1,w1⟩
  refine wpAny_passesOwn hp (thn (hc pins s1 σ1 H1 _ I1 (turn n σ1 H1 w1)) fun b s2 ⟨H2,I2,q2⟩ => ?_)
  cases b with
  | true =>
    obtain ⟨N,hN,q2⟩:=q2
    rw [if_pos rfl]
    refine wpAny_passesOwn hp (thn (hb pins s2 σ1 H2 _ I2 q2) fun f s3 q3 => ?_)
    cases f with
    | next =>
      obtain ⟨σ3,H3,I3,n3⟩:=q3
      obtain ⟨m',hm,w3⟩:=hN σ3 H3 n3
      exact ⟨m',hm,σ3,H3,I3,w3⟩
    | cont =>
      obtain ⟨σ3,H3,I3,n3⟩:=q3
      obtain ⟨m',hm,w3⟩:=hN σ3 H3 n3
      exact ⟨m',hm,σ3,H3,I3,w3⟩
    | brk => exact q3
    | ret v => exact q3
  | false =>
    rw [if_neg Bool.false_ne_true]
    exact wpAny_execs_nil ⟨σ1,H2,I2,q2⟩
end
structure It where
  go:Nat → Hp → Prop
  yld:Nat → Hp → V → Hp → Prop
  stop:Nat → Hp → Prop
noncomputable def FpOk (X:Cx) (pins:List (Addr × Obj)) (H:Hp) (b:Addr):Prop :=
  H b = none ∧ b ≠ X.env.locals ∧ b ∉ X.fs ∧ (b ∈ X.ex ∨ X.s₀.heap.objs.size ≤ b) ∧ (∀ x c,X.env.cells.lookup x = some c → c ≠ b) ∧ ∀ p ∈ X.pn ++ pins,p.1 ≠ b
theorem Inv.fpOk {X:Cx} {pins:List (Addr × Obj)} {σ:St} {H H':Hp} {s:Shared} {b:Addr} (I:Inv X pins σ H s) (hb:s.heap.objs.size ≤ b) (hn:H' b = none):FpOk X pins H' b:=by
  refine ⟨hn,Nat.ne_of_gt (Nat.lt_of_lt_of_le I.lt hb),I.nofs hb,.inr (Nat.le_trans I.sz hb),fun x c e z => ?_,fun p hp z => ?_⟩
  · obtain ⟨v,q⟩:=I.cell x c e
    exact absurd (Nat.lt_of_lt_of_le q.lt (by rw [z]; exact hb)) (Nat.lt_irrefl _)
  · exact absurd (Nat.lt_of_lt_of_le (Heap.lt_size (I.pin p hp).1) (by rw [z]; exact hb)) (Nat.lt_irrefl _)
structure Turn (P:Program) (w:World) (K:PySem.W.Frag) (tg:Expr) (J:It) (fp:List Addr) (it:Addr) (tn:Nat → Heap → Prop):Prop where
  mem:it ∈ fp
  obj:∀ i h,tn i h → ∀ b ∈ fp,∃ o,h.get? b = some o ∧ ∀ v,o.data ≠ .cell v
  keep:∀ i h h',tn i h → (∀ b ∈ fp,∀ o,h.get? b = some o → h'.get? b = some o) → tn i h'
  item:∀ (X:Cx),X.prog = P → X.w = w → X.K = K → X.calm = true → ∀ (i:Nat) (pins:List (Addr × Obj)) (s:Shared) (σ:St) (H:Hp) (E:Value → Shared → Prop),Inv X pins σ H s → (∀ b ∈ fp,FpOk X pins H b) → tn i s.heap → J.go i H →
    wpAny (model P w) X.A (pyNext (.ref it)) (fun r s1 => ∃ u,r = some u ∧
      wpAny (model P w) X.A (letOwnedTupleGo tg (.ref it) u) (fun _ s2 => ∃ x H',Inv X pins σ H' s2 ∧ RelV x u ∧ J.yld i H x H' ∧ tn (i + 1) s2.heap ∧ ∀ b ∈ fp,H' b = none) E s1) E s
  done:∀ (X:Cx),X.prog = P → X.w = w → X.K = K → X.calm = true → ∀ (i:Nat) (pins:List (Addr × Obj)) (s:Shared) (σ:St) (H:Hp) (E:Value → Shared → Prop),Inv X pins σ H s → (∀ b ∈ fp,FpOk X pins H b) → tn i s.heap → J.stop i H →
    wpAny (model P w) X.A (pyNext (.ref it)) (fun r s1 => r = none ∧ Inv X pins σ H s1) E s
  self:∀ (A:Around) (i:Nat) (s:Shared) (Q:Value → Shared → Prop) (E:Value → Shared → Prop),tn i s.heap → Q (.ref it) s → wpAny (model P w) A (pyIter (.ref it)) Q E s
noncomputable abbrev TI:=St → Hp → (It → Hp → Prop) → Prop
noncomputable def PIE (X:Cx) (pins:List (Addr × Obj)) (σ:St) (tg:Expr) (R:It → Hp → Prop) (itv:Value) (s2:Shared):Prop :=
  ∃ (it:Addr) (fp:List Addr) (tn:Nat → Heap → Prop) (J:It) (H':Hp),itv = .ref it ∧ Inv X pins σ H' s2 ∧ Turn X.prog X.w X.K tg J fp it tn ∧ tn 0 s2.heap ∧ (∀ b ∈ fp,FpOk X pins H' b) ∧ R J H'
noncomputable def PI (X:Cx) (tg iter:Expr) (wi:TI):Prop :=
  ∀ (pins:List (Addr × Obj)) (s:Shared) (σ:St) (H:Hp) (R:It → Hp → Prop),Inv X pins σ H s → wi σ H R →
    wpAny (model X.prog X.w) X.A (eval iter X.env) (fun v s1 => wpAny (model X.prog X.w) X.A (pyIter v) (PIE X pins σ tg R) X.xe s1) X.xe s
theorem go_of {M:Model} {A:Around} {E:Value → Shared → Prop} {s:Shared} {tg:Expr} {it:Addr} {u:Value} {o:Obj} {n:String} {vs:Array Value} {Q:Unit → Shared → Prop} (ho:s.heap.get? it = some o) (hc:o.cls = .type n) (hd:o.data = .fields vs)
    (hn:["enumerate","zip","dict_itemiterator","dict_reverseitemiterator","odict_iterator","itertools.zip_longest","itertools.pairwise"].contains n = false) (hQ:Q () s):wpAny M A (letOwnedTupleGo tg (.ref it) u) Q E s:=by
  unfold letOwnedTupleGo
  cases tg <;> first
    | exact wpAny_pure hQ
    | (cases u <;> first
        | exact wpAny_pure hQ
        | (refine wpAny_bind (wpAny_load ho ?_)
           rw [hc,hd]
           show wpAny M A (if (["enumerate","zip","dict_itemiterator","dict_reverseitemiterator","odict_iterator","itertools.zip_longest","itertools.pairwise"].contains n && vs[0]? == some (rawInt _)) = true then _ else _) Q E s
           rw [if_neg (by intro h; rw [hn,Bool.false_and] at h; cases h)]
           exact wpAny_pure hQ))
noncomputable def Itr (lo:Int) (n:Nat):It:=⟨fun i _ => i < n,fun i H x H' => H' = H ∧ x = .int (lo + i),fun i _ => n ≤ i⟩
theorem turn_range {P:Program} {w:World} {K:PySem.W.Frag} {tg:Expr} (it:Addr) (lo:Int) (n:Nat):Turn P w K tg (Itr lo n) [it] it (fun i h => IsRangeIter h it (lo + (i:Nat) * 1) ((n:Int) - (i:Nat)) 1) where
  mem:=by simp
  obj:=fun i h st b hb => by
    have e:b = it:=by simpa using hb
    subst e
    exact ⟨_,st,fun v z => by
      have z':Data.fields _ = Data.cell v:=z
      cases z'⟩
  keep:=fun i h h' st k => k it (by simp) _ st
  item:=by
    intro X hP hw hK hc i pins s σ H E I hf st hg
    subst hP hw hK
    obtain ⟨f0,f1,f2,f3,f4,f5⟩:=hf it (by simp)
    have W:=Walks.range (prog:=X.prog) (w:=X.w) (I.ok.hd hc) it lo 1 n
    refine W.item i s _ _ hg st fun v h' tk hv st' kk => ?_
    obtain ⟨t,rfl⟩:=hv
    have I1:Inv X pins σ H { s with heap:=h',toks:=tk }:=I.turned (fun b o hb e => kk b o (by simpa using hb) e) f0 f1 f3 f4 f5
    refine ⟨_,rfl,go_of (s:={ s with heap:=h',toks:=tk }) (n:="range_iterator") st' rfl rfl (by decide) ⟨.int (lo + i),H,I1,⟨t,?_⟩,⟨rfl,rfl⟩,st',fun b hb => (hf b hb).1⟩⟩
    rw [Int.mul_one]
  done:=by
    intro X hP hw hK hc i pins s σ H E I hf st hg
    subst hP hw hK
    obtain ⟨f0,f1,f2,f3,f4,f5⟩:=hf it (by simp)
    exact wpAny_pyNext_range_end (I.ok.hd hc) st (by have:n ≤ i:=hg; omega) fun h' eb => ⟨rfl,I.turned (t':=s.toks) (fun b o hb e => eb b o hb e) f0 f1 f3 f4 f5⟩
  self:=fun _ _ _ _ _ st h => wpAny_pyIter_rangeiter st h
end L2
namespace L2
open PySem PySem.Spec PyProof.Rows
section
variable {X:Cx} {tg:Expr}
theorem range_it {pins:List (Addr × Obj)} {σ:St} {H:Hp} {s:Shared} {R:It → Hp → Prop} {E:Value → Shared → Prop} {lo hi:Int} {t u v:Tok} {tk:Nat} (I:Inv X pins σ H s) (h1:-(2 ^ 62) ≤ lo) (h2:lo < 2 ^ 62) (h3:-(2 ^ 62) ≤ hi) (h4:hi < 2 ^ 62)
    (q:R (Itr lo (hi - lo).toNat) H):wpAny (model X.prog X.w) X.A (pyIter (.ref s.heap.objs.size)) (PIE X pins σ tg R) E { s with heap:=s.heap.push { cls:=.type "range",data:=.fields #[.int lo t,.int hi u,.int 1 v] },toks:=tk }:=by
  refine wpAny_pyIter_range (IsRange.new ..) (small_one h1 h2 h3 h4) ?_
  have I1:Inv X pins σ H { s with heap:=s.heap.push { cls:=.type "range",data:=.fields #[.int lo t,.int hi u,.int 1 v] },toks:=tk }:=I.kept fun b o e => Heap.get?_push_of_some _ e
  refine ⟨(s.heap.push { cls:=.type "range",data:=.fields #[.int lo t,.int hi u,.int 1 v] }).objs.size,[(s.heap.push { cls:=.type "range",data:=.fields #[.int lo t,.int hi u,.int 1 v] }).objs.size],_,_,H,rfl,
    I1.kept (t':=tk) fun b o e => Heap.get?_push_of_some _ e,turn_range _ lo (hi - lo).toNat,?_,fun b hb => ?_,q⟩
  · have e1:lo + ((0:Nat):Int) * 1 = lo:=by simp
    have e2:(((hi - lo).toNat:Nat):Int) - ((0:Nat):Int) = Builtin.Range.rangeSize lo hi 1:=by rw [rangeSize_one]; split <;> omega
    show IsRangeIter _ _ (lo + ((0:Nat):Int) * 1) ((((hi - lo).toNat:Nat):Int) - ((0:Nat):Int)) 1
    rw [e1,e2]
    exact Heap.get?_push_size _ rfl
  · have e:b = (s.heap.push { cls:=.type "range",data:=.fields #[.int lo t,.int hi u,.int 1 v] }).objs.size:=by simpa using hb
    subst e
    exact I1.fpOk (Nat.le_refl _) (I1.hok.fresh (Nat.le_refl _))
noncomputable def iRng1 (ta:TA):TI:=fun σ H R => ta σ H fun vs H1 => ∃ j:Int,vs = [.int j] ∧ -(2 ^ 62) ≤ j ∧ j < 2 ^ 62 ∧ R (Itr 0 j.toNat) H1
theorem pi_range1 {a:Expr} {ta:TA} {p pos:Pos} (hg:Gl X "range") (hm:X.mg "range" = none) (ha:PA X [a] ta) (hs:starEach [a] X.env = [(false,eval a X.env)]:=by rfl):PI X tg (.Call (.Name "range" p) [a] [] pos) (iRng1 ta):=by
  intro pins s σ H R I h
  refine Call_ (ld_blt I hg hm boot_range (PyProof.Rows.callWith_type1 (thn (ha pos pins s σ H _ I h) fun us s1 ⟨vs,H1,I1,r1,q1⟩ => ?_) hs rfl))
  obtain ⟨j,e,q1,q2,q⟩:=q1
  subst e
  cases r1 with
  | cons r rr =>
    cases rr
    obtain ⟨t,rfl⟩:=r
    exact call_range_1 (range_it I1 (by omega) (by omega) q1 q2 (by simpa using q))
noncomputable def tFor (wi:TI) (g:TG) (tb:TS):TS:=fun D σ H => wi σ H fun J H1 => ∃ W:Nat → Nat → St → Hp → Prop,(∃ m,W 0 m σ H1) ∧ ∀ i m σ H,W i m σ H →
  (J.stop i H ∧ D.nx σ H) ∨ (J.go i H ∧ ∃ N:St → Hp → Prop,(∀ σ' H',N σ' H' → ∃ m',m' < m ∧ W (i + 1) m' σ' H') ∧ ∀ x H',J.yld i H x H' → g x σ H' fun σ2 H2 => tb { D with nx:=N,ct:=N,bk:=D.nx } σ2 H2)
noncomputable def pinsAt (fp:List Addr) (h:Heap):List (Addr × Obj):=fp.filterMap fun b => (h.get? b).map fun o => (b,o)
theorem mem_pinsAt {fp:List Addr} {h:Heap} {b:Addr} {o:Obj} (hb:b ∈ fp) (e:h.get? b = some o):(b,o) ∈ pinsAt fp h:=List.mem_filterMap.mpr ⟨b,hb,by rw [e]; rfl⟩
theorem of_pinsAt {fp:List Addr} {h:Heap} {p:Addr × Obj} (hp:p ∈ pinsAt fp h):p.1 ∈ fp ∧ h.get? p.1 = some p.2:=by
  obtain ⟨b,hb,e⟩:=List.mem_filterMap.mp hp
  cases q:h.get? b with
  | none => rw [q] at e; cases e
  | some o =>
    rw [q] at e
    have e':(b,o) = p:=Option.some.inj e
    subst e'
    exact ⟨hb,q⟩
theorem Inv.pinned {pins:List (Addr × Obj)} {σ:St} {H:Hp} {s:Shared} {fp:List Addr} (I:Inv X pins σ H s) (hf:∀ b ∈ fp,FpOk X pins H b) (ho:∀ b ∈ fp,∃ o,s.heap.get? b = some o ∧ ∀ v,o.data ≠ .cell v):Inv X (pins ++ pinsAt fp s.heap) σ H s :=
  I.pins_of fun p hp => (List.mem_append.mp hp).elim (fun z => I.pin p (List.mem_append_right _ z)) fun z => by
    obtain ⟨hb,e⟩:=of_pinsAt z
    obtain ⟨f0,f1,f2,_⟩:=hf p.1 hb
    obtain ⟨o,e',d⟩:=ho p.1 hb
    rw [e] at e'; cases e'
    exact ⟨e,f0,f1,f2,d⟩
theorem Inv.unpinned {pins pl:List (Addr × Obj)} {σ:St} {H:Hp} {s:Shared} (I:Inv X (pins ++ pl) σ H s):Inv X pins σ H s:=I.pins_of fun p hp => I.pin p (List.mem_append_right _ (List.mem_append_left _ hp))
theorem ps_for {iter:Expr} {body:List Stmt} {wi:TI} {g:TG} {tb:TS} {pos:Pos} (hp:PassesOwn (model X.prog X.w) X.A X.env X.xe) (hc:X.calm = true) (hi:PI X tg iter wi) (hg:PG X tg g) (hb:PSs X body tb)
    (hs:∀ x,foldedSetIterable iter X.env x = pure x:=by intro _; rfl):PS X (.For tg iter body [] pos) (tFor wi g tb):=by
  intro pins s σ H D I h
  refine wpAny_For (thn (hi pins s σ H _ I h) fun v s1 h1 => thn h1 fun itv s2 h2 => ?_) hs
  obtain ⟨it,fp,tn,J,H2,e,I2,T,st2,f2,W,⟨m0,w0⟩,turn⟩:=h2
  subst e
  have stat:∀ {H':Hp},(∀ b ∈ fp,H' b = none) → ∀ b ∈ fp,FpOk X pins H' b:=fun hn b hb => ⟨hn b hb,(f2 b hb).2⟩
  refine codeAny_forLoop_any (fun n s' => ∃ i σ' H',Inv X pins σ' H' s' ∧ tn i s'.heap ∧ (∀ b ∈ fp,H' b = none) ∧ W i n σ' H') ?_ m0 ⟨0,σ,H2,I2,st2,fun b hb => (f2 b hb).1,w0⟩
  rintro n s3 ⟨i,σ3,H3,I3,st3,fr3,w3⟩
  rcases turn i n σ3 H3 w3 with ⟨stop,qn⟩ | ⟨go,N,hN,step⟩
  · refine wpAny_passesOwn hp (thn (T.done X rfl rfl rfl hc i pins s3 σ3 H3 X.xe I3 (stat fr3) st3 stop) fun r s4 ⟨hr,I4⟩ => ?_)
    subst hr
    exact wpAny_execs_nil ⟨σ3,H3,I4,qn⟩
  · refine wpAny_passesOwn hp (thn (T.item X rfl rfl rfl hc i pins s3 σ3 H3 X.xe I3 (stat fr3) st3 go) fun r s4 ⟨u,hr,h4⟩ => ?_)
    subst hr
    refine wpAny_passesOwn hp (thn h4 fun _ s5 ⟨x,H5,I5,r5,y5,st5,fr5⟩ => ?_)
    have I5':=I5.pinned (stat fr5) (T.obj _ _ st5)
    refine wpAny_passesOwn hp (thn (hg _ s5 σ3 H5 x u _ I5' r5 (step x H5 y5)) fun _ s6 ⟨σ6,H6,I6,q6⟩ => ?_)
    refine wpAny_passesOwn hp (thn (hb _ s6 σ6 H6 _ I6 q6) fun f s7 q7 => ?_)
    have again:∀ {σ7:St} {H7:Hp},Inv X (pins ++ pinsAt fp s5.heap) σ7 H7 s7 → N σ7 H7 → ∃ m,m < n ∧ ∃ i σ' H',Inv X pins σ' H' s7 ∧ tn i s7.heap ∧ (∀ b ∈ fp,H' b = none) ∧ W i m σ' H':=fun {σ7 H7} I7 n7 => by
      obtain ⟨m',hm,w7⟩:=hN σ7 H7 n7
      refine ⟨m',hm,i + 1,σ7,H7,I7.unpinned,T.keep _ _ _ st5 fun b hb o e => (I7.pin (b,o) (List.mem_append_right _ (List.mem_append_right _ (mem_pinsAt hb e)))).1,fun b hb => ?_,w7⟩
      obtain ⟨o,e,d⟩:=T.obj _ _ st5 b hb
      exact (I7.pin (b,o) (List.mem_append_right _ (List.mem_append_right _ (mem_pinsAt hb e)))).2.1
    cases f with
    | next => obtain ⟨σ7,H7,I7,n7⟩:=q7; exact again I7 n7
    | cont => obtain ⟨σ7,H7,I7,n7⟩:=q7; exact again I7 n7
    | brk => obtain ⟨σ7,H7,I7,q7⟩:=q7; exact ⟨σ7,H7,I7.unpinned,q7⟩
    | ret v => obtain ⟨x7,σ7,H7,I7,r7,q7⟩:=q7; exact ⟨x7,σ7,H7,I7.unpinned,r7,q7⟩
end
end L2
namespace L2
open PySem PySem.Spec PyProof.Rows
noncomputable abbrev R2:=V → V → Hp → VK → Prop
noncomputable def OpR (X:Cx) (f:Value → Value → Sem Value) (r:R2):Prop :=
  ∀ (pins:List (Addr × Obj)) (s:Shared) (σ:St) (H:Hp) (x y:V) (v u:Value) (Q:VK),Inv X pins σ H s → RelV x v → RelV y u → r x y H Q →
    wpAny (model X.prog X.w) X.A (f v u) (EP X pins σ Q) X.xe s
noncomputable def UnR (X:Cx) (f:Value → Sem Value) (r:V → Hp → VK → Prop):Prop :=
  ∀ (pins:List (Addr × Obj)) (s:Shared) (σ:St) (H:Hp) (x:V) (v:Value) (Q:VK),Inv X pins σ H s → RelV x v → r x H Q →
    wpAny (model X.prog X.w) X.A (f v) (EP X pins σ Q) X.xe s
noncomputable def CallR (X:Cx) (f:Value) (r:List V → Hp → VK → Prop):Prop :=
  ∀ (pins:List (Addr × Obj)) (s:Shared) (σ:St) (H:Hp) (xs:List V) (us:List Value) (Q:VK),Inv X pins σ H s → Vals xs us → r xs H Q →
    wpAny (model X.prog X.w) X.A (call f us) (EP X pins σ Q) X.xe s
noncomputable def TruR (X:Cx) (r:V → Hp → (Bool → Hp → Prop) → Prop):Prop :=
  ∀ (pins:List (Addr × Obj)) (s:Shared) (σ:St) (H:Hp) (x:V) (v:Value) (Q:Bool → Hp → Prop),Inv X pins σ H s → RelV x v → r x H Q →
    wpAny (model X.prog X.w) X.A (truthy v) (TP X pins σ Q) X.xe s
noncomputable def tOp (r:R2) (ta tb:TE):TE:=fun σ H Q => ta σ H fun x H1 => tb σ H1 fun y H2 => r x y H2 Q
noncomputable def tUn (r:V → Hp → VK → Prop) (ta:TE):TE:=fun σ H Q => ta σ H fun x H1 => r x H1 Q
noncomputable def rI (C:Int → Int → Prop) (g:Int → Int → V):R2:=fun x y H Q => ∃ i j,x = .int i ∧ y = .int j ∧ C i j ∧ Q (g i j) H
noncomputable def rI0 (g:Int → Int → V):R2:=fun x y H Q => ∃ i j,x = .int i ∧ y = .int j ∧ Q (g i j) H
noncomputable def rU (g:Int → V):V → Hp → VK → Prop:=fun x H Q => ∃ i,x = .int i ∧ Q (g i) H
section
variable {X:Cx} {a b c:Expr} {ta tb tc:TE} {pos:Pos}
theorem binT (ha:PE X a ta) (hb:PE X b tb) {pins:List (Addr × Obj)} {s:Shared} {σ:St} {H:Hp} {R:V → V → Hp → Prop} (I:Inv X pins σ H s)
    (h:ta σ H fun x H1 => tb σ H1 fun y H2 => R x y H2) {Q:Value → Shared → Prop} {f:Value → Value → Sem Value}
    (hf:∀ v u s2 x y H2,Inv X pins σ H2 s2 → RelV x v → RelV y u → R x y H2 → wpAny (model X.prog X.w) X.A (f v u) Q X.xe s2) :
    wpAny (model X.prog X.w) X.A (eval a X.env) (fun v s₁ => wpAny (model X.prog X.w) X.A (eval b X.env) (fun u s₂ => wpAny (model X.prog X.w) X.A (f v u) Q X.xe s₂) X.xe s₁) X.xe s:=by
  refine thn (ha pins s σ H _ I h) fun v s1 ⟨x,H1,I1,r1,q1⟩ => ?_
  refine thn (hb pins s1 σ H1 _ I1 q1) fun u s2 ⟨y,H2,I2,r2,q2⟩ => ?_
  exact hf v u s2 x y H2 I2 r1 r2 q2
theorem pe_op {op:Operator} {r:R2} (ho:OpR X (binaryOp op) r) (ha:PE X a ta) (hb:PE X b tb):PE X (.BinOp a op b pos) (tOp r ta tb):=by
  intro pins s σ H Q I h
  exact wpAny_BinOp (binT ha hb I h fun v u s2 x y H2 I2 rx ry q => ho pins s2 σ H2 x y v u Q I2 rx ry q)
theorem pe_un {op:UnaryOp} {r:V → Hp → VK → Prop} (ho:UnR X (unaryOp op) r) (ha:PE X a ta):PE X (.UnaryOp op a pos) (tUn r ta):=by
  intro pins s σ H Q I h
  exact UnaryOp_ (thn (ha pins s σ H _ I h) fun v s1 ⟨x,H1,I1,r1,q1⟩ => ho pins s1 σ H1 x v Q I1 r1 q1)
theorem opI {f:Value → Value → Sem Value} {C:Int → Int → Prop} {g:Int → Int → Int}
    (rule:∀ (i j:Int) (t u:Tok) (s:Shared) (Q:Value → Shared → Prop) (E:Value → Shared → Prop),C i j → Q (.int (g i j) s.toks) { s with toks:=s.toks + 1 } → wpAny (model X.prog X.w) X.A (f (.int i t) (.int j u)) Q E s) :
    OpR X f (rI C fun i j => .int (g i j)):=by
  intro pins s σ H x y v u Q I rx ry h
  obtain ⟨i,j,rfl,rfl,hc,q⟩:=h
  obtain ⟨t,rfl⟩:=rx
  obtain ⟨t',rfl⟩:=ry
  exact rule i j t t' s _ _ hc ⟨.int (g i j),H,I.tok _,⟨_,rfl⟩,q⟩
theorem opI0 {f:Value → Value → Sem Value} {g:Int → Int → Int}
    (rule:∀ (i j:Int) (t u:Tok) (s:Shared) (Q:Value → Shared → Prop) (E:Value → Shared → Prop),Q (.int (g i j) s.toks) { s with toks:=s.toks + 1 } → wpAny (model X.prog X.w) X.A (f (.int i t) (.int j u)) Q E s) :
    OpR X f (rI0 fun i j => .int (g i j)):=by
  intro pins s σ H x y v u Q I rx ry h
  obtain ⟨i,j,rfl,rfl,q⟩:=h
  obtain ⟨t,rfl⟩:=rx
  obtain ⟨t',rfl⟩:=ry
  exact rule i j t t' s _ _ ⟨.int (g i j),H,I.tok _,⟨_,rfl⟩,q⟩
theorem opB0 {f:Value → Value → Sem Value} {g:Int → Int → Bool}
    (rule:∀ (i j:Int) (t u:Tok) (s:Shared) (Q:Value → Shared → Prop) (E:Value → Shared → Prop),Q (.bool (g i j)) s → wpAny (model X.prog X.w) X.A (f (.int i t) (.int j u)) Q E s) :
    OpR X f (rI0 fun i j => .bl (g i j)):=by
  intro pins s σ H x y v u Q I rx ry h
  obtain ⟨i,j,rfl,rfl,q⟩:=h
  obtain ⟨t,rfl⟩:=rx
  obtain ⟨t',rfl⟩:=ry
  exact rule i j t t' s _ _ ⟨.bl (g i j),H,I,rfl,q⟩
noncomputable def CPow (i j:Int):Prop:=0 ≤ j ∧ j ≤ 1000000 ∧ i.natAbs < 2 ^ 64
noncomputable def CMul (i j:Int):Prop:=(-(2 ^ 64) < i ∧ i < 2 ^ 64) ∨ (-(2 ^ 64) < j ∧ j < 2 ^ 64)
theorem CMul.ok {i j:Int} (h:CMul i j):IntMulOk i j:=by
  rcases h with ⟨h1,h2⟩ | ⟨h1,h2⟩
  · exact .of_left (intBits_le_64 h1 h2)
  · exact .of_right (intBits_le_64 h1 h2)
theorem op_add:OpR X (binaryOp .Add) (rI0 fun i j => .int (i + j)):=opI0 fun _ _ _ _ _ _ _ q => add_int q
theorem op_sub:OpR X (binaryOp .Sub) (rI0 fun i j => .int (i - j)):=opI0 fun _ _ _ _ _ _ _ q => sub_int q
theorem op_mul:OpR X (binaryOp .Mult) (rI CMul fun i j => .int (i * j)):=opI fun _ _ _ _ _ _ _ hc q => mul_int q hc.ok
theorem op_mod:OpR X (binaryOp .Mod) (rI (fun _ j => 0 < j) fun i j => .int (i % j)):=opI fun i j _ _ _ _ _ hc q => by
  have h1:(0:Int) < j:=hc
  exact mod_int' (by omega) (by rw [Int.fmod_eq_emod_of_nonneg i (by omega)]; exact q)
theorem unI {f:Value → Sem Value} {g:Int → Int}
    (rule:∀ (i:Int) (t:Tok) (s:Shared) (Q:Value → Shared → Prop) (E:Value → Shared → Prop),Q (.int (g i) s.toks) { s with toks:=s.toks + 1 } → wpAny (model X.prog X.w) X.A (f (.int i t)) Q E s) :
    UnR X f (rU fun i => .int (g i)):=by
  intro pins s σ H x v Q I rx h
  obtain ⟨i,rfl,q⟩:=h
  obtain ⟨t,rfl⟩:=rx
  exact rule i t s _ _ ⟨.int (g i),H,I.tok _,⟨_,rfl⟩,q⟩
theorem un_neg:UnR X (unaryOp .USub) (rU fun i => .int (-i)):=unI fun _ _ _ _ _ q => neg_int q
end
section
variable {X:Cx} {a b c:Expr} {ta tb tc:TE} {pos:Pos}
theorem op_lt:OpR X (compareOp .Lt) (rI0 fun i j => .bl (decide (i < j))):=opB0 fun _ _ _ _ _ _ _ q => lt_int q
theorem op_le:OpR X (compareOp .LtE) (rI0 fun i j => .bl (decide (i ≤ j))):=opB0 fun _ _ _ _ _ _ _ q => le_int q
theorem op_gt:OpR X (compareOp .Gt) (rI0 fun i j => .bl (decide (j < i))):=opB0 fun _ _ _ _ _ _ _ q => gt_int q
theorem op_ge:OpR X (compareOp .GtE) (rI0 fun i j => .bl (decide (j ≤ i))):=opB0 fun _ _ _ _ _ _ _ q => ge_int q
theorem OpR.or {f:Value → Value → Sem Value} {r r':R2} (h:OpR X f r) (h':OpR X f r'):OpR X f (fun x y H Q => r x y H Q ∨ r' x y H Q):=by
  intro pins s σ H x y v u Q I rx ry q
  rcases q with q | q
  · exact h pins s σ H x y v u Q I rx ry q
  · exact h' pins s σ H x y v u Q I rx ry q
theorem nomark (b:Expr) {op:CmpOp} (h:op ≠ .In:=by decide) (h2:op ≠ .NotIn:=by decide):behindInMarks op b = false:=by
  have e1:(op == CmpOp.In) = false:=by cases op <;> first | rfl | exact absurd rfl h
  have e2:(op == CmpOp.NotIn) = false:=by cases op <;> first | rfl | exact absurd rfl h2
  cases b <;> simp [behindInMarks,e1,e2]
theorem pe_cmpR {op:CmpOp} {r:R2} (ho:OpR X (compareOp op) r) (ha:PE X a ta) (hb:PE X b tb) (hm:behindInMarks op b = false):PE X (.Compare a [op] [b] pos) (tOp r ta tb):=by
  intro pins s σ H Q I h
  exact wpAny_Compare1 (binT ha hb I h fun v u s2 x y H2 I2 rx ry q => ho pins s2 σ H2 x y v u Q I2 rx ry q) hm
noncomputable def tTest (t:TE):TT:=fun σ H Q => t σ H fun x H' => ∃ k,x = .bl k ∧ Q k H'
theorem pt_cmpR {op:CmpOp} {r:R2} (ho:OpR X (compareOp op) r) (ha:PE X a ta) (hb:PE X b tb) (hm:behindInMarks op b = false):PT X (.Compare a [op] [b] pos) (tTest (tOp r ta tb)):=by
  intro pins s σ H Q I h
  refine wpAny_isTrue_Compare1 (thn (ha pins s σ H _ I h) fun v s1 ⟨x,H1,I1,r1,q1⟩ => thn (hb pins s1 σ H1 _ I1 q1) fun u s2 ⟨y,H2,I2,r2,q2⟩ =>
    thn (ho pins s2 σ H2 x y v u _ I2 r1 r2 q2) fun c s3 ⟨z,H3,I3,r3,k,e,q3⟩ => ?_) hm
  subst e
  cases r3
  exact wpAny_truthy_bool ⟨H3,I3,q3⟩
noncomputable def tChain (r r':R2) (ta tb tc:TE):TE:=fun σ H Q => ta σ H fun x H1 => tb σ H1 fun y H2 => r x y H2 fun z H3 => ∃ k,z = .bl k ∧
  (if k = true then tc σ H3 fun w' H4 => r' y w' H4 Q else Q (.bl false) H3)
theorem pe_chain {op op':CmpOp} {r r':R2} (ho:OpR X (compareOp op) r) (ho':OpR X (compareOp op') r') (ha:PE X a ta) (hb:PE X b tb) (hc:PE X c tc)
    (hm:lastMarks [op,op'] [b,c] = false:=by with_unfolding_all rfl):PE X (.Compare a [op,op'] [b,c] pos) (tChain r r' ta tb tc):=by
  intro pins s σ H Q I h
  refine Compare_chain (thn (ha pins s σ H _ I h) fun v s1 ⟨x,H1,I1,r1,q1⟩ => chain_link (thn (hb pins s1 σ H1 _ I1 q1) fun u s2 ⟨y,H2,I2,r2,q2⟩ =>
    thn (ho pins s2 σ H2 x y v u _ I2 r1 r2 q2) fun d s3 ⟨z,H3,I3,r3,k,e,q3⟩ => ?_)) hm
  subst e
  cases r3
  refine wpAny_truthy_bool ?_
  cases k with
  | false => exact ite_ff ⟨.bl false,H3,I3,rfl,q3⟩
  | true => exact ite_tt (chain_last (thn (hc pins s3 σ H3 _ I3 q3) fun w' s4 ⟨z',H4,I4,r4,q4⟩ => ho' pins s4 σ H4 y z' u w' Q I4 r2 r4 q4))
noncomputable def TruV (K:PySem.W.Frag) (x:V) (H:Hp) (k:Bool):Prop :=
  match x with
  | .non => k = false
  | .bl b => k = b
  | .int i => k = (i != 0)
  | .str y => y.length ≤ sizeLine ∧ k = ((y.length:Int) != 0)
  | .byt y => y.size ≤ sizeLine ∧ k = ((y.size:Int) != 0)
  | .ref p => (∃ xs,SqL K H p xs ∧ k = !xs.isEmpty) ∨ (∃ xs,SqT K H p xs ∧ k = !xs.isEmpty) ∨ ∃ kvs,H p = some (.dK kvs) ∧ k = !kvs.isEmpty
  | _ => False
theorem isEmpty_kv {κ:Type} {kvs:List (κ × V)} {vs:List (κ × Value)} (r:KV kvs vs):(!vs.isEmpty) = !kvs.isEmpty:=by
  cases r <;> rfl
theorem isEmpty_of {xs:List V} {its:List Value} (r:Vals xs its):(!its.toArray.isEmpty) = !xs.isEmpty:=by
  cases r <;> simp
theorem line63:(sizeLine:Nat) < 2 ^ 63:=by rw [sizeLine_eq]; decide
theorem tru_ok:TruR X (fun x H Q => ∃ k,TruV X.K x H k ∧ Q k H):=by
  intro pins s σ H x v Q I rx h
  obtain ⟨k,e,q⟩:=h
  have hl:=line63
  have hs:sizeLine = 16777216:=sizeLine_eq
  cases x with
  | non =>
    cases rx
    have e':k = false:=e
    subst e'
    exact truthy_none ⟨H,I,q⟩
  | bl b =>
    cases rx
    have e':k = b:=e
    subst e'
    exact wpAny_truthy_bool ⟨H,I,q⟩
  | int i =>
    obtain ⟨t,rfl⟩:=rx
    have e':k = (i != 0):=e
    subst e'
    exact PySem.P.truthy_int ⟨H,I,q⟩
  | str y =>
    obtain ⟨t,rfl⟩:=rx
    obtain ⟨hy,e'⟩:y.length ≤ sizeLine ∧ k = ((y.length:Int) != 0):=e
    subst e'
    exact PySem.P.truthy_str (by omega) ⟨H,I.tok _,q⟩
  | byt y =>
    obtain ⟨t,rfl⟩:=rx
    obtain ⟨hy,e'⟩:y.size ≤ sizeLine ∧ k = ((y.size:Int) != 0):=e
    subst e'
    exact PySem.W.truthy_bytes (by omega) ⟨H,I.tok _,q⟩
  | ref p =>
    cases rx
    have e':(∃ xs,SqL X.K H p xs ∧ k = !xs.isEmpty) ∨ (∃ xs,SqT X.K H p xs ∧ k = !xs.isEmpty) ∨ ∃ kvs,H p = some (.dK kvs) ∧ k = !kvs.isEmpty:=e
    rcases e' with ⟨xs,hx,e'⟩ | ⟨xs,hx,e'⟩ | ⟨kvs,hx,e'⟩
    · subst e'
      obtain ⟨its,r,pl,hz⟩:=I.list hx
      have hlen:=r.length
      exact wpAny_truthy_list pl.isList (by simp only [List.size_toArray]; omega) ⟨H,I.tok _,by rw [isEmpty_of r]; exact q⟩
    · subst e'
      obtain ⟨its,r,pl,hz⟩:=I.tuple hx
      have hlen:=r.length
      exact truthy_tuple pl (by simp only [List.size_toArray]; omega) ⟨H,I.tok _,by rw [isEmpty_of r]; exact q⟩
    · subst e'
      obtain ⟨hz,hS,vs,r,m⟩:kvs.length ≤ sizeLine ∧ (p == sysModules) = false ∧ ∃ vs,KV kvs vs ∧ s.heap.DictOf (mixKind X.prog X.w) p vs:=I.hok p _ hx
      have hlen:kvs.length = vs.length:=Paired.length r
      exact wpAny_truthy_dict hS m (by omega) ⟨H,I.tok _,by rw [isEmpty_kv r]; exact q⟩
  | _ => exact (show False from e).elim
theorem pt_truth (ha:PE X a ta) (he:∀ whole,isTrue a X.env whole = (do let v ← whole; standAt a.pos; holding [v] (truthy v))) :
    PT X a (fun σ H Q => ta σ H fun x H' => ∃ k,TruV X.K x H' k ∧ Q k H'):=by
  intro pins s σ H Q I h
  exact isTrue_plain (thn (ha pins s σ H _ I h) fun v s1 ⟨x,H1,I1,r1,q1⟩ => tru_ok pins s1 σ H1 x v Q I1 r1 q1) (he _)
theorem op_add_str:OpR X (binaryOp .Add) (fun x y H Q => ∃ i j,x = .str i ∧ y = .str j ∧ i.length + j.length ≤ sizeLine ∧ Q (.str (i ++ j)) H):=by
  intro pins s σ H x y v u Q I rx ry h
  obtain ⟨i,j,rfl,rfl,hz,q⟩:=h
  obtain ⟨t,rfl⟩:=rx
  obtain ⟨t',rfl⟩:=ry
  exact add_str (fun t' tk => ⟨.str (i ++ j),H,I.tok _,⟨_,rfl⟩,q⟩) hz
theorem vals1 {x:V} {us:List Value} (r:Vals [x] us):∃ u,us = [u] ∧ RelV x u:=by
  cases r with
  | cons r1 r2 => cases r2; exact ⟨_,rfl,r1⟩
theorem vals2 {x y:V} {us:List Value} (r:Vals [x,y] us):∃ u w',us = [u,w'] ∧ RelV x u ∧ RelV y w':=by
  cases r with
  | cons r1 r2 =>
    cases r2 with
    | cons r3 r4 => cases r4; exact ⟨_,_,rfl,r1,r3⟩
theorem call_int1:CallR X (.type "int") (fun xs H Q => (∃ i,xs = [.int i] ∧ Q (.int i) H) ∨ ∃ k,xs = [.bl k] ∧ Q (.int (if k then 1 else 0)) H):=by
  intro pins s σ H xs us Q I r h
  rcases h with ⟨i,rfl,q⟩ | ⟨k,rfl,q⟩
  · obtain ⟨u,rfl,t,rfl⟩:=vals1 r
    exact call_int_int ⟨.int i,H,I,⟨_,rfl⟩,q⟩
  · obtain ⟨u,rfl,r1⟩:=vals1 r
    cases r1
    exact call_int_bool ⟨.int (if k then 1 else 0),H,I.tok _,⟨_,rfl⟩,q⟩
theorem call_str_int:CallR X (.type "str") (fun xs H Q => ∃ i,xs = [.int i] ∧ i.natAbs.log2 < 1920 ∧ Q (.str (toString i)) H):=by
  intro pins s σ H xs us Q I r h
  obtain ⟨i,rfl,hz,q⟩:=h
  obtain ⟨u,rfl,t,rfl⟩:=vals1 r
  exact PySem.P.str_of_int hz ⟨.str _,H,I.tok _,⟨_,rfl⟩,q⟩
noncomputable def LenV (K:PySem.W.Frag) (x:V) (H:Hp) (n:Nat):Prop :=
  match x with
  | .str y => y.length ≤ sizeLine ∧ n = y.length
  | .byt y => y.size ≤ sizeLine ∧ n = y.size
  | .ref p => (∃ xs,SqL K H p xs ∧ n = xs.length) ∨ ∃ xs,SqT K H p xs ∧ n = xs.length
  | _ => False
theorem call_len:CallR X (.builtin "len") (fun xs H Q => ∃ x n,xs = [x] ∧ LenV X.K x H n ∧ Q (.int n) H):=by
  intro pins s σ H xs us Q I r h
  obtain ⟨x,n,rfl,e,q⟩:=h
  obtain ⟨u,rfl,rx⟩:=vals1 r
  have hl:=line63
  have hs:sizeLine = 16777216:=sizeLine_eq
  cases x with
  | str y =>
    obtain ⟨t,rfl⟩:=rx
    obtain ⟨hy,e'⟩:y.length ≤ sizeLine ∧ n = y.length:=e
    subst e'
    exact len_str (by omega) ⟨.int _,H,I.tok _,⟨_,rfl⟩,q⟩
  | byt y =>
    obtain ⟨t,rfl⟩:=rx
    obtain ⟨hy,e'⟩:y.size ≤ sizeLine ∧ n = y.size:=e
    subst e'
    exact PySem.W.len_bytes (by omega) ⟨.int _,H,I.tok _,⟨_,rfl⟩,q⟩
  | ref p =>
    cases rx
    have e':(∃ xs,SqL X.K H p xs ∧ n = xs.length) ∨ ∃ xs,SqT X.K H p xs ∧ n = xs.length:=e
    rcases e' with ⟨xs,hx,e'⟩ | ⟨xs,hx,e'⟩
    · subst e'
      obtain ⟨its,r',pl,hz⟩:=I.list hx
      have hlen:=r'.length
      exact Calls.call_len_list pl.isList (by simp only [List.size_toArray]; omega) ⟨.int xs.length,H,I.tok _,⟨_,by simp only [List.size_toArray]; rw [hlen]⟩,q⟩
    · subst e'
      obtain ⟨its,r',pl,hz⟩:=I.tuple hx
      have hlen:=r'.length
      exact len_tuple pl (by simp only [List.size_toArray]; omega) ⟨.int xs.length,H,I.tok _,⟨_,by simp only [List.size_toArray]; rw [hlen]⟩,q⟩
  | _ => exact (show False from e).elim
end
end L2
namespace L2
open PySem PySem.Spec PyProof.Rows
structure ObjM (h:Heap) (x dx C:Addr) (mA:Str → Option Value):Prop where
  obj:h.get? x = some (PySem.W.instObj C dx)
  ns:h.Ns1 dx mA
  ne:dx ≠ x
theorem lookIn_ns {h:Heap} {dx:Addr} {mA:Str → Option Value} (n:h.Ns1 dx mA):∃ od,h.get? dx = some od ∧ ∀ name,PySem.W.lookIn name od = some (mA name):=by
  obtain ⟨o,es,ep,ho,hd,hk,_,hm⟩:=n
  refine ⟨o,ho,fun name => ?_⟩
  have e:=hm name
  unfold nsFind findBy at e
  rw [← Array.find?_toList] at e
  unfold PySem.W.lookIn
  rw [hd]
  dsimp only
  split
  · rename_i y q
    rw [q] at e
    exact congrArg some e
  · rename_i q
    rw [q] at e
    have a:es.toList.any (·.refKey) = false:=by
      rw [List.any_eq_false]
      intro y hy
      obtain ⟨z,t,hkey⟩:=hk y (Array.mem_toList_iff.mp hy)
      simp [DictEntry.refKey,hkey]
    have a':¬ es.toList.any (·.refKey) = true:=by rw [a]; exact Bool.false_ne_true
    rw [if_neg a']
    exact congrArg some e
theorem ObjM.look {h:Heap} {x dx C:Addr} {mA:Str → Option Value} (I:ObjM h x dx C mA):∃ od,PySem.W.InstAt h x (PySem.W.instObj C dx) C (some od) ∧ ∀ name,PySem.W.lookIn name od = some (mA name) :=
  let ⟨od,ho,hl⟩:=lookIn_ns I.ns
  ⟨od,⟨I.obj,rfl,rfl,ho⟩,hl⟩
section
variable {prog:Program} {w:World} {A:Around} {E:Value → Shared → Prop} {s:Shared} {K:PySem.W.Frag} {x dx C f:Addr} {mA:Str → Option Value} {name:Str} {v:Value}
theorem get_map {expr:Bool} {Q:Value → Shared → Prop} (X:K.In s.heap) (I:ObjM s.heap x dx C mA) (hg:PySem.W.plainGet K C name = true) (hh:PySem.W.hasDictIn K C = true)
    (ha:PySem.W.findIn K (.ref C) name = some none) (hv:mA name = some v) (hv':PySem.W.handedIn v = true) (h:Q v { s with toks:=s.toks + 1 }) :
    wpAny (model prog w) A (getAttr (.ref x) name expr) Q E s:=by
  obtain ⟨od,J,hl⟩:=I.look
  exact PySem.W.get_value X J (PySem.W.plainGet_of hg).1 (PySem.W.findObj_own hh ha rfl (by rw [hl,hv])) hv' h
theorem get_meth {pl:Sem Bool} {Q:Value × List Value → Shared → Prop} (X:K.In s.heap) (I:ObjM s.heap x dx C mA) (hg:PySem.W.plainGet K C name = true)
    (hf:PySem.W.findIn K (.ref C) name = some (some (.ref f))) (ht:PySem.W.isFn K (.ref f) = true) (hv:mA name = none) (h:Q (.ref f,[.ref x]) s) :
    wpAny (model prog w) A (getMethod (.ref x) name pl) Q E s:=by
  obtain ⟨od,J,hl⟩:=I.look
  exact PySem.W.method_fn X J (PySem.W.plainGet_of hg).1 (PySem.W.plainGet_of hg).2 hf (beq_iff_eq.mp ht) (by show (PySem.W.lookIn name od).map (·.isSome) = some false; rw [hl,hv]; rfl) h
theorem set_map {ns:List Str} {Q:Unit → Shared → Prop} (X:K.In s.heap) (I:ObjM s.heap x dx C mA)
    (hs:PySem.W.findIn K (.ref C) "__setattr__" = some (some (.builtin "object.__setattr__"))) (hp:PySem.W.plainOver K C = true) (ht:PySem.W.takerIn K C name = some none) (hh:PySem.W.hasDictIn K C = true)
    (hw:PySem.Within mA ns) (hsz:ns.length ≤ sizeLine)
    (h:∀ h',ObjM h' x dx C (fun y => if y = name then some v else mA y) → Heap.SameBut dx s.heap h' → Q () { s with heap:=h',toks:=s.toks + 2 }) :
    wpAny (model prog w) A (setAttr (.ref x) name v) Q E s:=by
  obtain ⟨od,J,hl⟩:=I.look
  refine PySem.W.set_plain X J hs (PySem.W.osa_open (s:={ s with toks:=s.toks + 1 }) (r:=none) X J hp ht fun b => ?_)
  obtain ⟨cd,hc,hd'⟩:=PySem.W.any_some hh
  have hx:s.heap.get? x = some ⟨.ref C,some dx,.plain,#[]⟩:=I.obj
  refine wpAny_bind (wpAny_pure (wpAny_bind (wpAny_bind (wpAny_loadPart hx (wpAny_bind (PySem.W.Looks.here (s:={ s with toks:=s.toks + 1 }) (PySem.W.looks_clsIn X hc) ?_))))))
  rw [hd']
  refine wpAny_pure (a:=some dx) (wpAny_bind (wpAny_pure (wpAny_bind ?_)))
  refine wpAny_nsSet1 (s:={ s with toks:=s.toks + 1 }) I.ns fun h' hn2 hs2 => ?_
  obtain ⟨oD,esD,epD,hoD,hdD,hcD⟩:=hn2.count (PySem.Within.cons name v hw)
  refine wpAny_bind (wpAny_lookBehind hoD (by rw [hdD]; exact pastItsLine_dict (Nat.le_trans hcD (by rw [List.length_cons]; omega))) ?_)
  exact wpAny_pure (h _ ⟨(hs2.2 _ (Ne.symm I.ne)).trans I.obj,hn2,I.ne⟩ hs2)
theorem make_map {R:Result → Shared → Prop} {vs:List Value} {kw:List (Str × Value)} (X:K.In s.heap) (hm:PySem.W.makesIn K C = true)
    (hi:PySem.W.findIn K (.ref C) "__init__" = some (some (.ref f))) (hf:PySem.W.typeIn K (.ref f) = some (.type "function"))
    (h:codeAny (model prog w) (A.under (.builtin "type.__call__" ⟨.ref C :: vs,kw⟩)) (.call (.ref f) ⟨.ref (s.heap.objs.size + 1) :: vs,kw⟩) (PySem.W.InitBack (s.heap.objs.size + 1) R)
      { s with heap:=(s.heap.push PySem.W.emptyDict).push (PySem.W.instObj C s.heap.objs.size) }) :
    codeAny (model prog w) A (.call (.ref C) ⟨vs,kw⟩) R s:=by
  obtain ⟨hh,g,d,t,os⟩:=s
  exact PySem.W.make_core (PySem.W.makes_of X hm) (PySem.W.looks_findIn X hi) (fun self => PySem.W.bind_fn X self hf) (.inl rfl) h
end
noncomputable def putF (f:Str) (v:V):List (Str × V) → List (Str × V)
  | [] => [(f,v)]
  | (g,x) :: r => if g = f then (g,v) :: r else (g,x) :: putF f v r
theorem lookup_putF (f g:Str) (v:V):∀ fs:List (Str × V),(putF f v fs).lookup g = if g = f then some v else fs.lookup g
  | [] => by
    show List.lookup g [(f,v)] = _
    by_cases h:g = f
    · have hb:(g == f) = true:=beq_iff_eq.mpr h
      simp only [List.lookup,hb,if_pos h]
    · have hb:(g == f) = false:=beq_eq_false_iff_ne.mpr h
      simp only [List.lookup,hb,if_neg h]
  | (k,x) :: r => by
    have ih:=lookup_putF f g v r
    rw [show putF f v ((k,x) :: r) = (if k = f then (k,v) :: r else (k,x) :: putF f v r) from rfl]
    by_cases hk:k = f
    · rw [if_pos hk]
      by_cases h:g = k
      · have hb:(g == k) = true:=beq_iff_eq.mpr h
        simp only [List.lookup,hb,if_pos (h.trans hk)]
      · have hb:(g == k) = false:=beq_eq_false_iff_ne.mpr h
        simp only [List.lookup,hb,if_neg (fun e:g = f => h (e.trans hk.symm))]
    · rw [if_neg hk]
      by_cases h:g = k
      · have hb:(g == k) = true:=beq_iff_eq.mpr h
        simp only [List.lookup,hb,if_neg (fun e:g = f => hk (h.symm.trans e))]
      · have hb:(g == k) = false:=beq_eq_false_iff_ne.mpr h
        simp only [List.lookup,hb]
        exact ih
theorem keys_putF (f:Str) (v:V):∀ fs:List (Str × V),f ∈ (putF f v fs).map (·.1) ∧ ∀ g,g ∈ fs.map (·.1) → g ∈ (putF f v fs).map (·.1)
  | [] => ⟨by simp [putF],fun g h => by simp at h⟩
  | (k,x) :: r => by
    obtain ⟨i1,i2⟩:=keys_putF f v r
    rw [show putF f v ((k,x) :: r) = (if k = f then (k,v) :: r else (k,x) :: putF f v r) from rfl]
    by_cases hk:k = f
    · rw [if_pos hk]
      subst hk
      exact ⟨by simp,fun g h => by simpa using h⟩
    · rw [if_neg hk]
      refine ⟨?_,fun g h => ?_⟩
      · rw [List.map_cons]
        exact List.mem_cons_of_mem _ i1
      · rw [List.map_cons] at h ⊢
        rcases List.mem_cons.mp h with e | e
        · exact List.mem_cons.mpr (.inl e)
        · exact List.mem_cons_of_mem _ (i2 g e)
theorem length_putF (f:Str) (v:V):∀ fs:List (Str × V),(putF f v fs).length ≤ fs.length + 1
  | [] => by simp [putF]
  | (k,x) :: r => by
    have ih:=length_putF f v r
    rw [show putF f v ((k,x) :: r) = (if k = f then (k,v) :: r else (k,x) :: putF f v r) from rfl]
    by_cases hk:k = f
    · rw [if_pos hk,List.length_cons,List.length_cons]; omega
    · rw [if_neg hk,List.length_cons,List.length_cons]; omega
theorem RelO.some_of {v:V} {o:Option Value} (r:RelO (some v) o):∃ u,o = some u ∧ RelV v u:=by
  cases o with
  | none => exact (show False from r).elim
  | some u => exact ⟨u,rfl,r⟩
theorem RelO.none_of {o:Option Value} (r:RelO none o):o = none:=by
  cases o with
  | none => rfl
  | some u => exact (show False from r).elim
theorem handed_of {v:V} {u:Value} (r:RelV v u):PySem.W.handedIn u = true:=by
  cases v with
  | non => cases (show u = Value.none from r); rfl
  | bl b => cases (show u = Value.bool b from r); rfl
  | int i => obtain ⟨t,e⟩:=(show ∃ t,u = Value.int i t from r); cases e; rfl
  | str x => obtain ⟨t,e⟩:=(show ∃ t,u = Value.str x t from r); cases e; rfl
  | byt b => obtain ⟨t,e⟩:=(show ∃ t,u = Value.bytes b t from r); cases e; rfl
  | flt b => obtain ⟨t,e⟩:=(show ∃ t,u = Value.float b t from r); cases e; rfl
  | ref a => cases (show u = Value.ref a from r); rfl
  | ty n => cases (show u = Value.type n from r); rfl
section
variable {P:Program} {w:World} {H H':Hp} {h h':Heap} {a C dx:Addr} {fs fs':List (Str × V)}
theorem ins_get (hok:HOk P w H h) (e:H a = some (.ins C dx fs)):∃ mA,ObjM h a dx C mA ∧ (∀ f,RelO (fs.lookup f) (mA f)) ∧ PySem.Within mA (fs.map (·.1)) ∧ fs.length ≤ 1000 ∧ H dx = some (.own a):=by
  obtain ⟨d,z,ne,ob,mA,n,r,q⟩:=(show ObjOk P w H h a (.ins C dx fs) from hok a _ e)
  exact ⟨mA,⟨ob,n,ne⟩,r,q,z,d⟩
end
structure Cls (K:PySem.W.Frag) (C:Addr):Prop where
  pg:PySem.W.plainGet K C Str.empty = true
  hd:PySem.W.hasDictIn K C = true
  po:PySem.W.plainOver K C = true
  sa:PySem.W.findIn K (.ref C) "__setattr__" = some (some (.builtin "object.__setattr__"))
theorem Cls.get {K:PySem.W.Frag} {C:Addr} (c:Cls K C) (f:Str):PySem.W.plainGet K C f = true:=c.pg
noncomputable def NoAttr (K:PySem.W.Frag) (C:Addr) (f:Str):Prop:=PySem.W.findIn K (.ref C) f = some none
theorem NoAttr.taker {K:PySem.W.Frag} {C:Addr} {f:Str} (n:NoAttr K C f):PySem.W.takerIn K C f = some none:=by
  unfold PySem.W.takerIn
  rw [show PySem.W.findIn K (.ref C) f = some none from n]
  rfl
structure Meth (K:PySem.W.Frag) (C:Addr) (m:Str) (f:Addr):Prop where
  at_:PySem.W.findIn K (.ref C) m = some (some (.ref f))
  fn:PySem.W.isFn K (.ref f) = true
  kp:PySem.W.keepIn K (.ref f) = true
section
variable {X:Cx} {pins:List (Addr × Obj)} {σ:St} {H:Hp} {s:Shared} {a C dx:Addr} {fs:List (Str × V)} {f:Str} {v:V} {A:Around} {E:Value → Shared → Prop}
theorem getattr_ok {b:Bool} {Q:Value → Shared → Prop} (I:Inv X pins σ H s) (e:H a = some (.ins C dx fs)) (c:Cls X.K C) (n:NoAttr X.K C f) (l:fs.lookup f = some v)
    (h:∀ u s',Inv X pins σ H s' → RelV v u → Q u s'):wpAny (model X.prog X.w) A (getAttr (.ref a) f b) Q E s:=by
  obtain ⟨mA,O,r,_,_,_⟩:=ins_get I.hok e
  obtain ⟨u,hu,ru⟩:=RelO.some_of (v:=v) (o:=mA f) (by rw [← l]; exact r f)
  exact get_map I.kIn O (c.get f) c.hd n hu (handed_of ru) (h u _ (I.tok _) ru)
theorem getmeth_ok {m:Str} {g:Addr} {pl:Sem Bool} {Q:Value × List Value → Shared → Prop} (I:Inv X pins σ H s) (e:H a = some (.ins C dx fs)) (c:Cls X.K C) (k:Meth X.K C m g) (l:fs.lookup m = none)
    (h:Q (.ref g,[.ref a]) s):wpAny (model X.prog X.w) A (getMethod (.ref a) m pl) Q E s:=by
  obtain ⟨mA,O,r,_,_,_⟩:=ins_get I.hok e
  have hn:mA m = none:=RelO.none_of (by rw [← l]; exact r m)
  exact get_meth I.kIn O (c.get m) k.at_ k.fn hn h
theorem setattr_ok {y:V} {u:Value} {Q:Unit → Shared → Prop} (I:Inv X pins σ H s) (e:H a = some (.ins C dx fs)) (c:Cls X.K C) (n:NoAttr X.K C f) (hl:fs.length < 1000) (ry:RelV y u)
    (h:∀ s',Inv X pins σ (upd H a (.ins C dx (putF f y fs))) s' → Q () s'):wpAny (model X.prog X.w) A (setAttr (.ref a) f u) Q E s:=by
  obtain ⟨mA,O,r,wi,_,ho⟩:=ins_get I.hok e
  have hz:(fs.map (·.1)).length ≤ sizeLine:=by rw [List.length_map,sizeLine_eq]; omega
  refine set_map I.kIn O c.sa c.po n.taker c.hd wi hz fun h' O' sb => h _ ?_
  have hd:∃ o,h'.get? dx = some o:=let ⟨o,_,_,e',_⟩:=O'.ns; ⟨o,e'⟩
  refine I.write (x:=a) (e:=dx) (by rw [e]; exact True.intro) (.inr ho) (fun b q hb z => (sb.2 b hb).trans z) hd ?_
  refine ⟨by rw [upd_ne O.ne]; exact ho,?_,O.ne,O'.obj,_,O'.ns,fun g => ?_,fun g hg => ?_⟩
  · have:=length_putF f y fs; omega
  · show RelO ((putF f y fs).lookup g) (if g = f then some u else mA g)
    rw [lookup_putF]
    by_cases q:g = f
    · rw [if_pos q,if_pos q]; exact ry
    · rw [if_neg q,if_neg q]; exact r g
  · by_cases q:g = f
    · rw [q]; exact (keys_putF f y fs).1
    · refine (keys_putF f y fs).2 g (wi g fun z => hg ?_)
      show (if g = f then some u else mA g) = none
      rw [if_neg q]; exact z
theorem Inv.made (I:Inv X pins σ H s):Inv X pins σ (upd (upd H s.heap.objs.size (.own (s.heap.objs.size + 1))) (s.heap.objs.size + 1) (.ins C s.heap.objs.size []))
    { s with heap:=(s.heap.push PySem.W.emptyDict).push (PySem.W.instObj C s.heap.objs.size) }:=by
  have e1:(s.heap.push PySem.W.emptyDict).get? s.heap.objs.size = some PySem.W.emptyDict:=Heap.get?_push_size s.heap rfl
  have e2:((s.heap.push PySem.W.emptyDict).push (PySem.W.instObj C s.heap.objs.size)).get? (s.heap.objs.size + 1) = some (PySem.W.instObj C s.heap.objs.size):=by
    have:=Heap.get?_push_size (s.heap.push PySem.W.emptyDict) (o:=PySem.W.instObj C s.heap.objs.size) rfl
    rwa [Heap.size_push] at this
  have e3:(s.heap.push PySem.W.emptyDict).Ns s.heap.objs.size (fun _ => none):=⟨PySem.W.emptyDict,#[],_,e1,rfl,(fun e he => absurd he (by simp)),fun _ => rfl⟩
  have I1:=I.laid (a:=s.heap.objs.size) (o:=.own (s.heap.objs.size + 1)) (h':=s.heap.push PySem.W.emptyDict) (t':=s.toks) (fun b u q => Heap.get?_push_of_some _ q) (Nat.le_refl _) ⟨_,e1⟩
  refine I1.laid (a:=s.heap.objs.size + 1) (o:=.ins C s.heap.objs.size []) (t':=s.toks) (fun b u q => Heap.get?_push_of_some _ q) (Nat.le_of_eq (Heap.size_push _ _)) ?_
  have ne:s.heap.objs.size ≠ s.heap.objs.size + 1:=Nat.ne_of_lt (Nat.lt_succ_self _)
  refine ⟨by rw [upd_ne ne,upd_same],Nat.zero_le _,ne,e2,fun _ => none,(Heap.Ns1.of_empty e3).at fun o q => Heap.get?_push_of_some _ q,fun _ => True.intro,fun y hy => absurd rfl hy⟩
theorem attr_of {prog:Program} {w:World} {env:Env} {e:Expr} {f:Str} {pos:Pos} {s:Shared} {Q:Value → Shared → Prop} (hb:attributeBase e f env (eval e env) = eval e env)
    (h:wpAny (model prog w) A (eval e env) (fun o s₁ => wpAny (model prog w) A (getAttr o f true) Q E s₁) E s):wpAny (model prog w) A (eval (.Attribute e f pos) env) Q E s :=
  Attribute_any_ h (by rw [arm_eval_Attribute,hb])
end
noncomputable def tFld (K:PySem.W.Frag) (ta:TE) (f:Str):TE:=fun σ H Q => ta σ H fun x H1 => ∃ a C dx fs v,x = .ref a ∧ H1 a = some (.ins C dx fs) ∧ Cls K C ∧ NoAttr K C f ∧ fs.lookup f = some v ∧ Q v H1
noncomputable def sFld (K:PySem.W.Frag) (ta tv:TE) (f:Str):TS:=fun D σ H => tv σ H fun y H1 => ta σ H1 fun x H2 => ∃ a C dx fs,x = .ref a ∧ H2 a = some (.ins C dx fs) ∧ Cls K C ∧ NoAttr K C f ∧ fs.length < 1000 ∧
  D.nx σ (upd H2 a (.ins C dx (putF f y fs)))
noncomputable def InOp (X:Cx) (op:Operator) (rd:V → V → Hp → VK → Prop):Prop :=
  ∀ (pins:List (Addr × Obj)) (s:Shared) (σ:St) (H:Hp) (x y:V) (u v:Value) (Q:VK),Inv X pins σ H s → RelV x u → RelV y v → rd x y H Q → wpAny (model X.prog X.w) X.A (inplaceOp op u v) (EP X pins σ Q) X.xe s
noncomputable def sFldAug (K:PySem.W.Frag) (ta tv:TE) (rd:V → V → Hp → VK → Prop) (f:Str):TS:=fun D σ H => ta σ H fun x H1 => ∃ a C dx fs v,x = .ref a ∧ H1 a = some (.ins C dx fs) ∧ Cls K C ∧ NoAttr K C f ∧ fs.lookup f = some v ∧
  tv σ H1 fun y H2 => rd v y H2 fun z H3 => ∃ dx' fs',H3 a = some (.ins C dx' fs') ∧ fs'.length < 1000 ∧ D.nx σ (upd H3 a (.ins C dx' (putF f z fs')))
section
variable {X:Cx} {o e value:Expr} {f:Str} {pos pos' tpos:Pos} {ta tv:TE}
theorem pe_fld (he:PE X e ta) (hb:attributeBase e f X.env (eval e X.env) = eval e X.env):PE X (.Attribute e f pos) (tFld X.K ta f):=by
  intro pins s σ H Q I h
  refine attr_of hb (thn (he pins s σ H _ I h) fun u s1 ⟨x,H1,I1,rx,a,C,dx,fs,v,ex,ea,c,n,l,q⟩ => ?_)
  subst ex
  obtain rfl:u = Value.ref a:=rx
  exact getattr_ok I1 ea c n l fun u' s2 I2 ru => ⟨v,H1,I2,ru,q⟩
theorem ps_fld (ha:PE X o ta) (hv:PE X value tv) (hs:swapsWith value (some (.Attribute o f pos')) pos.line X.env = pure false):PS X (.Assign [.Attribute o f pos'] value pos) (sFld X.K ta tv f):=by
  intro pins s σ H D I h
  refine plainObj_wpAny_Assign_Attribute (thn (hv pins s σ H _ I h) fun u s1 ⟨y,H1,I1,ry,q⟩ => thn (ha pins s1 σ H1 _ I1 q) fun ov s2 ⟨x,H2,I2,rx,a,C,dx,fs,ex,ea,c,n,l,q2⟩ => ?_) hs
  subst ex
  obtain rfl:ov = Value.ref a:=rx
  exact setattr_ok I2 ea c n l ry fun s3 I3 => ⟨σ,_,I3,q2⟩
theorem ps_fldaug {op:Operator} {rd:V → V → Hp → VK → Prop} (ha:PE X o ta) (hv:PE X value tv) (hop:InOp X op rd):PS X (.AugAssign (.Attribute o f tpos) op value pos) (sFldAug X.K ta tv rd f):=by
  intro pins s σ H D I h
  refine wpAny_AugAssign_AttributeAny (thn (ha pins s σ H _ I h) fun ov s1 ⟨x,H1,I1,rx,a,C,dx,fs,v,ex,ea,c,n,l,q⟩ => ?_)
  subst ex
  obtain rfl:ov = Value.ref a:=rx
  refine getattr_ok I1 ea c n l fun u s2 I2 ru => thn (hv pins s2 σ H1 _ I2 q) fun w3 s3 ⟨y,H2,I3,ry,q3⟩ => thn (hop pins s3 σ H2 v y u w3 _ I3 ru ry q3) fun w4 s4 ⟨z,H3,I4,rz,dx',fs',ea',l',q4⟩ => ?_
  exact setattr_ok I4 ea' c n l' rz fun s5 I5 => ⟨σ,_,I5,q4⟩
noncomputable def rAdd:V → V → Hp → VK → Prop:=fun x y H Q => ∃ i j,x = .int i ∧ y = .int j ∧ Q (.int (i + j)) H
theorem in_add:InOp X .Add rAdd:=by
  rintro pins s σ H x y u v Q I rx ry ⟨i,j,rfl,rfl,q⟩
  obtain ⟨t,rfl⟩:=(show ∃ t,u = Value.int i t from rx)
  obtain ⟨t',rfl⟩:=(show ∃ t',v = Value.int j t' from ry)
  exact PyProof.Rows.iadd_int ⟨.int (i + j),H,I.tok _,⟨_,rfl⟩,q⟩
theorem methcall_of {pl:Sem Bool} {m:Str} {apos:Pos} {args:List Expr} {pins:List (Addr × Obj)} {s:Shared} {σ:St} {H:Hp} {Q:Value → Shared → Prop} {te:TE} (he:PE X e te) (I:Inv X pins σ H s)
    (h:te σ H fun x H1 => ∃ a C dx fs g,x = .ref a ∧ H1 a = some (.ins C dx fs) ∧ Cls X.K C ∧ Meth X.K C m g ∧ fs.lookup m = none ∧
      ∀ s1,Inv X pins σ H1 s1 → wpAny (model X.prog X.w) X.A (callWith pos (.ref g) [.ref a] (backTo pos (starEach args X.env)) (backToKw pos (keywordEach [] X.env))) Q X.xe s1)
    (ht:eval (.Call (.Attribute e m apos) args [] pos) X.env = (do
      let ov ← eval e X.env
      standAt apos.atName
      let (f,first) ← holding [ov] (getMethod ov m pl)
      callWith pos f first (backTo pos (starEach args X.env)) (backToKw pos (keywordEach [] X.env)))) :
    wpAny (model X.prog X.w) X.A (eval (.Call (.Attribute e m apos) args [] pos) X.env) Q X.xe s:=by
  refine PySem.W.methodCall_KW (pl:=pl) (thn (he pins s σ H _ I h) fun u s1 ⟨x,H1,I1,rx,a,C,dx,fs,g,ex,ea,c,k,l,q⟩ => ?_) ht
  subst ex
  obtain rfl:u = Value.ref a:=rx
  exact getmeth_ok I1 ea c k l (q s1 I1)
end
section
variable {X:Cx} {pins:List (Addr × Obj)} {σ:St} {H:Hp} {s:Shared} {A:Around} {E:Value → Shared → Prop} {Q:Value → Shared → Prop} {c:Value} {b:Bool}
inductive TyOf (K:PySem.W.Frag) (H:Hp):V → Value → Prop where
  | non:TyOf K H .non (.type "NoneType")
  | bl (x:Bool):TyOf K H (.bl x) (.type "bool")
  | int (i:Int):TyOf K H (.int i) (.type "int")
  | str (x:Str):TyOf K H (.str x) (.type "str")
  | flt (x:UInt64):TyOf K H (.flt x) (.type "float")
  | lst {a:Addr} {xs:List V} (e:H a = some (.lst xs)):TyOf K H (.ref a) (.type "list")
  | frz {a:Addr} {o:Obj} {xs:List V} (e:H a = some (.frz o (.lst xs))):TyOf K H (.ref a) (.type "list")
  | tup {a:Addr} {xs:List V} (e:H a = some (.tup xs)):TyOf K H (.ref a) (.type "tuple")
  | dK {a:Addr} {kvs:List (Key × V)} (e:H a = some (.dK kvs)):TyOf K H (.ref a) (.type "dict")
  | dT {a:Addr} {kvs:List (List Key × V)} (e:H a = some (.dT kvs)):TyOf K H (.ref a) (.type "dict")
  | ins {a C dx:Addr} {fs:List (Str × V)} (e:H a = some (.ins C dx fs)) (cl:Cls K C) (ha:PySem.W.findIn K (.ref C) "__class__" = some (some (.builtin "object.__class__")))
      (hn:PySem.W.specialIn K (.builtin "object.__class__") "__get__" = some (some (.builtin "getset_descriptor.__get__"))) (htk:PySem.W.takesIn K (.builtin "object.__class__") = some true)
      (hm:PySem.W.mroIn K C (.type "object") = some true):TyOf K H (.ref a) (.ref C)
theorem isinst_ok {x:V} {u t:Value} (I:Inv X pins σ H s) (rx:RelV x u) (ty:TyOf X.K H x t) (e:PySem.W.kitOne X.K t c = some b) (h:∀ tk,Q (.bool b) { s with toks:=tk }) :
    wpAny (model X.prog X.w) A (call (.builtin "isinstance") [u,c]) Q E s:=by
  cases ty with
  | non => cases (show u = Value.none from rx); exact PySem.W.kia_one PySem.W.kitx_none I.kIn True.intro e (fun z => nomatch z) h
  | bl y => cases (show u = Value.bool y from rx); exact PySem.W.kia_one PySem.W.kitx_bool I.kIn True.intro e (fun z => nomatch z) h
  | int i => obtain ⟨t,q⟩:=(show ∃ t,u = Value.int i t from rx); cases q; exact PySem.W.kia_one PySem.W.kitx_int I.kIn True.intro e (fun z => nomatch z) h
  | str y => obtain ⟨t,q⟩:=(show ∃ t,u = Value.str y t from rx); cases q; exact PySem.W.kia_one PySem.W.kitx_str I.kIn True.intro e (fun z => nomatch z) h
  | flt y => obtain ⟨t,q⟩:=(show ∃ t,u = Value.float y t from rx); cases q; exact PySem.W.kia_one PySem.W.kitx_float I.kIn True.intro e (fun z => nomatch z) h
  | @lst a xs ea =>
    cases (show u = Value.ref a from rx)
    obtain ⟨_,_,n,_,h1⟩:=(show ObjOk X.prog X.w H s.heap a (.lst xs) from I.hok a _ ea)
    exact PySem.W.kia_one PySem.W.kitx_list I.kIn ⟨_,h1,rfl⟩ e (fun z => nomatch z) h
  | @frz a ob xs ea =>
    cases (show u = Value.ref a from rx)
    obtain ⟨_,_,_,n,_,h1⟩:=(show ObjOk X.prog X.w H s.heap a (.frz ob (.lst xs)) from I.hok a _ ea)
    exact PySem.W.kia_one PySem.W.kitx_list I.kIn ⟨_,h1,rfl⟩ e (fun z => nomatch z) h
  | @tup a xs ea =>
    cases (show u = Value.ref a from rx)
    obtain ⟨_,_,_,p⟩:=(show ObjOk X.prog X.w H s.heap a (.tup xs) from I.hok a _ ea)
    obtain ⟨o,h1,h2,_⟩:=p
    exact PySem.W.kia_one PySem.W.kitx_tuple I.kIn ⟨o,h1,h2⟩ e (fun z => nomatch z) h
  | @dK a kvs ea =>
    cases (show u = Value.ref a from rx)
    obtain ⟨_,_,vs,_,p⟩:=(show ObjOk X.prog X.w H s.heap a (.dK kvs) from I.hok a _ ea)
    obtain ⟨o,es,ep,h1,h2,_⟩:=p
    exact PySem.W.kia_one PySem.W.kitx_dict I.kIn ⟨o,h1,h2.1⟩ e (fun z => nomatch z) h
  | @dT a kvs ea =>
    cases (show u = Value.ref a from rx)
    obtain ⟨_,_,xs,_,o,es,ep,h1,h2,_⟩:=(show ObjOk X.prog X.w H s.heap a (.dT kvs) from I.hok a _ ea)
    exact PySem.W.kia_one PySem.W.kitx_dict I.kIn ⟨o,h1,h2.1⟩ e (fun z => nomatch z) h
  | @ins a C dx fs ea cl ha hn htk hm =>
    cases (show u = Value.ref a from rx)
    obtain ⟨mA,O,_⟩:=ins_get I.hok ea
    obtain ⟨od,J,_⟩:=O.look
    exact PySem.W.kia_one (PySem.W.kitx_own (cl.get _) cl.hd ha hn htk hm) I.kIn J e (fun z => nomatch z) h
end
end L2
namespace L2
open PySem PySem.Spec PyProof.Rows
structure Room (k:Nat) (A:Around):Prop where
  hd:A.handled = none
  dp:A.depth + 3 * k + 5 < recursionLimit
  un:A.units + 16 * k + 200 < cLine
theorem Room.mono {j k:Nat} {A:Around} (r:Room k A) (h:j ≤ k):Room j A:=⟨r.hd,by have:=r.dp; omega,by have:=r.un; omega⟩
theorem Room.deeper {k:Nat} {A:Around} (r:Room (k + 1) A) (env:Env):Room k (A.deeper env) :=
  ⟨r.hd,by have:=r.dp; show A.depth + 1 + 3 * k + 5 < _; omega,by have:=r.un; show A.units + 3 + 16 * k + 200 < _; omega⟩
theorem make_depth {A:Around} {C:Addr} {us:List Value} {kw:List (Str × Value)}:(A.under (.builtin "type.__call__" ⟨.ref C :: us,kw⟩)).depth = A.depth + 1:=by
  first | rfl | simp [Around.under,Code.weight,Code.isCreation,Code.isGuard,Code.isCaller,Code.frames,Code.isFrame,guardIds]
theorem make_units {A:Around} {C:Addr} {us:List Value} {kw:List (Str × Value)}:(A.under (.builtin "type.__call__" ⟨.ref C :: us,kw⟩)).units = A.units + 1:=by
  first | rfl | simp [Around.under,Code.cUnits,Code.frames,Code.isFrame]
theorem Room.make {k:Nat} {A:Around} (r:Room (k + 1) A) (C:Addr) (us:List Value) (kw:List (Str × Value)):Room k (A.under (.builtin "type.__call__" ⟨.ref C :: us,kw⟩)) :=
  ⟨r.hd,by have:=r.dp; rw [make_depth]; omega,by have:=r.un; rw [make_units]; omega⟩
theorem Room.depth {k:Nat} {A:Around} (r:Room k A):A.depth < recursionLimit:=by have:=r.dp; omega
noncomputable def tNil:TA:=fun _ H Q => Q [] H
noncomputable def tCons (ta:TE) (tr:TA):TA:=fun σ H Q => ta σ H fun x H1 => tr σ H1 fun xs H2 => Q (x :: xs) H2
section
variable {X:Cx} {e:Expr} {es:List Expr} {te:TE} {t:TA} {pos:Pos}
theorem pa_nil:PA X [] tNil:=fun _ _ _ _ H Q I h => Calls.spliced_nil ⟨[],H,I,.nil,h⟩
theorem pa_cons (ha:PE X e te) (hr:PA X es t) (hs:starEach (e :: es) X.env = (false,eval e X.env) :: starEach es X.env:=by rfl):PA X (e :: es) (tCons te t):=by
  intro pos pins s σ H Q I h
  rw [hs]
  show wpAny _ _ (spliced ((false,eval e X.env) :: backTo pos (starEach es X.env))) _ _ s
  refine Calls.spliced_cons (thn (ha pins s σ H _ I h) fun u s1 ⟨x,H1,I1,r1,q1⟩ => ?_)
  exact thn (hr pos pins s1 σ H1 _ I1 q1) fun us s2 ⟨xs,H2,I2,r2,q2⟩ => ⟨x :: xs,H2,I2,.cons r1 r2,q2⟩
noncomputable def tTup (t:TA):TE:=fun σ H Q => t σ H fun xs H1 => xs.length ≤ sizeLine ∧ ∀ p,H1 p = none → Q (.ref p) (upd H1 p (.tup xs))
noncomputable def tLst (t:TA):TE:=fun σ H Q => t σ H fun xs H1 => xs.length ≤ sizeLine ∧ ∀ p,H1 p = none → Q (.ref p) (upd H1 p (.lst xs))
theorem pe_tup {x1} (h:PA X es t):PE X (.Tuple es x1 pos) (tTup t):=by
  intro pins s σ H Q I hq
  refine wpAny_Tuple_spliced (thn (h pos pins s σ H _ I hq) fun us s1 ⟨xs,H1,I1,r,z,q⟩ => ⟨by rw [← r.length]; exact z,?_⟩)
  have hf:H1 s1.heap.objs.size = none:=I1.hok.fresh (Nat.le_refl _)
  refine ⟨.ref s1.heap.objs.size,upd H1 s1.heap.objs.size (.tup xs),I1.laid (t':=s1.toks) (fun b u e => Heap.get?_push_of_some _ e) (Nat.le_refl _) ?_,rfl,q _ hf⟩
  exact ⟨z,us,r,⟨_,Heap.get?_push_size _ rfl,rfl,_,rfl⟩⟩
theorem pe_lst (h:PA X es t):PE X (.List es pos) (tLst t):=by
  intro pins s σ H Q I hq
  refine wpAny_List_spliced (thn (h pos pins s σ H _ I hq) fun us s1 ⟨xs,H1,I1,r,z,q⟩ => ⟨by rw [← r.length]; exact z,?_⟩)
  have hf:H1 s1.heap.objs.size = none:=I1.hok.fresh (Nat.le_refl _)
  refine ⟨.ref s1.heap.objs.size,upd H1 s1.heap.objs.size (.lst xs),I1.laid (t':=s1.toks) (fun b u e => Heap.get?_push_of_some _ e) (Nat.le_refl _) ?_,rfl,q _ hf⟩
  exact ⟨z,us,0,r,Heap.get?_push_size _ rfl⟩
end
noncomputable abbrev Sp:=List V → Hp → VK → XK → Prop
noncomputable abbrev CXT:=List Env → Hp → Shared → XK → Value → Shared → Prop
structure Env0 (P:Program) (w:World) (K:PySem.W.Frag) (mg:Str → Option Value) (base:Heap) (A:Around) (outer:List Env) (s:Shared) (H:Hp):Prop where
  frames:A.frames = some outer
  mod:Mod K mg base
  bs:∀ b o,base.get? b = some o → s.heap.get? b = some o ∧ H b = none
  bsz:base.objs.size ≤ s.heap.objs.size
  funs:s.heap.FunFrames base outer
  frf:∀ b ∈ frs outer,H b = none
  hok:HOk P w H s.heap
  bare:AllBare s.gens
noncomputable def CE (outer:List Env) (P:Program) (w:World) (H:Hp) (s:Shared) (Q:VK) (u:Value) (s':Shared):Prop :=
  ∃ v H',s'.os = s.os ∧ AllBare s'.gens ∧ Un (frs outer) [] H H' s.heap s'.heap ∧ HOk P w H' s'.heap ∧ RelV v u ∧ Q v H'
noncomputable def CR (CX:CXT) (outer:List Env) (P:Program) (w:World) (H:Hp) (s:Shared) (Q:VK) (E:XK) (r:Result) (s':Shared):Prop :=
  match r with
  | .ok (.ret u) => CE outer P w H s Q u s'
  | .ok _ => False
  | .error e => CX outer H s E e s'
structure FnOk (P:Program) (w:World) (K:PySem.W.Frag) (mg:Str → Option Value) (base:Heap) (CX:CXT) (k:Nat) (f:Addr) (fd:FuncData) (ps:List Str) (sp:Sp):Prop where
  len:∀ vs H Q E,sp vs H Q E → vs.length = ps.length
  run:∀ (A:Around) (outer:List Env) (s:Shared) (H:Hp) (args:Args) (us:List Value) (vs:List V) (Q:VK) (E:XK),Room k A → Env0 P w K mg base A outer s H → BindsTo s fd args (ps.zip us) → Vals vs us → sp vs H Q E →
    codeAny (model P w) A (.call (.ref f) args) (CR CX outer P w H s Q E) s
theorem Env0.make {P:Program} {w:World} {K:PySem.W.Frag} {mg:Str → Option Value} {base:Heap} {A:Around} {outer:List Env} {s:Shared} {H:Hp} (e:Env0 P w K mg base A outer s H) (C:Addr) (us:List Value) (kw:List (Str × Value)) :
    Env0 P w K mg base (A.under (.builtin "type.__call__" ⟨.ref C :: us,kw⟩)) outer s H:=⟨by first | exact e.frames | (simpa [Around.under,Code.envs,Code.isFrame,pushEnvs] using e.frames),e.mod,e.bs,e.bsz,e.funs,e.frf,e.hok,e.bare⟩
section
variable {X:Cx} {pins:List (Addr × Obj)} {σ:St} {H:Hp} {s s':Shared}
theorem Inv.env0 (I:Inv X pins σ H s):Env0 X.prog X.w X.K X.mg X.base X.A X.stack s H :=
  ⟨I.ok.frames,I.ok.mod,I.bs,Nat.le_trans I.ok.bsz I.sz,I.stack,I.stkFree,I.hok,I.bare⟩
theorem Inv.after {Q:VK} {u:Value} (I:Inv X pins σ H s) (h:CE X.stack X.prog X.w H s Q u s'):EP X pins σ Q u s':=by
  obtain ⟨v,H',os,bare,un,hok,r,q⟩:=h
  obtain ⟨hh,g,d,t,os'⟩:=s'
  obtain rfl:os' = s.os:=os
  exact ⟨v,H',I.call (h':=hh) (g':=g) (d':=d) (t':=t) (ch:=[]) un hok bare (fun b z => absurd z (by simp)),r,q⟩
end
noncomputable def tCall (sp:Sp) (dvs:List V) (E:XK) (t:TA):TE:=fun σ H Q => t σ H fun vs H1 => sp (vs ++ dvs) H1 Q E
noncomputable def tMeth (C:Addr) (m:Str) (sp:Sp) (dvs:List V) (E:XK) (ta:TE) (t:TA):TE:=fun σ H Q => ta σ H fun x H1 => ∃ a dx fs,x = .ref a ∧ H1 a = some (.ins C dx fs) ∧ fs.lookup m = none ∧
  t σ H1 fun vs H2 => sp (x :: (vs ++ dvs)) H2 Q E
noncomputable def tMake (C:Addr) (sp:Sp) (dvs:List V) (E:XK) (t:TA):TE:=fun σ H Q => t σ H fun vs H1 => ∀ x dx,H1 x = none → H1 dx = none → dx ≠ x →
  sp (.ref x :: (vs ++ dvs)) (upd (upd H1 dx (.own x)) x (.ins C dx [])) (fun v H2 => v = .non ∧ Q (.ref x) H2) E
noncomputable def Binds (K:PySem.W.Frag) (fd:FuncData) (ps:List Str) (ds:List Value):Prop :=
  ∀ (s:Shared) (us:List Value),K.In s.heap → (us ++ ds).length = ps.length → BindsTo s fd ⟨us,[]⟩ (ps.zip (us ++ ds))
theorem Binds.all {K:PySem.W.Frag} {fd:FuncData} {ps:List Str} (h:∀ us:List Value,us.length = ps.length → bindArgs fd ⟨us,[]⟩ = pure (ps.zip us)):Binds K fd ps []:=fun s us _ hl => by
  rw [List.append_nil] at hl ⊢
  exact .of_eq (h us hl)
noncomputable def Passes (CX:CXT) (X:Cx) (E:XK):Prop:=∀ (pins:List (Addr × Obj)) (σ:St) (H:Hp) (s:Shared) (e:Value) (s':Shared),Inv X pins σ H s → CX X.stack H s E e s' → X.xe e s'
section
variable {X:Cx} {CX:CXT} {k:Nat} {f C:Addr} {fd:FuncData} {ps:List Str} {sp:Sp} {dvs:List V} {ds:List Value} {E:XK} {x m:Str} {p pos apos:Pos} {e o:Expr} {es:List Expr} {ta:TE} {t:TA}
theorem run_fn {pins:List (Addr × Obj)} {σ:St} {H:Hp} {s:Shared} {Q:VK} {us:List Value} {vs:List V} (F:FnOk X.prog X.w X.K X.mg X.base CX k f fd ps sp) (hr:Room k X.A) (hb:Binds X.K fd ps ds) (hd:Vals dvs ds) (hx:Passes CX X E)
    (I:Inv X pins σ H s) (r:Vals vs us) (h:sp (vs ++ dvs) H Q E):wpAny (model X.prog X.w) X.A (call (.ref f) us) (EP X pins σ Q) X.xe s:=by
  have r2:Vals (vs ++ dvs) (us ++ ds):=r.append hd
  have hl:(us ++ ds).length = ps.length:=by rw [← r2.length]; exact F.len _ _ _ _ h
  refine wpAny_call (codeAny_mono (F.run X.A X.stack s H ⟨us,[]⟩ (us ++ ds) (vs ++ dvs) Q E hr I.env0 (hb s us I.kIn hl) r2 h) fun r s' hq => ?_)
  cases r with
  | error e => exact hx pins σ H s e s' I hq
  | ok fl =>
    cases fl with
    | ret u => exact I.after hq
    | next => exact False.elim hq
    | brk => exact False.elim hq
    | cont => exact False.elim hq
theorem pe_call (F:FnOk X.prog X.w X.K X.mg X.base CX k f fd ps sp) (hr:Room k X.A) (hg:Gl X x) (hm:X.mg x = some (.ref f)) (hk:PySem.W.keepIn X.K (.ref f) = true) (hb:Binds X.K fd ps ds) (hd:Vals dvs ds) (hx:Passes CX X E)
    (ha:PA X (e :: es) t) (hdb:(x == ("__debug__":Str)) = false:=by decide) (he:starEach (e :: es) X.env = (false,eval e X.env) :: starEach es X.env:=by rfl) (hpl:(backTo pos (starEach es X.env)).any (·.1) = false:=by rfl) :
    PE X (.Call (.Name x p) (e :: es) [] pos) (tCall sp dvs E t):=by
  intro pins s σ H Q I h
  refine wpAny_Call_Name_kw (ld_glob I hg hm ?_ hdb)
  refine PySem.W.callWith_K (h₀:=X.base) I.ok.mod.kin hk (thn (ha pos pins s σ H _ I h) fun us s1 ⟨vs,H1,I1,r,q⟩ => ⟨I1.kIn,?_⟩) he hpl
  exact run_fn F hr hb hd hx I1 r q
theorem pe_meth {pl:Sem Bool} (he:PE X o ta) (c:Cls X.K C) (hm:Meth X.K C m f) (F:FnOk X.prog X.w X.K X.mg X.base CX k f fd ps sp) (hr:Room k X.A) (hb:Binds X.K fd ps ds) (hd:Vals dvs ds) (hx:Passes CX X E) (ha:PA X (e :: es) t)
    (hst:starEach (e :: es) X.env = (false,eval e X.env) :: starEach es X.env:=by rfl) (hpl:(backTo pos (starEach es X.env)).any (·.1) = false:=by rfl)
    (ht:eval (.Call (.Attribute o m apos) (e :: es) [] pos) X.env = (do
      let ov ← eval o X.env
      standAt apos.atName
      let (f,first) ← holding [ov] (getMethod ov m pl)
      callWith pos f first (backTo pos (starEach (e :: es) X.env)) (backToKw pos (keywordEach [] X.env))):=by rfl) :
    PE X (.Call (.Attribute o m apos) (e :: es) [] pos) (tMeth C m sp dvs E ta t):=by
  intro pins s σ H Q I h
  refine PySem.W.methodCall_KW (pl:=pl) (thn (he pins s σ H _ I h) fun u s1 ⟨x,H1,I1,rx,a,dx,fs,ex,ea,l,q⟩ => ?_) ht
  subst ex
  obtain rfl:u = Value.ref a:=rx
  refine getmeth_ok I1 ea c hm l ?_
  refine PySem.W.callWith_K (first:=[.ref a]) (h₀:=X.base) I.ok.mod.kin hm.kp (thn (ha pos pins s1 σ H1 _ I1 q) fun us s2 ⟨vs,H2,I2,r,q2⟩ => ⟨I2.kIn,?_⟩) hst hpl
  exact run_fn (us:=.ref a :: us) (vs:=.ref a :: vs) F hr hb hd hx I2 (.cons rfl r) q2
theorem pe_meth0 {pl:Sem Bool} (he:PE X o ta) (c:Cls X.K C) (hm:Meth X.K C m f) (F:FnOk X.prog X.w X.K X.mg X.base CX k f fd ps sp) (hr:Room k X.A) (hb:Binds X.K fd ps ds) (hd:Vals dvs ds) (hx:Passes CX X E)
    (ht:eval (.Call (.Attribute o m apos) [] [] pos) X.env = (do
      let ov ← eval o X.env
      standAt apos.atName
      let (f,first) ← holding [ov] (getMethod ov m pl)
      callWith pos f first (backTo pos (starEach [] X.env)) (backToKw pos (keywordEach [] X.env))):=by rfl) :
    PE X (.Call (.Attribute o m apos) [] [] pos) (tMeth C m sp dvs E ta tNil):=by
  intro pins s σ H Q I h
  refine PySem.W.methodCall_KW (pl:=pl) (thn (he pins s σ H _ I h) fun u s1 ⟨x,H1,I1,rx,a,dx,fs,ex,ea,l,q⟩ => ?_) ht
  subst ex
  obtain rfl:u = Value.ref a:=rx
  refine getmeth_ok I1 ea c hm l ?_
  exact PySem.W.callWith_K0 (first:=[.ref a]) I1.kIn hm.kp (run_fn (us:=[.ref a]) (vs:=[.ref a]) F hr hb hd hx I1 (.cons rfl .nil) q)
structure Mk (K:PySem.W.Frag) (C f:Addr):Prop where
  makes:PySem.W.makesIn K C = true
  init:PySem.W.findIn K (.ref C) "__init__" = some (some (.ref f))
  fn:PySem.W.isFn K (.ref f) = true
  kp:PySem.W.keepIn K (.ref C) = true
theorem run_make {pins:List (Addr × Obj)} {σ:St} {H:Hp} {s:Shared} {Q:VK} {us:List Value} {vs:List V} (M:Mk X.K C f) (F:FnOk X.prog X.w X.K X.mg X.base CX k f fd ps sp) (hr:Room (k + 1) X.A) (hb:Binds X.K fd ps ds) (hd:Vals dvs ds)
    (hx:Passes CX X E) (I:Inv X pins σ H s) (r:Vals vs us)
    (h:∀ x dx,H x = none → H dx = none → dx ≠ x → sp (.ref x :: (vs ++ dvs)) (upd (upd H dx (.own x)) x (.ins C dx [])) (fun v H2 => v = .non ∧ Q (.ref x) H2) E) :
    wpAny (model X.prog X.w) X.A (call (.ref C) us) (EP X pins σ Q) X.xe s:=by
  have hq:=h (s.heap.objs.size + 1) s.heap.objs.size (I.hok.fresh (Nat.le_succ _)) (I.hok.fresh (Nat.le_refl _)) (Nat.ne_of_lt (Nat.lt_succ_self _))
  have I2:=Inv.made (C:=C) I
  have r2:Vals (V.ref (s.heap.objs.size + 1) :: (vs ++ dvs)) (Value.ref (s.heap.objs.size + 1) :: (us ++ ds)):=.cons rfl (r.append hd)
  have hl:(Value.ref (s.heap.objs.size + 1) :: us ++ ds).length = ps.length:=by
    have e:=r2.length
    rw [F.len _ _ _ _ hq] at e
    exact e.symm
  refine wpAny_call (make_map (f:=f) I.kIn M.makes M.init (beq_iff_eq.mp M.fn) (codeAny_mono (F.run _ X.stack _ _ ⟨Value.ref (s.heap.objs.size + 1) :: us,[]⟩ (Value.ref (s.heap.objs.size + 1) :: (us ++ ds)) _ _ E (hr.make C us [])
    (I2.env0.make C us []) (hb _ (Value.ref (s.heap.objs.size + 1) :: us) I2.kIn hl) r2 hq) fun r s' hq' => ?_))
  cases r with
  | error e => exact hx pins σ _ _ e s' I2 hq'
  | ok fl =>
    cases fl with
    | ret u =>
      obtain ⟨v,H',I3,rv,ev,q3⟩:=I2.after hq'
      subst ev
      exact ⟨rv,⟨V.ref (s.heap.objs.size + 1),H',I3,rfl,q3⟩⟩
    | next => exact False.elim hq'
    | brk => exact False.elim hq'
    | cont => exact False.elim hq'
theorem pe_make (M:Mk X.K C f) (F:FnOk X.prog X.w X.K X.mg X.base CX k f fd ps sp) (hr:Room (k + 1) X.A) (hg:Gl X x) (hm:X.mg x = some (.ref C)) (hb:Binds X.K fd ps ds) (hd:Vals dvs ds) (hx:Passes CX X E)
    (ha:PA X (e :: es) t) (hdb:(x == ("__debug__":Str)) = false:=by decide) (he:starEach (e :: es) X.env = (false,eval e X.env) :: starEach es X.env:=by rfl) (hpl:(backTo pos (starEach es X.env)).any (·.1) = false:=by rfl) :
    PE X (.Call (.Name x p) (e :: es) [] pos) (tMake C sp dvs E t):=by
  intro pins s σ H Q I h
  refine wpAny_Call_Name_kw (ld_glob I hg hm ?_ hdb)
  refine PySem.W.callWith_K (h₀:=X.base) I.ok.mod.kin M.kp (thn (ha pos pins s σ H _ I h) fun us s1 ⟨vs,H1,I1,r,q⟩ => ⟨I1.kIn,?_⟩) he hpl
  exact run_make M F hr hb hd hx I1 r q
end
section
variable {X:Cx} {CX:CXT} {k:Nat} {f C:Addr} {fd:FuncData} {ps ks:List Str} {sp:Sp} {E:XK} {x m:Str} {p pos apos kpos:Pos} {e o:Expr} {es:List Expr} {kws:List Keyword} {te ta:TE} {t tk:TA} {nm:Option Str}
variable {g:List Value → List Value → List Value} {gV:List V → List V → List V}
end
structure FnScope (N P:List Str) (sc:Scope):Prop where
  kind:sc.kind = .function
  co:sc.isCoroutine = false
  gen:sc.isGenerator = false
  nd:N.Nodup
  pre:N.take P.length = P
  par:∀ x ∈ P,sc.names.lookup x = some .local ∨ sc.names.lookup x = some .cell
  nofree:∀ y ∈ sc.names,y.2 ≠ .free
theorem bindL_out {kindOf:Str → Option NameKind} {x:Str}:∀ {binds:List (Str × Value)} {m:Str → Option Value},(∀ v,(x,v) ∉ binds) → bindL kindOf binds m x = m x
  | [],_,_ => rfl
  | (n,v) :: r,m,h => by
    unfold bindL
    rw [bindL_out fun w hw => h w (List.mem_cons_of_mem _ hw)]
    split
    · have:x ≠ n:=by rintro rfl; exact h v List.mem_cons_self
      simp [this]
    · rfl
theorem bindC_out {kindOf:Str → Option NameKind} {x:Str}:∀ {binds:List (Str × Value)} {m:Str → Option Value},(∀ v,(x,v) ∉ binds) → bindC kindOf binds m x = m x
  | [],_,_ => rfl
  | (n,v) :: r,m,h => by
    unfold bindC
    rw [bindC_out fun w hw => h w (List.mem_cons_of_mem _ hw)]
    split
    · rfl
    · have:x ≠ n:=by rintro rfl; exact h v List.mem_cons_self
      simp [this]
theorem bindL_get {kindOf:Str → Option NameKind} {x:Str} {v:Value}:∀ {P:List Str} {vs:List Value} {i:Nat} {m:Str → Option Value},P.Nodup → P[i]? = some x → vs[i]? = some v → kindOf x = some .local →
    bindL kindOf (P.zip vs) m x = some v
  | [],_,_,_,_,h,_,_ => by simp at h
  | _ :: _,[],_,_,_,_,h,_ => by simp at h
  | p :: P,w :: vs,0,m,nd,h1,h2,hk => by
    simp at h1 h2; subst h1; subst h2
    show bindL kindOf ((p,w) :: P.zip vs) m p = _
    unfold bindL
    rw [bindL_out fun v hv => (List.nodup_cons.mp nd).1 (List.of_mem_zip hv).1,if_pos hk]
    simp
  | p :: P,w :: vs,i + 1,m,nd,h1,h2,hk => by
    show bindL kindOf ((p,w) :: P.zip vs) m x = _
    unfold bindL
    exact bindL_get (i:=i) (List.nodup_cons.mp nd).2 (by simpa using h1) (by simpa using h2) hk
theorem bindC_get {kindOf:Str → Option NameKind} {x:Str} {v:Value}:∀ {P:List Str} {vs:List Value} {i:Nat} {m:Str → Option Value},P.Nodup → P[i]? = some x → vs[i]? = some v → kindOf x ≠ some .local →
    bindC kindOf (P.zip vs) m x = some v
  | [],_,_,_,_,h,_,_ => by simp at h
  | _ :: _,[],_,_,_,_,h,_ => by simp at h
  | p :: P,w :: vs,0,m,nd,h1,h2,hk => by
    simp at h1 h2; subst h1; subst h2
    show bindC kindOf ((p,w) :: P.zip vs) m p = _
    unfold bindC
    rw [bindC_out fun v hv => (List.nodup_cons.mp nd).1 (List.of_mem_zip hv).1,if_neg hk]
    simp
  | p :: P,w :: vs,i + 1,m,nd,h1,h2,hk => by
    show bindC kindOf ((p,w) :: P.zip vs) m x = _
    unfold bindC
    exact bindC_get (i:=i) (List.nodup_cons.mp nd).2 (by simpa using h1) (by simpa using h2) hk
noncomputable def start (N:List Str) (vs:List V):St:=vs.map some ++ List.replicate (N.length - vs.length) none
noncomputable def cxOf (CX:CXT) (P:Program) (w:World) (K:PySem.W.Frag) (mg:Str → Option Value) (base:Heap) (N:List Str) (qual:Str) (scope:Scope) (f:Addr) (cd:Value) (A:Around) (outer:List Env) (s:Shared) (H:Hp) (E:XK):Cx where
  prog:=P
  w:=w
  K:=K
  mg:=mg
  base:=base
  A:=A.deeper (envOfC qual scope s.heap.objs.size f cd)
  N:=N
  s₀:=s
  H₀:=H
  env:=envOfC qual scope s.heap.objs.size f cd
  outer:=outer
  stack:=envOfC qual scope s.heap.objs.size f cd :: outer
  ex:=[]
  calm:=true
  fn:=fun _ => true
  pn:=[]
  xe:=fun e s' => wpAny (model P w) (A.deeper (envOfC qual scope s.heap.objs.size f cd)) (leaving (envOfC qual scope s.heap.objs.size f cd) e) (fun _ s'' => CX outer H s E e s'') (fun e' s'' => CX outer H s E e' s'') s'
theorem cell_has {sc:Scope} {n:Nat} {x:Str} (h:sc.names.lookup x = some .cell):∃ c,(cellsFrom n sc.names []).lookup x = some c:=by
  have q:=PySem.W.cellsFrom_some sc.names n [] (.inl h)
  exact Option.isSome_iff_exists.mp q
theorem inv_start {CX:CXT} {P:Program} {w:World} {K:PySem.W.Frag} {mg:Str → Option Value} {base:Heap} {N ps:List Str} {qual:Str} {scope:Scope} {f:Addr} {cd:Value} {A:Around} {outer:List Env} {s s1:Shared} {H:Hp} {E:XK} {us:List Value} {vs:List V}
    (S:FnScope N ps scope) (hd:A.handled = none) (e0:Env0 P w K mg base A outer s H) (hl:vs.length = ps.length) (r:Vals vs us)
    (x:InCallC s s.heap.objs.size (bindL (envOfC qual scope s.heap.objs.size f cd).kindOf (ps.zip us) fun _ => none) (cellsFrom (s.heap.objs.size + 1) scope.names []) (bindC (envOfC qual scope s.heap.objs.size f cd).kindOf (ps.zip us) fun _ => none) s1) :
    Inv (cxOf CX P w K mg base N qual scope f cd A outer s H E) [] (start N vs) H s1:=by
  have hpl:ps.length ≤ N.length:=by have:=congrArg List.length S.pre; rw [List.length_take] at this; omega
  obtain ⟨h1,tk,rfl,hk⟩:=x.done
  have noA:∀ b:Addr,b ∉ (cxOf CX P w K mg base N qual scope f cd A outer s H E).ex:=fun b z => absurd (show b ∈ ([]:List Addr) from z) (by simp)
  refine ⟨⟨e0.mod,S.kind,rfl,rfl,Nat.le_refl _,fun y z c h1 h2 => ?_,fun y hy => ?_,fun y c _ h => ?_,fun _ => hd,Around.frames_deeper e0.frames,.inr ⟨rfl,rfl⟩,fun b z => absurd z (noA b),e0.bs,e0.bsz,fun b _ _ => noA b,fun b z => absurd z (noA b),e0.funs,e0.frf⟩,
    rfl,e0.bare,Un.kept hk,⟨_,x.toInCall.ns,fun i y v h1 h2 h3 => ?_⟩,fun y c h => ⟨_,x.cell y c h⟩,e0.hok.fresh (Nat.le_refl _),fun y c h => ?_,fun p hp => absurd (show p ∈ ([]:List (Addr × Obj)) from hp) (by simp),e0.hok.kept hk,?_,fun _ e => by cases (show (none:Option (Str → Option Value)) = some _ from e)⟩
  · exact name_of_addr x.apart (PySem.mem_of_lookup h1) (PySem.mem_of_lookup h2)
  · have hy:scope.names.lookup y = some .cell ∨ scope.names.lookup y = some .free:=hy
    rcases hy with hy | hy
    · exact cell_has hy
    · exact absurd rfl (S.nofree _ (PySem.mem_of_lookup hy))
  · exact Nat.le_of_lt (x.above y c (PySem.mem_of_lookup h))
  · have hi:i < vs.length:=by
      unfold start at h2
      by_cases hi:i < vs.length
      · exact hi
      · rw [List.getElem?_append_right (by simpa using hi)] at h2
        rw [List.getElem?_replicate] at h2
        split at h2 <;> cases h2
    have ha:vs[i]? = some v:=by
      unfold start at h2
      rw [List.getElem?_append_left (by simpa using hi),List.getElem?_map] at h2
      cases e:vs[i]? with
      | none => rw [e] at h2; cases h2
      | some a => rw [e] at h2; cases h2; rfl
    obtain ⟨u,hu,rv⟩:=r.get ha
    have hp:ps[i]? = some y:=by
      rw [← S.pre,List.getElem?_take_of_lt (by omega)]; exact h1
    have ndP:ps.Nodup:=by rw [← S.pre]; exact S.nd.sublist (List.take_sublist _ _)
    refine ⟨u,rv,?_⟩
    rcases S.par y (List.mem_of_getElem? hp) with k | k
    · exact .inl ⟨k,bindL_get ndP hp hu k⟩
    · obtain ⟨c,e⟩:=cell_has (n:=s.heap.objs.size + 1) k
      refine .inr ⟨.inl k,c,e,?_⟩
      have q:=x.cell y c e
      rw [bindC_get ndP hp hu (by show scope.names.lookup y ≠ _; rw [k]; decide)] at q
      exact q
  · exact e0.hok.fresh (Nat.le_of_lt (x.above y c (PySem.mem_of_lookup h)))
  · unfold start
    show _ = N.length
    rw [List.length_append,List.length_map,List.length_replicate]
    omega
theorem fn_of {CX:CXT} {P:Program} {w:World} {K:PySem.W.Frag} {mg:Str → Option Value} {base:Heap} {k:Nat} {f:Addr} {name qual:Str} {params:Arguments} {body:List Stmt} {scope:Scope} {dV kV doc pm cdv ct oc:Value} {an od:Option Addr}
    {osl:Array (Option Value)} {N ps:List Str} {sp:Sp} (lk:K.lookup f = some ⟨oc,od,.func (PySem.W.fnOf name qual params body scope dV kV doc pm an cdv ct),osl⟩) (hcd:PySem.W.codeIn K cdv qual = true) (S:FnScope N ps scope)
    (len:∀ vs H Q E,sp vs H Q E → vs.length = ps.length)
    (hbody:∀ (A:Around) (outer:List Env) (s:Shared) (H:Hp) (vs:List V) (Q:VK) (E:XK),Room k (A.deeper (envOfC qual scope s.heap.objs.size f cdv)) → sp vs H Q E →
      ∃ t,PSs (cxOf CX P w K mg base N qual scope f cdv A outer s H E) body t ∧ t { nx:=fun _ H' => Q .non H',rt:=Q } (start N vs) H) :
    FnOk P w K mg base CX (k + 1) f (PySem.W.fnOf name qual params body scope dV kV doc pm an cdv ct) ps sp:=by
  refine ⟨len,fun A outer s H args us vs Q E hr e0 hb r hsp => ?_⟩
  have hl:=len _ _ _ _ hsp
  have KX:K.In s.heap:=e0.mod.kin.keeps fun b o e => (e0.bs b o e).1
  have lim:s.heap.NoLimit:=e0.mod.nolimit.keeps fun b o e => (e0.bs b o e).1
  have hkind:∀ y ∈ ps.zip us,scope.names.lookup y.1 = some .local ∨ (scope.names.lookup y.1 = some .cell ∧ ((cellsFrom (s.heap.objs.size + 1) scope.names []).lookup y.1).isSome = true):=fun ⟨n,v⟩ hy => by
    rcases S.par n (List.of_mem_zip hy).1 with q | q
    · exact .inl q
    · exact .inr ⟨q,PySem.W.cellsFrom_some _ _ _ (.inl q)⟩
  refine codeAny_call_function hr.depth (KX _ _ lk) rfl S.co S.gen rfl (PySem.W.codeRec_of KX hcd) (hb _ _ _ _ ?_)
  refine wpAny_newFunctionEnv_cells S.kind hkind fun env he s1 x => ?_
  subst he
  refine ⟨lim.keeps x.toInCall.keep,codeAny_func ?_⟩
  obtain ⟨t,ht,hq⟩:=hbody A outer s H vs Q E (hr.deeper _) hsp
  have I:Inv (cxOf CX P w K mg base N qual scope f cdv A outer s H E) [] (start N vs) H s1:=inv_start S hr.hd e0 hl r x
  refine wpAny_mono (ht [] s1 (start N vs) H _ I hq) (fun fl s' hs => ?_) fun e s' hs => hs
  have fin:∀ {σ':St} {H':Hp} {v:V} {u:Value},Inv (cxOf CX P w K mg base N qual scope f cdv A outer s H E) [] σ' H' s' → RelV v u → Q v H' → CE outer P w H s Q u s' :=
    fun {σ' H' v u} J rv q => ⟨v,H',J.os,J.bare,J.base,J.hok,rv,q⟩
  cases fl with
  | ret u =>
    obtain ⟨v,σ',H',J,rv,q⟩:=hs
    exact fin J rv q
  | next =>
    obtain ⟨σ',H',J,q⟩:=hs
    exact fin (v:=V.non) (u:=Value.none) J rfl q
  | brk =>
    obtain ⟨_,_,_,q⟩:=hs
    exact False.elim q
  | cont =>
    obtain ⟨_,_,_,q⟩:=hs
    exact False.elim q
end L2
namespace L2
open PySem PySem.Spec PyProof.Rows
section
variable {X:Cx} {x:Str} {p pos:Pos} {e:Expr} {es:List Expr} {t:TA} {id T:String} {r:List V → Hp → VK → Prop}
noncomputable def tCB (r:List V → Hp → VK → Prop) (t:TA):TE:=fun σ H Q => t σ H fun vs H1 => r vs H1 Q
theorem pe_callB (hc:CallR X (.builtin id) r) (hg:Gl X x) (hm:X.mg x = none) (hv:bootBuiltins x = some (.builtin id)) (ha:PA X (e :: es) t) (hn:x ≠ "__name__":=by decide) (hdb:(x == ("__debug__":Str)) = false:=by decide)
    (he:starEach (e :: es) X.env = (false,eval e X.env) :: starEach es X.env:=by rfl) (hpl:(backTo pos (starEach es X.env)).any (·.1) = false:=by rfl):PE X (.Call (.Name x p) (e :: es) [] pos) (tCB r t):=by
  intro pins s σ H Q I h
  refine wpAny_Call_Name_kw (ld_blt I hg hm hv ?_ hn hdb)
  exact PyProof.Rows.callWith_builtin1 (thn (ha pos pins s σ H _ I h) fun us s1 ⟨vs,H1,I1,r1,q1⟩ => hc pins s1 σ H1 vs us Q I1 r1 q1) he hpl
theorem pe_callTy (hc:CallR X (.type T) r) (hg:Gl X x) (hm:X.mg x = none) (hv:bootBuiltins x = some (.type T)) (ha:PA X (e :: es) t) (hn:x ≠ "__name__":=by decide) (hdb:(x == ("__debug__":Str)) = false:=by decide)
    (he:starEach (e :: es) X.env = (false,eval e X.env) :: starEach es X.env:=by rfl) (hpl:(backTo pos (starEach es X.env)).any (·.1) = false:=by rfl):PE X (.Call (.Name x p) (e :: es) [] pos) (tCB r t):=by
  intro pins s σ H Q I h
  refine wpAny_Call_Name_kw (ld_blt I hg hm hv ?_ hn hdb)
  exact PyProof.Rows.callWith_type1 (thn (ha pos pins s σ H _ I h) fun us s1 ⟨vs,H1,I1,r1,q1⟩ => hc pins s1 σ H1 vs us Q I1 r1 q1) he hpl
end
end L2
namespace HT
open PySem PyProof.Rows
section
open PySem.SeqAt
open PySem.AutoSeq1 (wpAny_loadPart')
open PySem.MeetsSeq PySem.MeetsSeq2 PySem.MeetsSeq3
end
section
variable {prog:Program} {w:World} {A:Around} {E:Value → Shared → Prop} {s:Shared}
theorem cat_tup {t b:Addr} {vs ws:List Value} {Q:Value → Shared → Prop} (ht:IsTup s.heap t vs.toArray) (hb:IsTup s.heap b ws.toArray) (hv:vs ≠ [])
    (h1:ws = [] → Q (.ref t) s) (h2:ws ≠ [] → Q (.ref s.heap.objs.size) { s with heap:=s.heap.push { cls:=.type "tuple",data:=.seq (vs ++ ws).toArray } })
    (hsz:vs.length + ws.length ≤ sizeLine):wpAny (model prog w) A (binaryOp .Add (.ref t) (.ref b)) Q E s:=by
  obtain ⟨⟨cls,dd,data,sl⟩,ho,hc,n,hd⟩:=id ht
  obtain ⟨⟨cls2,dd2,data2,sl2⟩,ho2,hc2,n2,hd2⟩:=id hb
  simp only at hc hd hc2 hd2
  subst hc hd hc2 hd2
  have e:vs.toArray ++ ws.toArray = (vs ++ ws).toArray:=by simp
  by_cases hw:ws = []
  · exact concat_meets ⟨_,ho,rfl⟩ ⟨_,ho2,rfl⟩ noFill_tuple_add seq_tuple_add PySem.F.slot_tuple_add PySem.F.entry_tuple_add (PySem.F.args_tuple_add_2 _ _)
      (tuple_addW1 t b vs.toArray ws.toArray n n2 dd dd2 sl sl2 (by simpa using hv) (by simp [hw])) ⟨ho,ho2,h1 hw⟩
  · refine concat_meets ⟨_,ho,rfl⟩ ⟨_,ho2,rfl⟩ noFill_tuple_add seq_tuple_add PySem.F.slot_tuple_add PySem.F.entry_tuple_add (PySem.F.args_tuple_add_2 _ _)
      (tuple_addW2 t b vs.toArray ws.toArray n n2 dd dd2 sl sl2 (by simpa using hv) (by simpa using hw) (by rw [List.size_toArray,List.size_toArray]; exact hsz)) ⟨ho,ho2,?_⟩
    rw [e]
    exact h2 hw
noncomputable def sIx (n d:Nat):Option Int → Nat
  | none => d
  | some v => if v < 0 then (v + (n:Int)).toNat else min v.toNat n
theorem sIx_none (n d:Nat):sIx n d none = d:=rfl
theorem sIx_nat (n d k:Nat):sIx n d (some (k:Int)) = min k n:=by
  show (if (k:Int) < 0 then ((k:Int) + (n:Int)).toNat else min (k:Int).toNat n) = min k n
  rw [if_neg (by omega),Int.toNat_natCast]
theorem sIx_le (n d:Nat) (hd:d ≤ n) (o:Option Int):sIx n d o ≤ n:=by
  cases o with
  | none => exact hd
  | some v =>
    show (if v < 0 then (v + (n:Int)).toNat else min v.toNat n) ≤ n
    by_cases hv:v < 0
    · rw [if_pos hv]; omega
    · rw [if_neg hv]; exact Nat.min_le_right _ _
theorem clip_eq (v:Int) (n d:Nat):(if v < 0 then max (v + (n:Int)) 0 else min v (n:Int)) = ((sIx n d (some v):Nat):Int):=by
  show (if v < 0 then max (v + (n:Int)) 0 else min v (n:Int)) = (((if v < 0 then (v + (n:Int)).toNat else min v.toNat n):Nat):Int)
  by_cases hv:v < 0
  · simp only [if_pos hv]; omega
  · simp only [if_neg hv]; omega
theorem adjust_gen (lo hi:Option Int) (n:Nat):Builtin.Slice.sliceAdjust lo hi 1 (n:Int) = (((sIx n 0 lo:Nat):Int),((sIx n n hi:Nat):Int)):=by
  have h1:¬ ((1:Int) < 0):=by omega
  unfold Builtin.Slice.sliceAdjust
  simp only [h1,if_false]
  refine Prod.ext ?_ ?_
  · cases lo with
    | none => rfl
    | some v => exact clip_eq v n 0
  · cases hi with
    | none => rfl
    | some v => exact clip_eq v n n
theorem places_gen (i j:Nat):Builtin.Slice.slicePlaces (i:Int) (j:Int) 1 = j - i:=by
  unfold Builtin.Slice.slicePlaces
  have h1:(1:Int) > 0:=by omega
  simp only [h1,if_true,Int.ediv_one]
  split <;> omega
theorem slicePart_ {v:Value} {o:Option Int} {Q:Option Int → Shared → Prop} (p:IsPart v o) (h:Q o s):wpAny (model prog w) A (Builtin.Slice.slicePartIndex v) Q E s:=by
  cases p with
  | none => exact slicePart_none h
  | int i t => exact slicePart_int h
theorem sliceApplied_gen {sl:Addr} {vl vu:Value} {lo hi:Option Int} {n:Nat} {Q:Int × Int × Nat → Shared → Prop} (hs:s.heap.IsSliceOf sl vl vu .none) (pl:IsPart vl lo) (pu:IsPart vu hi)
    (h:Q (((sIx n 0 lo:Nat):Int),1,sIx n n hi - sIx n 0 lo) s):wpAny (model prog w) A (Builtin.Slice.sliceApplied (.ref sl) (pure (n:Int))) Q E s:=by
  obtain ⟨os,hos,hcs,hds⟩:=id hs
  unfold Builtin.Slice.sliceApplied Builtin.Slice.sliceFields
  refine wpAny_bind (wpAny_bind (wpAny_field hos hds (x:=vl) rfl (wpAny_bind (wpAny_field hos hds (x:=vu) rfl (wpAny_bind (wpAny_field hos hds (x:=.none) rfl (wpAny_pure ?_)))))))
  refine wpAny_bind (slicePart_none ?_)
  show wpAny _ _ (if ((1:Int) == 0) = true then _ else _) _ _ s
  rw [if_neg (by decide)]
  refine wpAny_bind (slicePart_ pl (wpAny_bind (slicePart_ pu (wpAny_bind (wpAny_pure ?_)))))
  show wpAny _ _ (match Builtin.Slice.sliceAdjust lo hi 1 (n:Int) with | (lo,hi) => pure (lo,(1:Int),Builtin.Slice.slicePlaces lo hi 1)) _ _ s
  rw [adjust_gen lo hi n]
  show wpAny _ _ (pure (((sIx n 0 lo:Nat):Int),(1:Int),Builtin.Slice.slicePlaces ((sIx n 0 lo:Nat):Int) ((sIx n n hi:Nat):Int) 1)) _ _ s
  rw [places_gen]
  exact wpAny_pure h
theorem pick_gen (xs:Array Value) (i k:Nat):((List.range k).filterMap fun (m:Nat) => xs[((i:Int) + (m:Int) * 1).toNat]?).toArray = ((xs.toList.drop i).take k).toArray:=by
  have e:(fun (m:Nat) => xs[((i:Int) + (m:Int) * 1).toNat]?) = fun m => xs[i + m]?:=by
    funext m
    have:((i:Int) + (m:Int) * 1).toNat = i + m:=by omega
    rw [this]
  rw [e]
  have:=pick_run xs i k
  rw [List.filterMap_map] at this
  have e2:((fun x => xs[x]?) ∘ fun x => i + x) = fun m => xs[i + m]?:=rfl
  rw [e2] at this
  rw [this]
theorem getItem_tuple_cut {t sl:Addr} {items:Array Value} {vl vu:Value} {lo hi:Option Int} {Q:Value → Shared → Prop} (ht:IsTup s.heap t items) (hs:s.heap.IsSliceOf sl vl vu .none) (pl:IsPart vl lo) (pu:IsPart vu hi)
    (hw:¬ (sIx items.size 0 lo = 0 ∧ sIx items.size items.size hi = items.size))
    (h:Q (.ref s.heap.objs.size) { s with heap:=s.heap.push { cls:=.type "tuple",data:=.seq ((items.toList.drop (sIx items.size 0 lo)).take (sIx items.size items.size hi - sIx items.size 0 lo)).toArray } })
    (hsz:items.size ≤ sizeLine):wpAny (model prog w) A (getItem (.ref t) (.ref sl)) Q E s:=by
  have htake:sizeOk (.seq ((items.toList.drop (sIx items.size 0 lo)).take (sIx items.size items.size hi - sIx items.size 0 lo)).toArray):=by
    show ((items.toList.drop (sIx items.size 0 lo)).take (sIx items.size items.size hi - sIx items.size 0 lo)).toArray.size ≤ sizeLine
    rw [List.size_toArray,List.length_take,List.length_drop,Array.length_toList]
    omega
  have hj:sIx items.size items.size hi ≤ items.size:=sIx_le _ _ (Nat.le_refl _) hi
  obtain ⟨os,hos,hcs,hds⟩:=id hs
  have hTs:s.TypeIs (.ref sl) "slice":=⟨os,hos,hcs⟩
  unfold getItem
  try with_reducible refine wpAny_holding ?_
  first | refine wpAny_bind (wpAny_pure ?_) | skip
  refine wpAny_bind (wpAny_sequenceKey ht.typeIs (by decide) ?_)
  refine wpAny_bind (wpAny_callSpecial?_slot (name:=Str.ofString "__getitem__") ht.typeIs PyProof.Rows.slot_tuple_getitem
    (wpAny_call_entry PyProof.Rows.slot_tuple_getitem ht.typeIs entry_tuple_getitem ?_ (args_tuple_getitem _ _)))
  show wpAny _ _ (Builtin.Tuple.tupleItemsOf (.ref t) >>= _) _ _ s
  refine wpAny_bind (tupleItemsOf_ ht ?_)
  refine wpAny_bind (wpAny_typeOf hTs ?_)
  rw [if_pos (by decide)]
  refine wpAny_bind (sliceApplied_gen hs pl pu ?_)
  have hno:¬ ((((sIx items.size 0 lo:Nat):Int) == 0 && (1:Int) == 1 && (sIx items.size items.size hi - sIx items.size 0 lo) == items.size) = true):=by
    intro q
    rw [Bool.and_eq_true,Bool.and_eq_true] at q
    have q1:((sIx items.size 0 lo:Nat):Int) = 0:=eq_of_beq q.1.1
    have q2:sIx items.size items.size hi - sIx items.size 0 lo = items.size:=eq_of_beq q.2
    exact hw ⟨by omega,by omega⟩
  show wpAny _ _ (if (((sIx items.size 0 lo:Nat):Int) == 0 && (1:Int) == 1 && (sIx items.size items.size hi - sIx items.size 0 lo) == items.size) = true then _ else _) _ _ s
  rw [if_neg hno,pick_gen]
  first
    | exact wpAny_bind (m:=Builtin.Tuple.tupleExact _) (wpAny_newObj_type (wpAny_pure ⟨_,rfl,wpAny_pure h⟩) htake)
    | exact wpAny_bind (m:=Builtin.Tuple.tupleExact _) (wpAny_newObj_type (wpAny_bind (wpAny_pure (wpAny_pure ⟨_,rfl,wpAny_pure h⟩))) htake)
    | exact wpAny_bind (wpAny_bind (m:=Builtin.Tuple.tupleExact _) (wpAny_newObj_type (wpAny_pure (wpAny_pure ⟨_,rfl,wpAny_pure h⟩)) htake))
    | exact wpAny_bind (wpAny_bind (m:=Builtin.Tuple.tupleExact _) (wpAny_newObj_type (wpAny_pure ⟨_,rfl,wpAny_pure h⟩) htake))
end
end HT
namespace L2
open PySem PySem.Spec PyProof.Rows
noncomputable abbrev TO:=St → Hp → (Option Int → Hp → Prop) → Prop
noncomputable def PO (X:Cx) (e:Option Expr) (t:TO):Prop :=
  ∀ (pins:List (Addr × Obj)) (s:Shared) (σ:St) (H:Hp) (Q:Option Int → Hp → Prop),Inv X pins σ H s → t σ H Q →
    wpAny (model X.prog X.w) X.A (evalPart e X.env) (fun u s' => ∃ o H',Inv X pins σ H' s' ∧ IsPart u o ∧ Q o H') X.xe s
noncomputable def tNoPart:TO:=fun _ H Q => Q none H
noncomputable def tPart (t:TE):TO:=fun σ H Q => t σ H fun x H1 => ∃ i,x = .int i ∧ Q (some i) H1
section
variable {X:Cx} {e:Expr} {te:TE} {lo hi:Option Expr} {tl th:TO} {pos p2:Pos}
theorem po_none:PO X none tNoPart:=by
  intro pins s σ H Q I h
  rw [evalPart_none]
  exact wpAny_pure ⟨none,H,I,.none,h⟩
theorem po_some (h:PE X e te):PO X (some e) (tPart te):=by
  intro pins s σ H Q I hw
  rw [evalPart_some]
  refine thn (h pins s σ H _ I hw) fun u s1 ⟨x,H1,I1,r1,q1⟩ => ?_
  obtain ⟨i,rfl,q⟩:=q1
  obtain ⟨t,rfl⟩:=r1
  exact ⟨some i,H1,I1,.int i t,q⟩
noncomputable def SlR (X:Cx) (r:V → Option Int → Option Int → Hp → VK → Prop):Prop :=
  ∀ (pins:List (Addr × Obj)) (s:Shared) (σ:St) (H:Hp) (x:V) (v vl vu:Value) (lo hi:Option Int) (sl:Addr) (Q:VK),Inv X pins σ H s → RelV x v → s.heap.IsSliceOf sl vl vu .none → IsPart vl lo → IsPart vu hi → r x lo hi H Q →
    ∃ T id,typeLookup (.type T) "__getitem__" = pure (some (.builtin id)) ∧ s.TypeIs v T ∧ wpAny (model X.prog X.w) X.A (getItem v (.ref sl)) (EP X pins σ Q) X.xe s
theorem SlR.or {r r':V → Option Int → Option Int → Hp → VK → Prop} (h:SlR X r) (h':SlR X r'):SlR X (fun x lo hi H Q => r x lo hi H Q ∨ r' x lo hi H Q):=by
  intro pins s σ H x v vl vu lo hi sl Q I rx hs pl pu q
  rcases q with q | q
  · exact h pins s σ H x v vl vu lo hi sl Q I rx hs pl pu q
  · exact h' pins s σ H x v vl vu lo hi sl Q I rx hs pl pu q
noncomputable def tSl (r:V → Option Int → Option Int → Hp → VK → Prop) (te:TE) (tl th:TO):TE:=fun σ H Q => te σ H fun x H1 => tl σ H1 fun l H2 => th σ H2 fun u H3 => r x l u H3 Q
theorem pe_slice {r:V → Option Int → Option Int → Hp → VK → Prop} (hr:SlR X r) (he:PE X e te) (hl:PO X lo tl) (hu:PO X hi th):PE X (.Subscript e (.Slice lo hi none p2) pos) (tSl r te tl th):=by
  intro pins s σ H Q I h
  refine Subscript_ (thn (he pins s σ H _ I h) fun v s1 ⟨x,H1,I1,r1,q1⟩ => ?_)
  refine wpAny_Slice (thn (hl pins s1 σ H1 _ I1 q1) fun vl s2 ⟨l,H2,I2,pl,q2⟩ => thn (hu pins s2 σ H2 _ I2 q2) fun vu s3 ⟨u,H3,I3,pu,q3⟩ => ?_)
  rw [evalPart_none]
  refine wpAny_pure ?_
  have I4:Inv X pins σ H3 { s3 with heap:=s3.heap.push { cls:=.type "slice",data:=.fields #[vl,vu,.none] } }:=I3.kept (t':=s3.toks) fun b ob q => Heap.get?_push_of_some _ q
  obtain ⟨T,id,hT,ht,hg⟩:=hr pins { s3 with heap:=s3.heap.push { cls:=.type "slice",data:=.fields #[vl,vu,.none] } } σ H3 x v vl vu l u s3.heap.objs.size Q I4 r1 (Heap.IsSliceOf.new ..) pl pu q3
  show wpAny (model X.prog X.w) X.A (subscriptTail e (.Slice lo hi none p2) v (.ref s3.heap.objs.size)) (EP X pins σ Q) X.xe { s3 with heap:=s3.heap.push { cls:=.type "slice",data:=.fields #[vl,vu,.none] } }
  exact tail_any (ops:=[.ref s3.heap.objs.size,v]) ht hT hg (by with_unfolding_all rfl)
noncomputable def cutV (xs:List V) (lo hi:Option Int):List V:=(xs.drop (HT.sIx xs.length 0 lo)).take (HT.sIx xs.length xs.length hi - HT.sIx xs.length 0 lo)
theorem cutV_length (xs:List V) (lo hi:Option Int):(cutV xs lo hi).length ≤ xs.length:=by
  unfold cutV
  rw [List.length_take,List.length_drop]
  omega
noncomputable def rSlT (K:PySem.W.Frag):V → Option Int → Option Int → Hp → VK → Prop:=fun x lo hi H Q => ∃ a xs,x = .ref a ∧ SqT K H a xs ∧
  ¬ (HT.sIx xs.length 0 lo = 0 ∧ HT.sIx xs.length xs.length hi = xs.length) ∧ ∀ p,H p = none → Q (.ref p) (upd H p (.tup (cutV xs lo hi)))
theorem sl_tup:SlR X (rSlT X.K):=by
  intro pins s σ H x v vl vu lo hi sl Q I rx hs pl pu h
  obtain ⟨a,xs,rfl,hx,hw,q⟩:=h
  cases rx
  obtain ⟨its,r,ht,hz⟩:=I.tuple hx
  have hlen:its.toArray.size = xs.length:=by rw [List.size_toArray]; exact r.length.symm
  refine ⟨"tuple",_,PyProof.Rows.slot_tuple_getitem.lookup,ht.typeIs,?_⟩
  refine HT.getItem_tuple_cut ht hs pl pu (by rw [hlen]; exact hw) ?_ (by rw [hlen]; exact hz)
  rw [hlen]
  refine ⟨.ref s.heap.objs.size,_,I.laid (t':=s.toks) (o:=.tup (cutV xs lo hi)) (fun b ob q => Heap.get?_push_of_some _ q) (Nat.le_refl _) ?_,rfl,q _ (I.hok.fresh (Nat.le_refl _))⟩
  exact ⟨Nat.le_trans (cutV_length xs lo hi) hz,_,(r.drop (HT.sIx xs.length 0 lo)).take (HT.sIx xs.length xs.length hi - HT.sIx xs.length 0 lo),IsTup.new _ _⟩
noncomputable def rCatT (K:PySem.W.Frag):R2:=fun x y H Q => ∃ a b xs ys,x = .ref a ∧ y = .ref b ∧ SqT K H a xs ∧ SqT K H b ys ∧ xs ≠ [] ∧ xs.length + ys.length ≤ sizeLine ∧
  (ys = [] → Q (.ref a) H) ∧ (ys ≠ [] → ∀ p,H p = none → Q (.ref p) (upd H p (.tup (xs ++ ys))))
theorem Vals.nil_iff {xs:List V} {us:List Value} (r:Vals xs us):us = [] ↔ xs = []:=by
  cases r with
  | nil => simp
  | cons _ _ => simp
theorem op_catT:OpR X (binaryOp .Add) (rCatT X.K):=by
  intro pins s σ H x y v u Q I rx ry h
  obtain ⟨a,b,xs,ys,rfl,rfl,ha,hb,hx,hz,q1,q2⟩:=h
  cases rx
  cases ry
  obtain ⟨its,r1,p1,_⟩:=I.tuple ha
  obtain ⟨its2,r2,p2,_⟩:=I.tuple hb
  refine HT.cat_tup p1 p2 (fun z => hx (r1.nil_iff.mp z)) (fun z => ⟨.ref a,H,I,rfl,q1 (r2.nil_iff.mp z)⟩) (fun z => ?_) (by rw [← r1.length,← r2.length]; exact hz)
  refine ⟨.ref s.heap.objs.size,_,I.laid (t':=s.toks) (o:=.tup (xs ++ ys)) (fun b ob q => Heap.get?_push_of_some _ q) (Nat.le_refl _) ?_,rfl,q2 (fun w => z (r2.nil_iff.mpr w)) _ (I.hok.fresh (Nat.le_refl _))⟩
  exact ⟨by rw [List.length_append]; exact hz,_,r1.append r2,IsTup.new _ _⟩
end
end L2
namespace L2
open PySem PySem.Spec PyProof.Rows
noncomputable def ixN (n:Nat) (i:Int):Option Nat:=if 0 ≤ i then (if i < n then some i.toNat else none) else if -(n:Int) ≤ i then some (i + n).toNat else none
noncomputable def atI {α:Type} (xs:List α) (i:Int):Option α:=(ixN xs.length i).bind fun j => xs[j]?
theorem ixN_seq {n:Nat} {i:Int} {j:Nat} (h:ixN n i = some j):seqIndex? i n = some j ∧ j < n ∧ -(n:Int) ≤ i ∧ i < n:=by
  unfold ixN at h
  by_cases h0:0 ≤ i
  · rw [if_pos h0] at h
    by_cases h1:i < n
    · rw [if_pos h1] at h
      have e:i.toNat = j:=Option.some.inj h
      exact ⟨by rw [seqIndex_of h0 h1,e],by omega,by omega,h1⟩
    · rw [if_neg h1] at h; cases h
  · rw [if_neg h0] at h
    by_cases h1:-(n:Int) ≤ i
    · rw [if_pos h1] at h
      have e:(i + n).toNat = j:=Option.some.inj h
      exact ⟨by rw [seqIndex_neg (by omega) h1,e],by omega,h1,by omega⟩
    · rw [if_neg h1] at h; cases h
theorem atI_get {α:Type} {xs:List α} {i:Int} {v:α} (h:atI xs i = some v):∃ j,seqIndex? i xs.length = some j ∧ xs[j]? = some v ∧ j < xs.length ∧ -(xs.length:Int) ≤ i ∧ i < xs.length:=by
  unfold atI at h
  cases e:ixN xs.length i with
  | none => rw [e] at h; cases h
  | some j =>
    rw [e] at h
    obtain ⟨h1,h2,h3,h4⟩:=ixN_seq e
    exact ⟨j,h1,h,h2,h3,h4⟩
noncomputable def PlainIx (b:Expr):Prop:=∀ o i,subscripted b false o i = operate [o,i] (getItem o i)
noncomputable def IxR (X:Cx) (r:R2):Prop :=
  ∀ (value slice:Expr) (pins:List (Addr × Obj)) (s:Shared) (σ:St) (H:Hp) (x y:V) (v u:Value) (Q:VK),Inv X pins σ H s → RelV x v → RelV y u → r x y H Q →
    subscripted slice false v u = operate [v,u] (getItem v u) → wpAny (model X.prog X.w) X.A (subscriptTail value slice v u) (EP X pins σ Q) X.xe s
noncomputable def MtR (X:Cx) (id:String) (r:V → List V → Hp → VK → Prop):Prop :=
  ∀ (pins:List (Addr × Obj)) (s:Shared) (σ:St) (H:Hp) (x:V) (xs:List V) (v:Value) (us:List Value) (Q:VK),Inv X pins σ H s → RelV x v → Vals xs us → r x xs H Q →
    wpAny (model X.prog X.w) X.A (call (.builtin id) (v :: us)) (EP X pins σ Q) X.xe s
section
variable {X:Cx} {a b:Expr} {ta tb:TE} {pos:Pos}
theorem IxR.or {r r':R2} (h:IxR X r) (h':IxR X r'):IxR X (fun x y H Q => r x y H Q ∨ r' x y H Q):=by
  intro value slice pins s σ H x y v u Q I rx ry q hs
  rcases q with q | q
  · exact h value slice pins s σ H x y v u Q I rx ry q hs
  · exact h' value slice pins s σ H x y v u Q I rx ry q hs
theorem pe_ix {r:R2} (hr:IxR X r) (ha:PE X a ta) (hb:PE X b tb) (hs:PlainIx b):PE X (.Subscript a b pos) (tOp r ta tb):=by
  intro pins s σ H Q I h
  exact Subscript_ (binT ha hb I h fun v u s2 x y H2 I2 rx ry q => hr a b pins s2 σ H2 x y v u Q I2 rx ry q (hs _ _))
noncomputable def rIxL (K:PySem.W.Frag):R2:=fun x y H Q => ∃ p xs i v,x = .ref p ∧ y = .int i ∧ SqL K H p xs ∧ atI xs i = some v ∧ Q v H
noncomputable def rIxT (K:PySem.W.Frag):R2:=fun x y H Q => ∃ p xs i v,x = .ref p ∧ y = .int i ∧ SqT K H p xs ∧ atI xs i = some v ∧ Q v H
noncomputable def rIxS:R2:=fun x y H Q => ∃ z i c,x = .str z ∧ y = .int i ∧ z.length ≤ sizeLine ∧ atI z.cps.toList i = some c ∧ Q (.str ⟨#[c]⟩) H
theorem ix_list:IxR X (rIxL X.K):=by
  intro value slice pins s σ H x y v u Q I rx ry h hs
  obtain ⟨p,xs,i,z,rfl,rfl,hq,he,q⟩:=h
  cases rx
  obtain ⟨t,rfl⟩:=ry
  obtain ⟨its,r,pl,hz⟩:=I.list hq
  obtain ⟨j,h1,h2,h3,h4,h5⟩:=atI_get he
  obtain ⟨w,ew,rw'⟩:=r.get h2
  have hl:=r.length
  have hn:=line63
  have fin:EP X pins σ Q w s:=⟨z,H,I,rw',q⟩
  by_cases h0:0 ≤ i
  · have hj:i.toNat = j:=by
      rw [seqIndex_of h0 h5] at h1
      exact Option.some.inj h1
    exact item_listR pl.isList h0 (by omega) (by rw [hj]; simpa using ew) fin hs
  · have hj:(i + (its.toArray.size:Int)).toNat = j:=by
      rw [seqIndex_neg (by omega) h4] at h1
      rw [List.size_toArray,← hl]
      exact Option.some.inj h1
    exact subscriptTail_builtinR (x:=w) pl.isList.typeIs slot_list_getitem.lookup
      (wpAny_getItem_list_neg (Q:=fun r s' => r = w ∧ EP X pins σ Q r s') pl.isList (by omega) (by rw [List.size_toArray] <;> omega) (by omega) (by rw [hj]; simpa using ew) ⟨rfl,fin⟩) hs
theorem ix_tup:IxR X (rIxT X.K):=by
  intro value slice pins s σ H x y v u Q I rx ry h hs
  obtain ⟨p,xs,i,z,rfl,rfl,hq,he,q⟩:=h
  cases rx
  obtain ⟨t,rfl⟩:=ry
  obtain ⟨its,r,pl,hz⟩:=I.tuple hq
  obtain ⟨j,h1,h2,h3,h4,h5⟩:=atI_get he
  obtain ⟨w,ew,rw'⟩:=r.get h2
  have hl:=r.length
  have hn:=line63
  have fin:EP X pins σ Q w s:=⟨z,H,I,rw',q⟩
  exact subscriptTail_builtinR (x:=w) pl.typeIs slot_tuple_getitem.lookup
    (getItem_tuple (j:=j) (Q:=fun r s' => r = w ∧ EP X pins σ Q r s') pl (by omega) (by omega) (by rw [List.size_toArray,← hl]; exact h1) (by simpa using ew) ⟨rfl,fin⟩) hs
theorem ix_str:IxR X rIxS:=by
  intro value slice pins s σ H x y v u Q I rx ry h hs
  obtain ⟨z,i,c,rfl,rfl,hz,he,q⟩:=h
  obtain ⟨t,rfl⟩:=rx
  obtain ⟨t',rfl⟩:=ry
  obtain ⟨j,h1,h2,h3,h4,h5⟩:=atI_get he
  have hl:z.cps.toList.length = z.length:=by simp [Str.length]
  rw [hl] at h1 h4 h5
  have hn:=line63
  exact tail_any (typeIs_str s z t) slot_str_getitem.lookup (getItem_str (c:=c) (by
    have e1:decide (i < -(2 ^ 63:Int)) = false:=decide_eq_false (by omega)
    have e2:decide (i ≥ 2 ^ 63) = false:=decide_eq_false (by omega)
    rw [e1,e2,Bool.or_false]) (by rw [h1]; simpa using h2) ⟨.str ⟨#[c]⟩,H,I.tok _,⟨_,rfl⟩,q⟩) hs
noncomputable def rIx (K:PySem.W.Frag):R2:=fun x y H Q => rIxL K x y H Q ∨ rIxT K x y H Q ∨ rIxS x y H Q
theorem ix_seq:IxR X (rIx X.K):=ix_list.or (ix_tup.or ix_str)
theorem slice_bounds (lo hi:Option Int) (n:Nat):(sliceBounds lo hi none n).1 = ((HT.sIx n 0 lo:Nat):Int) ∧ (sliceBounds lo hi none n).2.1 = ((HT.sIx n n hi:Nat):Int) ∧ (sliceBounds lo hi none n).2.2 = 1:=by
  refine ⟨?_,?_,rfl⟩
  · cases lo with
    | none => simp [sliceBounds,HT.sIx]
    | some i =>
      simp only [sliceBounds,HT.sIx,Option.getD_none,show (1:Int) > 0 by decide,if_true]
      by_cases h:i < 0
      · simp only [h,if_true] <;> omega
      · simp only [h,if_false] <;> omega
  · cases hi with
    | none => simp [sliceBounds,HT.sIx]
    | some i =>
      simp only [sliceBounds,HT.sIx,Option.getD_none,show (1:Int) > 0 by decide,if_true]
      by_cases h:i < 0
      · simp only [h,if_true] <;> omega
      · simp only [h,if_false] <;> omega
theorem slicePick_cut (its:List Value) (lo hi:Option Int):slicePick its.toArray lo hi none = ((its.drop (HT.sIx its.length 0 lo)).take (HT.sIx its.length its.length hi - HT.sIx its.length 0 lo)).toArray:=by
  obtain ⟨h1,h2,h3⟩:=slice_bounds lo hi its.toArray.size
  unfold slicePick
  rw [h1,h2,h3]
  simp only [sliceRange_one,pick_run,List.size_toArray] <;> rfl
noncomputable def rSlL (K:PySem.W.Frag):V → Option Int → Option Int → Hp → VK → Prop:=fun x lo hi H Q => ∃ a xs,x = .ref a ∧ SqL K H a xs ∧ ∀ p,H p = none → Q (.ref p) (upd H p (.lst (cutV xs lo hi)))
theorem sl_list:SlR X (rSlL X.K):=by
  intro pins s σ H x v vl vu lo hi sl Q I rx hs pl pu h
  obtain ⟨a,xs,rfl,hx,q⟩:=h
  cases rx
  obtain ⟨its,r,ht,hz⟩:=I.list hx
  have hlen:=r.length
  refine ⟨"list",_,slot_list_getitem.lookup,ht.isList.typeIs,?_⟩
  refine wpAny_getItem_list_slice ht.isList hs pl pu .none (by simp) ?_ (by rw [List.size_toArray] <;> omega)
  rw [slicePick_cut,← hlen]
  refine ⟨.ref s.heap.objs.size,_,I.laid (t':=s.toks) (o:=.lst (cutV xs lo hi)) (fun b ob q => Heap.get?_push_of_some _ q) (Nat.le_refl _) ?_,rfl,q _ (I.hok.fresh (Nat.le_refl _))⟩
  exact ⟨Nat.le_trans (cutV_length xs lo hi) hz,_,0,(r.drop (HT.sIx xs.length 0 lo)).take (HT.sIx xs.length xs.length hi - HT.sIx xs.length 0 lo),Heap.get?_push_size _ rfl⟩
noncomputable def tyV (K:PySem.W.Frag) (T:String) (x:V) (H:Hp):Prop:=match x with
  | .str _ => T = "str"
  | .int _ => T = "int"
  | .ref p => (T = "list" ∧ ∃ xs,SqL K H p xs) ∨ (T = "tuple" ∧ ∃ o,K.lookup p = some o ∧ o.cls = .type "tuple" ∧ o.dict = none) ∨
      (T = "dict" ∧ ((∃ kvs,H p = some (.dK kvs)) ∨ ∃ kvs,H p = some (.dT kvs))) ∨ (T = "set" ∧ ∃ S n,H p = some (.set S n))
  | _ => False
theorem tyV_is {pins:List (Addr × Obj)} {σ:St} {H:Hp} {s:Shared} {T:String} {x:V} {v:Value} (I:Inv X pins σ H s) (r:RelV x v) (ty:tyV X.K T x H) :
    s.TypeIs v T ∧ ∀ a,v = .ref a → ∃ ob,s.heap.get? a = some ob ∧ ob.dict = none:=by
  cases x with
  | str z =>
    obtain ⟨t,rfl⟩:=r
    cases (show T = "str" from ty)
    exact ⟨typeIs_str s z t,fun _ e => nomatch e⟩
  | int i =>
    obtain ⟨t,rfl⟩:=r
    cases (show T = "int" from ty)
    exact ⟨typeIs_int s i t,fun _ e => nomatch e⟩
  | ref p =>
    cases r
    rcases ty with ⟨rfl,xs,hq⟩ | ⟨rfl,o,hk,hc,hd⟩ | ⟨rfl,hk⟩ | ⟨rfl,S,n,hk⟩
    · obtain ⟨its,_,pl,_⟩:=I.list hq
      refine ⟨pl.isList.typeIs,fun a e => ?_⟩
      cases e
      obtain ⟨o,n,e,c,hd,_⟩:=pl
      exact ⟨o,e,hd⟩
    · refine ⟨⟨o,I.kIn p o hk,hc⟩,fun a e => ?_⟩
      cases e
      exact ⟨o,I.kIn _ o hk,hd⟩
    · have z:∃ o,s.heap.get? p = some o ∧ o.ExactDict:=by
        rcases hk with ⟨kvs,hk⟩ | ⟨kvs,hk⟩
        · obtain ⟨_,_,_,_,o,_,_,e,ex,_⟩:=I.hok p _ hk
          exact ⟨o,e,ex⟩
        · obtain ⟨_,_,_,_,o,_,_,e,ex,_⟩:=I.hok p _ hk
          exact ⟨o,e,ex⟩
      obtain ⟨o,e,ex⟩:=z
      refine ⟨⟨o,e,ex.1⟩,fun a e2 => ?_⟩
      cases e2
      exact ⟨o,e,ex.2.1⟩
    · obtain ⟨o,_,_,_,e,ex,_⟩:=I.hok p _ hk
      refine ⟨⟨o,e,ex.1⟩,fun a e2 => ?_⟩
      cases e2
      exact ⟨o,e,ex.2.1⟩
  | _ => exact False.elim ty
noncomputable def tBM0 (K:PySem.W.Frag) (T:String) (r:V → List V → Hp → VK → Prop) (to:TE):TE:=fun σ H Q => to σ H fun x H1 => tyV K T x H1 ∧ r x [] H1 Q
noncomputable def tBM (K:PySem.W.Frag) (T:String) (r:V → List V → Hp → VK → Prop) (to:TE) (t:TA):TE:=fun σ H Q => to σ H fun x H1 => tyV K T x H1 ∧ t σ H1 fun xs H2 => r x xs H2 Q
variable {o e:Expr} {es:List Expr} {to:TE} {t:TA} {name:Str} {apos cpos:Pos} {T id:String} {r:V → List V → Hp → VK → Prop}
theorem pe_bm0 (pa:PlainAttrs T) (slot:Slot T name id) (hty:typeOf (.builtin id) = pure (.type "method_descriptor")) (hm:MtR X id r) (ho:PE X o to)
    (hbase:attributeBase o name X.env (eval o X.env) = eval o X.env:=by rfl) (hline:(apos.endLine == cpos.line) = true:=by rfl):PE X (.Call (.Attribute o name apos) [] [] cpos) (tBM0 X.K T r to):=by
  intro pins s σ H Q I h
  refine wpAny_Call_method0_late hbase hline (thn (ho pins s σ H _ I h) fun v s1 ⟨x,H1,I1,r1,ty,q1⟩ => ?_)
  obtain ⟨h1,h2⟩:=tyV_is I1 r1 ty
  exact ⟨T,id,pa,slot,hty,h1,h2,Calls.callWith_builtin rfl (PySem.evalArgs_none (hm pins s1 σ H1 x [] v [] Q I1 r1 .nil q1))⟩
theorem pe_bm (pa:PlainAttrs T) (slot:Slot T name id) (hty:typeOf (.builtin id) = pure (.type "method_descriptor")) (hm:MtR X id r) (ho:PE X o to) (ha:PA X (e :: es) t)
    (hbase:attributeBase o name X.env (eval o X.env) = eval o X.env:=by rfl)
    (hfew:((backTo cpos (starEach (e :: es) X.env)).all (fun x => !x.1) && (backToKw cpos (keywordEach [] X.env)).all (fun x => x.1.isSome)
      && decide ((e :: es).length + ([]:List Keyword).length + (if ([]:List Keyword).isEmpty then 0 else 1) < 30)) = true:=by rfl)
    (hline:(apos.endLine == cpos.line) = true:=by rfl) (hs:starEach (e :: es) X.env = (false,eval e X.env) :: starEach es X.env:=by rfl) (hplain:(backTo cpos (starEach es X.env)).any (·.1) = false:=by rfl) :
    PE X (.Call (.Attribute o name apos) (e :: es) [] cpos) (tBM X.K T r to t):=by
  intro pins s σ H Q I h
  refine wpAny_Call_method_late hbase hfew hline rfl (thn (ho pins s σ H _ I h) fun v s1 ⟨x,H1,I1,r1,ty,q1⟩ => ?_)
  obtain ⟨h1,h2⟩:=tyV_is I1 r1 ty
  refine ⟨T,id,pa,slot,hty,h1,h2,?_⟩
  have hA:=ha cpos pins s1 σ H1 _ I1 q1
  rw [hs] at hA ⊢
  refine Calls.callWith_builtin (by show (false || (backTo cpos (starEach es X.env)).any (·.1)) = false; rw [hplain] <;> rfl) (Calls.evalArgs_plain ?_)
  exact thn hA fun us s2 ⟨vs,H2,I2,r2,q2⟩ => hm pins s2 σ H2 x vs v us Q I2 r1 r2 q2
end
end L2
namespace L2
open PySem PySem.Spec PyProof.Rows
noncomputable def MtM (X:Cx) (id:String) (r:V → List V → Hp → VK → Prop):Prop :=
  ∀ (pins:List (Addr × Obj)) (s:Shared) (σ:St) (H:Hp) (x:V) (xs:List V) (v:Value) (us:List Value) (Q:VK),Inv X pins σ H s → RelV x v → Vals xs us → r x xs H Q →
    wpAny (model X.prog X.w) X.A (call (.builtin id) (v :: us)) (EP X pins σ Q) X.xe s
theorem Vals.one:∀ {x:V} {us:List Value},Vals [x] us → ∃ u,us = [u] ∧ RelV x u
  | _,_,.cons r .nil => ⟨_,rfl,r⟩
theorem Vals.zero:∀ {us:List Value},Vals [] us → us = []
  | _,.nil => rfl
section
variable {X:Cx} {pins:List (Addr × Obj)} {σ:St} {H:Hp} {s:Shared} {l b:Addr} {xs ys zs:List V}
theorem Inv.lset {its its':List Value} {n:Nat} {f:Array Value → Array Value} {t':Nat} (I:Inv X pins σ H s) (hH:H l = some (.lst xs))
    (e:s.heap.get? l = some { cls:=.type "list",data:=.seq its.toArray n }) (hf:f its.toArray = its'.toArray) (hv:Vals ys its') (hz:ys.length ≤ sizeLine) :
    Inv X pins σ (upd H l (.lst ys)) { s with heap:=s.heap.update l (Obj.mapSeq f),toks:=t' }:=by
  have q:=PySem.IsL.update e f
  rw [hf] at q
  refine I.write (x:=l) (e:=l) (by rw [hH]; exact trivial) (.inl rfl) (fun b' u hb hu => (Heap.get?_update_other s.heap (Obj.mapSeq f) (Ne.symm hb)).trans hu) ⟨_,q⟩ ?_
  exact ⟨hz,its',_,hv,q⟩
theorem Inv.lnew {its:List Value} {t':Nat} (I:Inv X pins σ H s) (hv:Vals ys its) (hz:ys.length ≤ sizeLine) :
    Inv X pins σ (upd H s.heap.objs.size (.lst ys)) { s with heap:=s.heap.push { cls:=.type "list",data:=.seq its.toArray },toks:=t' } :=
  I.laid (fun _ _ q => Heap.get?_push_of_some _ q) (Nat.le_refl _) ⟨hz,its,0,hv,Heap.get?_push_size _ rfl⟩
theorem Inv.fresh (I:Inv X pins σ H s):H s.heap.objs.size = none:=I.hok.fresh (Nat.le_refl _)
theorem Inv.lstM (I:Inv X pins σ H s) (hH:H l = some (.lst xs)):xs.length ≤ sizeLine ∧ ∃ (its:List Value) (n:Nat),Vals xs its ∧ xs.length = its.length ∧ s.heap.get? l = some { cls:=.type "list",data:=.seq its.toArray n }:=by
  obtain ⟨z,its,n,r,e⟩:=I.hok l _ hH
  exact ⟨z,its,n,r,r.length,e⟩
end
section
variable {X:Cx}
noncomputable def rAppend:V → List V → Hp → VK → Prop:=fun x vs H Q => ∃ l xs y,x = .ref l ∧ vs = [y] ∧ H l = some (.lst xs) ∧ xs.length < sizeLine ∧ Q .non (upd H l (.lst (xs ++ [y])))
theorem mt_append:MtM X "list.append" rAppend:=by
  intro pins s σ H x vs v us Q I rx rv h
  obtain ⟨l,xs,y,rfl,rfl,hH,hz,q⟩:=h
  cases rx
  obtain ⟨u,rfl,ru⟩:=rv.one
  obtain ⟨z,its,n,r,hl,e⟩:=I.lstM hH
  refine call_meets F.slot_list_append ⟨_,e,rfl⟩ F.entry_list_append (F.args_list_append_2 _ _) (PySem.list_append l its.toArray n u (by rw [List.size_toArray]; omega)) ⟨e,?_⟩
  refine ⟨.non,_,I.lset (its':=its ++ [u]) hH e (by simp) (r.append (.cons ru .nil)) ?_,rfl,q⟩
  rw [List.length_append,List.length_singleton]
  omega
end
section
variable {prog:Program} {w:World} {A:Around} {E:Value → Shared → Prop} {s:Shared}
set_option maxRecDepth 100000 in
end
section
variable {X:Cx}
end
end L2
namespace L2
open PySem PySem.Spec PyProof.Rows
section
variable {κ:Type} [DecidableEq κ]
noncomputable def valV (kvs:List (κ × V)) (k:κ):Option V:=(kvs.find? fun kv => decide (kv.1 = k)).map (·.2)
noncomputable def putK (kvs:List (κ × V)) (k:κ) (v:V):List (κ × V) :=
  if (kvs.any fun kv => decide (kv.1 = k)) = true then kvs.map (fun kv => if kv.1 = k then (kv.1,v) else kv) else kvs ++ [(k,v)]
theorem valV_pos {p:κ × V} {r:List (κ × V)} {k:κ} (e:p.1 = k):valV (p :: r) k = some p.2:=by simp [valV,List.find?_cons,e]
theorem valV_neg {p:κ × V} {r:List (κ × V)} {k:κ} (e:¬ p.1 = k):valV (p :: r) k = valV r k:=by simp [valV,List.find?_cons,e]
theorem valV_any (k:κ):∀ kvs:List (κ × V),(kvs.any fun kv => decide (kv.1 = k)) = (valV kvs k).isSome
  | [] => rfl
  | p :: r => by
    rw [List.any_cons]
    by_cases e:p.1 = k
    · simp only [valV_pos e,decide_eq_true e,Bool.true_or,Option.isSome_some]
    · rw [valV_neg e,decide_eq_false e,Bool.false_or]; exact valV_any k r
theorem length_putK (kvs:List (κ × V)) (k:κ) (v:V):(putK kvs k v).length ≤ kvs.length + 1:=by
  unfold putK
  split
  · rw [List.length_map]; omega
  · rw [List.length_append,List.length_cons,List.length_nil]; omega
theorem putK_new {kvs:List (κ × V)} {k:κ} (v:V) (h:valV kvs k = none):putK kvs k v = kvs ++ [(k,v)]:=by
  unfold putK
  rw [valV_any,h]
  exact if_neg (by decide)
theorem RelO.isSome_eq {o:Option V} {u:Option Value} (r:RelO o u):o.isSome = u.isSome:=by
  cases o with
  | none => cases u with
    | none => rfl
    | some _ => exact (show False from r).elim
  | some _ => cases u with
    | none => exact (show False from r).elim
    | some _ => rfl
theorem KV.val {kvs:List (κ × V)} {vs:List (κ × Value)} (r:KV kvs vs) (k:κ):RelO (valV kvs k) (valueAt vs k):=by
  unfold KV at r
  induction r with
  | nil => exact True.intro
  | @cons p q ps qs h t ih =>
    obtain ⟨h1,h2⟩:=h
    by_cases e:p.1 = k
    · have e':q.1 = k:=h1.symm.trans e
      have b:valueAt (q :: qs) k = some q.2:=by simp [valueAt,List.find?_cons,e']
      rw [valV_pos e,b]; exact h2
    · have e':¬ q.1 = k:=fun z => e (h1.trans z)
      have b:valueAt (q :: qs) k = valueAt qs k:=by simp [valueAt,List.find?_cons,e']
      rw [valV_neg e,b]; exact ih
theorem KV.any {kvs:List (κ × V)} {vs:List (κ × Value)} (r:KV kvs vs) (k:κ):(kvs.any fun kv => decide (kv.1 = k)) = vs.any fun kv => decide (kv.1 = k):=by
  unfold KV at r
  induction r with
  | nil => rfl
  | cons h t ih => rw [List.any_cons,List.any_cons,ih,h.1]
theorem KV.repl {kvs:List (κ × V)} {vs:List (κ × Value)} (r:KV kvs vs) (k:κ) {y:V} {u:Value} (ry:RelV y u) :
    KV (kvs.map fun kv => if kv.1 = k then (kv.1,y) else kv) (vs.map fun kv => if kv.1 = k then (kv.1,u) else kv):=by
  unfold KV at r ⊢
  induction r with
  | nil => exact .nil
  | @cons p q ps qs h t ih =>
    rw [List.map_cons,List.map_cons]
    refine .cons ?_ ih
    obtain ⟨h1,h2⟩:=h
    by_cases e:p.1 = k
    · rw [if_pos e,if_pos (h1.symm.trans e)]; exact ⟨h1,ry⟩
    · rw [if_neg e,if_neg (fun z => e (h1.trans z))]; exact ⟨h1,h2⟩
theorem KV.put {kvs:List (κ × V)} {vs:List (κ × Value)} (r:KV kvs vs) (k:κ) {y:V} {u:Value} (ry:RelV y u):KV (putK kvs k y) (stored vs k u):=by
  unfold putK stored
  rw [r.any k]
  by_cases e:(vs.any fun kv => decide (kv.1 = k)) = true
  · rw [if_pos e,if_pos e]; exact r.repl k ry
  · rw [if_neg e,if_neg e]; exact Paired.snoc r ⟨rfl,ry⟩
theorem KV.length {kvs:List (κ × V)} {vs:List (κ × Value)} (r:KV kvs vs):kvs.length = vs.length:=Paired.length r
end
theorem kV_is {P:Program} {w:World} {k:Key} {u:Value} (r:RelV (kV k) u):(mixKind P w).is k u = true:=by
  cases k with
  | inl i => obtain ⟨t,e⟩:=(show ∃ t,u = Value.int i t from r); subst e; exact mixKind_int P w i t
  | inr x => obtain ⟨t,e⟩:=(show ∃ t,u = Value.str x t from r); subst e; exact mixKind_str P w x t
theorem items_are {P:Program} {w:World}:∀ {ks:List Key} {us:List Value},Vals (ks.map kV) us → ItemsAre (mixKind P w) ks us
  | [],_,r => by rw [List.map_nil] at r; cases r; exact .nil
  | k :: ks,_,r => by
    rw [List.map_cons] at r
    cases r with
    | cons h t => exact .cons (kV_is h) (items_are t)
noncomputable abbrev KT (H:Hp):List (List Key × V) → List (List Key × Addr × Value) → Prop:=Paired fun p q => p.1 = q.1 ∧ H q.2.1 = some (.tup (p.1.map kV)) ∧ RelV p.2 q.2.2
theorem KT.val {H:Hp} {kvs:List (List Key × V)} {xs:List (List Key × Addr × Value)} (r:KT H kvs xs) (k:List Key):RelO (valV kvs k) ((atKey xs k).map (·.2)):=by
  induction r with
  | nil => exact True.intro
  | @cons p q ps qs h t ih =>
    obtain ⟨h1,_,h2⟩:=h
    by_cases e:p.1 = k
    · have e':q.1 = k:=h1.symm.trans e
      have b:atKey (q :: qs) k = some q.2:=by simp [atKey,List.find?_cons,e']
      rw [valV_pos e,b]; exact h2
    · have e':¬ q.1 = k:=fun z => e (h1.trans z)
      have b:atKey (q :: qs) k = atKey qs k:=by simp [atKey,List.find?_cons,e']
      rw [valV_neg e,b]; exact ih
section
variable {P:Program} {w:World} {H:Hp} {h:Heap} {a:Addr}
theorem rd_of {u:HO} (ok:HOk P w H h) (e:Rd H a u):ObjOk P w H h a u:=e.ok ok
theorem dk_rd {kvs:List (Key × V)} (ok:HOk P w H h) (e:Rd H a (.dK kvs)):kvs.length ≤ sizeLine ∧ (a == sysModules) = false ∧ ∃ vs,KV kvs vs ∧ h.DictOf (mixKind P w) a vs :=
  show ObjOk P w H h a (.dK kvs) from rd_of ok e
theorem dk_of {kvs:List (Key × V)} (ok:HOk P w H h) (e:H a = some (.dK kvs)):kvs.length ≤ sizeLine ∧ (a == sysModules) = false ∧ ∃ vs,KV kvs vs ∧ h.DictOf (mixKind P w) a vs:=dk_rd ok (.inl e)
theorem key_of {ks:List Key} (ok:HOk P w H h) (e:H a = some (.tup (ks.map kV))):(tupleKind (mixKind P w)).is h ks a:=by
  obtain ⟨_,its,r,o,h1,h2,n,h3⟩:=(show ObjOk P w H h a (.tup (ks.map kV)) from ok a _ e)
  exact ⟨o,its.toArray,n,h1,h2,h3,by simpa using items_are r⟩
theorem dt_rd {kvs:List (List Key × V)} (ok:HOk P w H h) (e:Rd H a (.dT kvs)):kvs.length ≤ sizeLine ∧ (a == sysModules) = false ∧
    ∃ xs,KT H kvs xs ∧ h.DictOfH (tupleKind (mixKind P w)) a xs:=by
  obtain ⟨z,y,xs,r,o,es,ep,h1,h2,h3,h4,h5⟩:=(show ObjOk P w H h a (.dT kvs) from rd_of ok e)
  refine ⟨z,y,xs,r,o,es,ep,h1,h2,h3,h4,fun x hx => ?_,h5⟩
  have all:∀ {l:List (List Key × V)} {m:List (List Key × Addr × Value)},KT H l m → ∀ x ∈ m,(tupleKind (mixKind P w)).is h x.1 x.2.1:=by
    intro l m q
    induction q with
    | nil => intro x hx; exact nomatch hx
    | @cons p q ps qs hq t ih =>
      intro x hx
      rcases List.mem_cons.mp hx with e | hx
      · subst e
        exact key_of ok (by rw [← hq.1]; exact hq.2.1)
      · exact ih x hx
  exact all r x hx
end
noncomputable def DGet (H:Hp) (a:Addr) (y:V) (r:Option V):Prop :=
  (∃ kvs k,Rd H a (.dK kvs) ∧ y = kV k ∧ r = valV kvs k) ∨ ∃ kvs k b,Rd H a (.dT kvs) ∧ y = .ref b ∧ H b = some (.tup (k.map kV)) ∧ r = valV kvs k
theorem DGet.k {H:Hp} {a:Addr} {kvs:List (Key × V)} {k:Key} (e:H a = some (.dK kvs)):DGet H a (kV k) (valV kvs k):=.inl ⟨kvs,k,.inl e,rfl,rfl⟩
section
variable {X:Cx} {pins:List (Addr × Obj)} {σ:St} {H:Hp} {s:Shared} {a:Addr} {y v:V} {u r:Value} {o:Option V} {A:Around} {E:Value → Shared → Prop}
theorem Inv.big (I:Inv X pins σ H s):sysModules < s.heap.objs.size:=by
  have h:mainGlobals < s.heap.objs.size:=(I.mod.glob.keeps I.bk).lt
  exact Nat.lt_trans (by decide) h
theorem d_getItem {Q:Value → Shared → Prop} (hu:A.units + 1 < cLine) (I:Inv X pins σ H s) (g:DGet H a y (some v)) (ry:RelV y u) (h:∀ w' s',Inv X pins σ H s' → RelV v w' → Q w' s') :
    wpAny (model X.prog X.w) A (getItem (.ref a) u) Q E s:=by
  rcases g with ⟨kvs,k,e,ey,l⟩ | ⟨kvs,k,b,e,ey,eb,l⟩
  · subst ey
    obtain ⟨z,hd,vs,rel,dd⟩:=dk_rd I.hok e
    obtain ⟨w',hw,rw'⟩:=RelO.some_of (v:=v) (o:=valueAt vs k) (by rw [l]; exact rel.val k)
    exact wpAny_getItem_of (kV_is ry) dd.mapOf hw (h w' _ (I.tok _) rw')
  · subst ey
    cases (show u = Value.ref b from ry)
    obtain ⟨z,hd,xs,rel,dd⟩:=dt_rd I.hok e
    obtain ⟨w',hw,rw'⟩:=RelO.some_of (v:=v) (o:=(atKey xs k).map (·.2)) (by rw [l]; exact rel.val k)
    obtain ⟨p,hp,hp2⟩:=Option.map_eq_some_iff.mp hw
    refine wpAny_getItem_heap (tupleKind_room_in1 hu) (key_of I.hok eb) dd hp ?_
    rw [hp2]
    exact h w' _ (I.tok _) rw'
theorem d_write {h':Heap} {t':Nat} {ob:HO} (I:Inv X pins σ H s) (mu:Mut (H a)) (hs:Heap.SameBut a s.heap h') (he:∃ q,h'.get? a = some q) (new:ObjOk X.prog X.w (upd H a ob) h' a ob) :
    Inv X pins σ (upd H a ob) { s with heap:=h',toks:=t' } :=
  I.write (x:=a) (e:=a) mu (.inl rfl) (fun b q hb z => (hs.2 b hb).trans z) he new
theorem dk_new {P:Program} {w:World} {H':Hp} {h':Heap} {kvs:List (Key × V)} {vs:List (Key × Value)} (z:kvs.length ≤ sizeLine) (hd:(a == sysModules) = false) (rel:KV kvs vs) (dd:h'.DictOf (mixKind P w) a vs) :
    ObjOk P w H' h' a (.dK kvs):=⟨z,hd,vs,rel,dd⟩
end
section
variable {X:Cx} {pins:List (Addr × Obj)} {σ:St} {H:Hp} {s:Shared} {a:Addr} {kvs:List (Key × V)} {k:Key} {u:Value} {A:Around} {E:Value → Shared → Prop}
theorem d_truth {Q:Bool → Shared → Prop} (I:Inv X pins σ H s) (e:Rd H a (.dK kvs)) (h:∀ s',Inv X pins σ H s' → Q (!kvs.isEmpty) s'):wpAny (model X.prog X.w) A (truthy (.ref a)) Q E s:=by
  obtain ⟨z,hd,vs,rel,dd⟩:=dk_rd I.hok e
  refine wpAny_truthy_dict hd dd (by rw [← rel.length]; rw [sizeLine_eq] at z; omega) ?_
  have q:kvs.isEmpty = vs.isEmpty:=by cases rel <;> rfl
  rw [← q]
  exact h _ (I.tok _)
end
noncomputable def NoSl (i:Expr):Prop:=∀ ov iv,subscripted i false ov iv = operate [ov,iv] (getItem ov iv)
theorem subD_of {prog:Program} {w:World} {A:Around} {E:Value → Shared → Prop} {s:Shared} {env:Env} {value slice:Expr} {pos:Pos} {T id:String} {Q:Value → Shared → Prop}
    (hl:typeLookup (.type T) "__getitem__" = pure (some (.builtin id))) (hs:NoSl slice)
    (h:wpAny (model prog w) A (eval value env) (fun o s₁ => wpAny (model prog w) A (eval slice env) (fun i s₂ => s₂.TypeIs o T ∧ wpAny (model prog w) A (getItem o i) Q E s₂) E s₁) E s) :
    wpAny (model prog w) A (eval (.Subscript value slice pos) env) Q E s:=by
  refine Subscript_ (wpAny_mono h (fun o s₁ h₁ => wpAny_mono h₁ (fun i s₂ h₂ => ?_) fun _ _ x => x) fun _ _ x => x)
  obtain ⟨hT,h₂⟩:=h₂
  unfold subscriptTail
  refine wpAny_bind ?_
  rw [getitemInPython_of_ne hT.not_modules]
  refine wpAny_bind (wpAny_specialOf hT hl ?_)
  have fin:wpAny (model prog w) A (subscripted slice false o i) (fun r s₃ => wpAny (model prog w) A (letTemporaryGo value o r >>= fun _ => pure r) Q E s₃) E s₂:=by
    rw [hs o i]
    exact wpAny_operating (wpAny_mono h₂ (fun r s₃ h₃ => wpAny_bind (wpAny_letTemporaryGo (wpAny_pure h₃))) fun _ _ x => x)
  first
    | exact wpAny_pure (wpAny_bind fin)
    | exact wpAny_bind (wpAny_pure (wpAny_bind fin))
    | exact wpAny_bind fin
theorem dict_typeIs {X:Cx} {pins:List (Addr × Obj)} {σ:St} {H:Hp} {s:Shared} {a:Addr} {y:V} {o:Option V} (I:Inv X pins σ H s) (g:DGet H a y o):s.TypeIs (.ref a) "dict":=by
  rcases g with ⟨kvs,k,e,_,_⟩ | ⟨kvs,k,b,e,_,_,_⟩
  · obtain ⟨_,_,vs,_,dd⟩:=dk_rd I.hok e
    exact dd.typeIs
  · obtain ⟨_,_,xs,_,dd⟩:=dt_rd I.hok e
    exact dd.typeIs
noncomputable def tDGet (td ty:TE):TE:=fun σ H Q => td σ H fun x H1 => ty σ H1 fun y H2 => ∃ a v,x = .ref a ∧ DGet H2 a y (some v) ∧ Q v H2
section
variable {X:Cx} {o i e value:Expr} {pos pos' tpos:Pos} {td ty tv:TE}
theorem pe_dget (hu:X.A.units + 1 < cLine) (ho:PE X o td) (hi:PE X i ty) (hs:NoSl i):PE X (.Subscript o i pos) (tDGet td ty):=by
  intro pins s σ H Q I h
  refine subD_of PySem.F.slot_dict_getitem.lookup hs (thn (ho pins s σ H _ I h) fun u s1 ⟨x,H1,I1,rx,q1⟩ => thn (hi pins s1 σ H1 _ I1 q1) fun iv s2 ⟨y,H2,I2,ry,a,v,ex,g,q2⟩ => ?_)
  subst ex
  obtain rfl:u = Value.ref a:=rx
  exact ⟨dict_typeIs I2 g,d_getItem hu I2 g ry fun w' s3 I3 rw' => ⟨v,H2,I3,rw',q2⟩⟩
end
theorem dk_empty {P:Program} {w:World} {H:Hp} (h:Heap) (hb:sysModules < h.objs.size):ObjOk P w H (h.push { cls:=.type "dict",data:=.dict #[] }) h.objs.size (.dK []) :=
  ⟨Nat.zero_le _,beq_eq_false_iff_ne.mpr (Ne.symm (Nat.ne_of_lt hb)),[],.nil,Heap.DictOf.new h⟩
section
variable {X:Cx} {pos:Pos}
end
noncomputable def mergeK (kvs more:List (Key × V)):List (Key × V):=more.foldl (fun acc kv => putK acc kv.1 kv.2) kvs
theorem KV.merge:∀ {more:List (Key × V)} {rs:List (Key × Value)} {kvs:List (Key × V)} {vs:List (Key × Value)},KV more rs → KV kvs vs → KV (mergeK kvs more) (merged vs rs):=by
  intro more rs kvs vs r
  unfold KV at r
  induction r generalizing kvs vs with
  | nil => intro q; exact q
  | @cons p q ps qs h t ih =>
    intro r0
    have e:KV (putK kvs p.1 p.2) (stored vs q.1 q.2):=by
      have:=r0.put p.1 h.2
      rw [← h.1]; exact this
    exact ih e
theorem length_mergeK:∀ (more kvs:List (Key × V)),(mergeK kvs more).length ≤ kvs.length + more.length
  | [],kvs => by show kvs.length ≤ kvs.length + 0; omega
  | p :: r,kvs => by
    have h1:=length_mergeK r (putK kvs p.1 p.2)
    have h2:=length_putK kvs p.1 p.2
    show (mergeK (putK kvs p.1 p.2) r).length ≤ _
    rw [List.length_cons]; omega
section
variable {X:Cx} {pins:List (Addr × Obj)} {σ:St} {H:Hp} {s:Shared} {a:Addr} {y d:V} {u r:Value} {o:Option V} {A:Around} {E:Value → Shared → Prop}
end
section
variable {X:Cx} {o e f:Expr} {apos cpos:Pos} {td ty tx:TE}
end
section
variable {X:Cx} {pins:List (Addr × Obj)} {σ:St} {H:Hp} {s:Shared} {a:Addr} {kvs:List (Key × V)} {A:Around} {E:Value → Shared → Prop}
end
section
variable {X:Cx} {pins:List (Addr × Obj)} {σ:St} {H:Hp} {s:Shared} {a:Addr} {y:V} {u:Value} {A:Around} {E:Value → Shared → Prop}
end
end L2
namespace Att
open PySem PySem.W PySem.Calls PyProof.Rows
theorem ints_of_wellAll {P:Params} {h:Heap}:∀ (ns:List Int) (vs:List Value),WellAll P h vs (ns.map WData.int) → IntsAre vs ns:=by
  intro ns
  induction ns with
  | nil =>
    intro vs w
    rw [List.map_nil] at w
    cases w
    exact .nil
  | cons n ns ih =>
    intro vs w
    rw [List.map_cons] at w
    cases w with
    | cons a b =>
      cases a
      exact .cons _ _ (ih _ b)
theorem script_of {l:OpenLaw} {n:Nat} (hn:l.most = some n) {P:Params} {h:Heap} {args:List WData} {vals:List Value}
    (hpre:l.row.toRowW.claim.pre args = true) (hwl:WellAll P h vals args) :
    ∃ a vs ns,vals = [Value.ref a] ∧ args = [WData.list (ns.map WData.int)] ∧ h.get? a = some { cls:=.type "list",data:=.seq vs.toArray } ∧ IntsAre vs ns ∧ ns.length ≤ n:=by
  have hsh:WShape.hasAll [] args [.list .int] = true:=(pre_splitW hpre).1
  have hc:l.pre.holds [] { args:=args } = true:=(pre_splitW hpre).2
  obtain ⟨d,r,rfl,h1,h2⟩:=hasAllW_cons hsh
  obtain rfl:=hasAllW_nil h2
  obtain ⟨xs,rfl,h3⟩:=hasW_list h1
  obtain ⟨ns,rfl⟩:=items_int h3
  have hlen:ns.length ≤ n:=by
    unfold OpenLaw.pre at hc
    have h4:(WTm.not (.lt (.lit (.int (n:Int))) (.len (.arg 0)))).holds [] { args:=[.list (ns.map .int)] } = true:=by
      have h4:=(holds_andW hc).1
      rw [hn] at h4
      exact h4
    have h5:=condW_of h4 (w_not (w_lt w_lit (w_len_list (w_arg rfl))))
    rw [List.length_map] at h5
    refine Nat.le_of_not_lt fun q => ?_
    have q':(n:Int) < ((ns.length:Nat):Int):=by omega
    first
      | (rw [decide_eq_true q'] at h5; exact absurd h5 (by decide))
      | (simp at h5; omega)
  cases hwl with
  | cons w1 w2 =>
    cases w2
    cases w1 with
    | list ho hall => exact ⟨_,_,ns,rfl,rfl,ho,ints_of_wellAll ns _ hall,hlen⟩
theorem post_true (l:OpenLaw) (args:List WData):l.row.toRowW.claim.post args (.bool true) args = true :=
  postW_of (r:=l.row.toRowW) (X:=(true == true))
    (show WShape.has [] (.bool true) .bool = true by first | rfl | decide | simp [WShape.has,WShape.arms,WShape.armsAll])
    (show (WTm.eq .res (.lit (.bool true))).value [] { args:=args,res:=some (.bool true),after:=args } = some (.bool (true == true)) from w_eq_bool (w_res rfl) w_lit) rfl
theorem attach_call {l:OpenLaw} {n:Nat} {q:Program} {loose:List Str} {XP:(Str → Option Value) → Heap → Prop} {YP:World → Heap → Prop} {d:DefRec}
    (hn:l.most = some n) (hdf:d.params.defaults = [])
    (call:∀ (w:World) (s₀ s₁:Shared) (mg mb:Str → Option Value) (fa:Addr) (o:Obj) (pm cd doc:Value) (a:Addr) (vs:List Value) (ns:List Int),
      Ground q loose [] XP w s₀ mg mb s₁.heap → YP w s₁.heap →
      s₁.heap.get? fa = some o → o.data = .func (docDef d.name d.params d.body d.scope pm cd doc) → s₁.heap.CodeRec cd d.name → mg d.name = some (.ref fa) →
      s₁.heap.get? a = some { cls:=.type "list",data:=.seq vs.toArray } → IntsAre vs ns → ns.length ≤ n → s₁.gens = #[] →
      codeAny (model l.prog w) callerA (.call (.ref fa) ⟨[.ref a],[]⟩) (fun r s' => r = .ok (.ret (.bool true)) ∧ OldK s₁.heap s'.heap ∧ s'.os = s₁.os ∧ AllBare s'.gens) s₁) :
    WalkO q loose XP YP l.row.toRowW d [] (fun f vs => PySem.call f vs):=by
  intro w s₀ s₁ mg mb G Y fa o pm cd doc dV kV ho hd hcd hD hmg hg args vals as hpre hlay hrd hwl hlo
  obtain rfl:dV = .none:=Dflts.none hD hdf
  obtain rfl:kV = .none:=Dflts.noKw hD
  obtain ⟨a,vs,ns,rfl,rfl,hobj,hints,hlen⟩:=script_of hn hpre hwl
  refine enter_call (codeAny_mono (call w s₀ s₁ mg mb fa o pm cd doc a vs ns G Y ho (fd_plain hd) hcd hmg hobj hints hlen hg) fun r s' hq => ?_)
  obtain ⟨rfl,h2,h3,h4⟩:=hq
  exact ⟨.inl ⟨.bool true,.bool true,[],rfl,fun _ => rfl,.bool true,post_true l _,fun _ => ⟨List.Pairwise.nil,fun _ hm => (nomatch hm)⟩⟩,h2,h3,h4⟩
section
variable {prog:Program} {w:World} {A:Around} {E:Value → Shared → Prop} {s:Shared} {K:Frag}
end
end Att
namespace L2
open PySem PySem.Spec PyProof.Rows
theorem vals_ints:∀ {vs:List Value} {ns:List Int},IntsAre vs ns → Vals (ns.map V.int) vs
  | _,_,.nil => .nil
  | _,_,.cons n t h => .cons ⟨t,rfl⟩ (vals_ints h)
noncomputable def Only (H:Hp):Prop:=∀ b,H b = none ∨ ∃ o xs,H b = some (.frz o (.lst xs))
theorem law_call {P:Program} {w:World} {K:PySem.W.Frag} {mg mb:Str → Option Value} {CX:CXT} {k:Nat} {fa a:Addr} {fd:FuncData} {x:Str} {sp:Sp} {s₁:Shared} {vs:List Value} {ns:List Int}
    (KX:K.In s₁.heap) (hns:s₁.heap.Ns mainGlobals mg) (hb:s₁.heap.Ns builtinsNs mb) (hbb:∀ x:Str,x ≠ "__name__" → mb x = bootBuiltins x) (hlim:s₁.heap.NoLimit) (hg:s₁.gens = #[])
    (ha:s₁.heap.get? a = some { cls:=.type "list",data:=.seq vs.toArray }) (hi:IntsAre vs ns) (hl:ns.length ≤ sizeLine) (hr:Room k callerA)
    (F:∀ base:Heap,K.In base → base.Ns mainGlobals mg → FnOk P w K mg base CX k fa fd [x] sp) (hbind:∀ (s:Shared) (u:Value),BindsTo s fd ⟨[u],[]⟩ [(x,u)])
    (hsp:∀ H:Hp,Only H → SqL K H a (ns.map V.int) → sp [.ref a] H (fun v _ => v = .bl true) fun _ _ _ => False)
    (hCX:∀ H e s',CX [] H s₁ (fun _ _ _ => False) e s' → False) :
    codeAny (model P w) callerA (.call (.ref fa) ⟨[.ref a],[]⟩) (fun r s' => r = .ok (.ret (.bool true)) ∧ OldK s₁.heap s'.heap ∧ s'.os = s₁.os ∧ AllBare s'.gens) s₁:=by
  have rv:=vals_ints hi
  have lenV:=hi.length
  have core:∀ H:Hp,Only H → SqL K H a (ns.map V.int) → HOk P w H s₁.heap → (∀ b,H b ≠ none → b = a) → (H a ≠ none → K.lookup a = none) →
      codeAny (model P w) callerA (.call (.ref fa) ⟨[.ref a],[]⟩) (fun r s' => r = .ok (.ret (.bool true)) ∧ OldK s₁.heap s'.heap ∧ s'.os = s₁.os ∧ AllBare s'.gens) s₁:=by
    intro H hO hS hok hA hK
    have base_of:∀ {b:Addr} {o:Obj},s₁.heap.get? b = some o → H b = none → (hidT s₁.heap H).get? b = some o:=fun e n => hidT_get e n
    have noA:∀ {b:Addr} {o:Obj} {es:Array DictEntry} {ep:Nat},s₁.heap.get? b = some o → o.data = .dict es ep → H b = none:=fun {b o es ep} e d => by
      cases q:H b with
      | none => rfl
      | some u =>
        have e':b = a:=hA b (by rw [q]; simp)
        subst e'
        rw [ha] at e; cases e
        have d':Data.seq vs.toArray _ = Data.dict es ep:=d
        cases d'
    have nsK:∀ {b:Addr} {m:Str → Option Value},s₁.heap.Ns b m → (hidT s₁.heap H).Ns b m:=fun {b m} ⟨o,es,ep,e,d,r⟩ => ⟨o,es,ep,base_of e (noA e d),d,r⟩
    have hKb:K.In (hidT s₁.heap H):=fun b o e => base_of (KX b o e) (by
      cases q:H b with
      | none => rfl
      | some u =>
        have e':b = a:=hA b (by rw [q]; simp)
        subst e'
        rw [hK (by rw [q]; simp)] at e; cases e)
    have hM:Mod K mg (hidT s₁.heap H):=⟨hKb,nsK hns,⟨mb,nsK hb,hbb⟩,let ⟨mc,h1,h2⟩:=hlim; ⟨mc,nsK h1,h2⟩⟩
    have e0:Env0 P w K mg (hidT s₁.heap H) callerA [] s₁ H:=⟨rfl,hM,fun b o e => of_hidT e,Nat.le_of_eq (hidT_size _ _),trivial,fun b hb => absurd (show b ∈ ([]:List Addr) from hb) (by simp),hok,.of_eq hg⟩
    refine codeAny_mono ((F _ hKb (nsK hns)).run callerA [] s₁ H ⟨[.ref a],[]⟩ [.ref a] [.ref a] _ _ hr e0 (hbind s₁ (.ref a)) (.cons rfl .nil) (hsp H hO hS)) fun r s' h => ?_
    cases r with
    | error e => exact (hCX H e s' h).elim
    | ok fl =>
      cases fl with
      | next => exact False.elim h
      | brk => exact False.elim h
      | cont => exact False.elim h
      | ret u =>
        obtain ⟨v,H',os,bare,un,hok',r',q⟩:=h
        have q':v = .bl true:=q
        subst q'
        obtain rfl:u = Value.bool true:=r'
        refine ⟨rfl,OldK.of_keep fun b o e => ?_,os,bare⟩
        cases q:H b with
        | none => exact un.keep b o e q (by intro z; exact absurd (show b ∈ ([]:List Addr) from z) (by simp)) (by simp)
        | some u =>
          rcases hO b with z | ⟨ob,xs,z⟩
          · rw [q] at z; cases z
          · have z2:=un.frzs b ob _ z
            obtain ⟨e1,_⟩:=hok b _ z
            obtain ⟨e2,_⟩:=hok' b _ z2
            rw [e] at e1; cases e1
            exact e2
  cases hk:K.lookup a with
  | some o =>
    have e:=KX a o hk
    rw [ha] at e
    cases e
    refine core (fun _ => none) (fun _ => .inl rfl) (.inr ⟨_,vs.toArray,_,hk,rfl,rfl,rfl,by rw [List.size_toArray,lenV]; exact hl,by simpa using rv⟩) (fun b u z => by have z':(none:Option HO) = some u:=z; cases z') (fun b z => absurd rfl z) fun z => absurd rfl z
  | none =>
    refine core (fun b => if b = a then some (.frz { cls:=.type "list",data:=.seq vs.toArray } (.lst (ns.map V.int))) else none) (fun b => ?_) (.inl (.inr ⟨{ cls:=.type "list",data:=.seq vs.toArray },if_pos rfl⟩)) (fun b u z => ?_) (fun b z => ?_) fun _ => hk
    · by_cases hb:b = a
      · exact .inr ⟨_,_,if_pos hb⟩
      · exact .inl (if_neg hb)
    · by_cases hb:b = a
      · have z':=(if_pos hb).symm.trans z
        cases z'
        subst hb
        exact ⟨ha,by rw [List.length_map]; exact hl,vs,_,rv,ha⟩
      · have z':=(if_neg hb).symm.trans z
        cases z'
    · by_cases hb:b = a
      · exact hb
      · exact absurd (if_neg hb) z
end L2
namespace L2
open PySem PySem.Spec PyProof.Rows
theorem walk_of {l:PySem.W.OpenLaw} {n k:Nat} {q:Program} {loose:List Str} {XP:(Str → Option Value) → Heap → Prop} {YP:World → Heap → Prop} {d:DefRec} {K:Params → PySem.W.Frag} {CX:World → CXT} {sp:World → Sp} {x:Str}
    (hn:l.most = some n) (hn2:n ≤ sizeLine) (hdf:d.params.defaults = []) (hr:Room k callerA)
    (hY:∀ (w:World) (h:Heap),YP w h → (K w.params).In h)
    (F:∀ (w:World) (mg:Str → Option Value) (fa:Addr) (h:Heap),(K w.params).In h → h.Ns mainGlobals mg → mg d.name = some (.ref fa) →
      ∃ fd:FuncData,(∀ (s:Shared) (u:Value),BindsTo s fd ⟨[u],[]⟩ [(x,u)]) ∧
        ∀ base:Heap,(K w.params).In base → base.Ns mainGlobals mg → FnOk l.prog w (K w.params) mg base (CX w) k fa fd [x] (sp w))
    (hsp:∀ (w:World) (H:Hp) (a:Addr) (ns:List Int),ns.length ≤ n → Only H → SqL (K w.params) H a (ns.map V.int) → sp w [.ref a] H (fun v _ => v = .bl true) fun _ _ _ => False)
    (hCX:∀ (w:World) (H:Hp) (s:Shared) (e:Value) (s':Shared),CX w [] H s (fun _ _ _ => False) e s' → False) :
    PySem.W.WalkO q loose XP YP l.row.toRowW d [] (fun f vs => PySem.call f vs):=by
  refine Att.attach_call hn hdf fun w s₀ s₁ mg mb fa o pm cd doc a vs ns G Y ho hd hcd hmg hobj hints hlen hg => ?_
  have KX:=hY w _ Y
  obtain ⟨fd,hb,hF⟩:=F w mg fa _ KX G.T.g hmg
  exact law_call KX G.T.g G.T.b G.T.builtins G.T.nolimit hg hobj hints (Nat.le_trans hlen hn2) hr hF hb (fun H hO hS => hsp w H a ns hlen hO hS) fun H e s' => hCX w H s₁ e s'
end L2
namespace L2
open PySem PySem.Spec PyProof.Rows
noncomputable def defArgs (s:Stmt):Arguments:=match s with
  | .FunctionDef _ a _ _ _ _ _ _ _ _ => a
  | _ => { posonlyargs:=[],args:=[],vararg:=none,kwonlyargs:=[],kw_defaults:=[],kwarg:=none,defaults:=[] }
noncomputable def defBody (s:Stmt):List Stmt:=match s with
  | .FunctionDef _ _ b _ _ _ _ _ _ _ => b
  | _ => []
noncomputable def defScope (s:Stmt):Scope:=match s with
  | .FunctionDef _ _ _ _ _ _ sc _ _ _ => sc
  | _ => { kind:=.function,names:=[],isGenerator:=false,isCoroutine:=false }
noncomputable abbrev CX0:CXT:=fun _ _ _ _ _ _ => False
noncomputable abbrev E0:XK:=fun _ _ _ => False
theorem pass0 {X:Cx}:Passes CX0 X E0:=fun _ _ _ _ _ _ _ h => h.elim
structure Fun (K:PySem.W.Frag) (x qual:Str) (st:Stmt) (f:Addr) (fd:FuncData):Prop where
  ex:∃ (oc:Value) (od:Option Addr) (kV doc pm:Value) (an:Option Addr) (cdv ct:Value) (osl:Array (Option Value)),
    fd = PySem.W.fnOf x qual (defArgs st) (defBody st) (defScope st) .none kV doc pm an cdv ct ∧ K.lookup f = some ⟨oc,od,.func fd,osl⟩ ∧ PySem.W.codeIn K cdv qual = true
  kp:PySem.W.keepIn K (.ref f) = true
section
variable {P:Program} {w:World} {K:PySem.W.Frag} {mg:Str → Option Value} {base:Heap}
theorem Fun.ok {x qual:Str} {st:Stmt} {f:Addr} {fd:FuncData} {N ps:List Str} {k:Nat} {sp:Sp} (F:Fun K x qual st f fd) (S:FnScope N ps (defScope st)) (len:∀ vs H Q E,sp vs H Q E → vs.length = ps.length)
    (hbody:∀ (cdv:Value) (A:Around) (outer:List Env) (s:Shared) (H:Hp) (vs:List V) (Q:VK) (E:XK),Room k (A.deeper (envOfC qual (defScope st) s.heap.objs.size f cdv)) → sp vs H Q E →
      ∃ t,PSs (cxOf CX0 P w K mg base N qual (defScope st) f cdv A outer s H E).nox (defBody st) t ∧ t { nx:=fun _ H' => Q .non H',rt:=Q } (start N vs) H):FnOk P w K mg base CX0 (k + 1) f fd ps sp:=by
  obtain ⟨oc,od,kV,doc,pm,an,cdv,ct,osl,rfl,lk,hcd⟩:=F.ex
  refine fn_of lk hcd S len fun A outer s H vs Q E hr hsp => ?_
  obtain ⟨t,h,q⟩:=hbody cdv A outer s H vs Q E hr hsp
  exact ⟨t,h.nox,q⟩
theorem fun_mk {x qual:Str} {st:Stmt} {f:Addr} {oc:Value} {od an:Option Addr} {osl:Array (Option Value)} {kV doc pm cdv ct:Value} (l:K.lookup f = some ⟨oc,od,.func (PySem.W.fnOf x qual (defArgs st) (defBody st) (defScope st) .none kV doc pm an cdv ct),osl⟩)
    (c:PySem.W.codeIn K cdv qual = true) (k:PySem.W.keepIn K (.ref f) = true):Fun K x qual st f (PySem.W.fnOf x qual (defArgs st) (defBody st) (defScope st) .none kV doc pm an cdv ct):=⟨⟨oc,od,kV,doc,pm,an,cdv,ct,osl,rfl,l,c⟩,k⟩
end
section
variable {X:Cx}
theorem pv (i:Nat) {x:Str} {pos:Pos} (hN:X.N[i]? = some x:=by rfl) (hv:Vis X.env.scope x:=by first | exact Or.inl rfl | exact Or.inr (Or.inl rfl) | exact Or.inr (Or.inr rfl)) (hd:(x == ("__debug__":Str)) = false:=by decide)
    (hcd:(x == ("__classdict__":Str)) = false:=by decide):PE X (.Name x pos) (tVar i):=pe_var hN hv hd hcd
end
noncomputable def Same (H H':Hp):Prop:=∀ b o,H b = some o → H' b = some o
theorem Same.refl (H:Hp):Same H H:=fun _ _ h => h
theorem Same.trans {H H1 H2:Hp} (a:Same H H1) (b:Same H1 H2):Same H H2:=fun c o h => b c o (a c o h)
theorem Same.seq {K:PySem.W.Frag} {H H':Hp} {a:Addr} {xs:List V} (e:Same H H') (h:SqL K H a xs):SqL K H' a xs:=by
  rcases h with (h | ⟨o,h⟩) | h
  · exact .inl (.inl (e _ _ h))
  · exact .inl (.inr ⟨o,e _ _ h⟩)
  · exact .inr h
end L2
set_option Elab.async false
set_option linter.all false
set_option maxRecDepth 100000
set_option maxHeartbeats 4000000
namespace M
open PySem PySem.Spec PyProof.Rows L2
noncomputable abbrev DK:=Sum Int (List Nat)
inductive D where
  | non | bl (b:Bool) | int (i:Int) | str (x:List Nat) | tup (xs:List D) | lst (xs:List D) | dic (ks:List DK) (vs:List D) | ref (k:Nat)
noncomputable def dk:DK → Key
  | .inl i => .inl i
  | .inr x => .inr ⟨x.toArray⟩
inductive Cell where
  | lst (ds:List D) | dic (ks:List DK) (vs:List D) | dead
  | exz (c:Str) | exn (c:Str) (j:Nat) | xdc (nm:Str) (d:D) | obj (c:Str) (ns:List Str) (ds:List D)
noncomputable abbrev Mu:=List Cell
structure Exc where
  c:Nat
  d:D
inductive Res (α:Type) where
  | ok (a:α) (μ:Mu)
  | exc (x:Exc) (μ:Mu)
  | bad
noncomputable def Res.bind {α β:Type}:Res α → (α → Mu → Res β) → Res β
  | .ok a μ,f => f a μ
  | .exc x μ,_ => .exc x μ
  | .bad,_ => .bad
noncomputable def ofO {α:Type} (μ:Mu):Option α → Res α
  | some a => .ok a μ
  | none => .bad
@[simp] theorem bind_ok {α β:Type} (a:α) (μ:Mu) (f:α → Mu → Res β):(Res.ok a μ).bind f = f a μ:=rfl
@[simp] theorem ofO_some {α:Type} (μ:Mu) (a:α):ofO μ (some a) = .ok a μ:=rfl
noncomputable def deref (μ:Mu):D → D
  | .ref k => match μ[k]? with
    | some (.lst ds) => .lst ds
    | some (.dic ks vs) => .dic ks vs
    | _ => .ref k
  | d => d
@[simp] theorem deref_int (μ:Mu) (i:Int):deref μ (.int i) = .int i:=rfl
@[simp] theorem deref_dic (μ:Mu) (x:List DK) (y:List D):deref μ (.dic x y) = .dic x y:=rfl
noncomputable abbrev En:=List (Option D)
noncomputable abbrev MX:=En → Mu → Res D
noncomputable abbrev MB:=En → Mu → Res Bool
noncomputable abbrev MAs:=En → Mu → Res (List D)
inductive Out where
  | nx (ρ:En) | rt (d:D) | bk (ρ:En) | ct (ρ:En)
noncomputable abbrev MSt:=En → Mu → Res Out
mutual
noncomputable def Rep (K:PySem.W.Frag) (F:Hp) (α:List Addr):D → V → Prop
  | .non,v => v = .non
  | .bl b,v => v = .bl b
  | .int i,v => v = .int i
  | .str x,v => v = .str ⟨x.toArray⟩
  | .tup ds,v => ∃ a vs,v = .ref a ∧ SqT K F a vs ∧ Reps K F α ds vs
  | .lst ds,v => ∃ a vs,v = .ref a ∧ SqL K F a vs ∧ Reps K F α ds vs
  | .dic ks ds,v => ∃ a vs,v = .ref a ∧ F a = some (.dK ((ks.map dk).zip vs)) ∧ ks.length = ds.length ∧ Reps K F α ds vs
  | .ref k,v => ∃ a,α[k]? = some a ∧ v = .ref a
noncomputable def Reps (K:PySem.W.Frag) (F:Hp) (α:List Addr):List D → List V → Prop
  | [],vs => vs = []
  | d :: ds,vs => ∃ v r,vs = v :: r ∧ Rep K F α d v ∧ Reps K F α ds r
end
structure Ext (α:List Addr) (F:Hp) (α':List Addr) (F':Hp):Prop where
  fr:Same F F'
  al:∀ (k:Nat) (a:Addr),α[k]? = some a → α'[k]? = some a
theorem Ext.refl (α:List Addr) (F:Hp):Ext α F α F:=⟨Same.refl F,fun _ _ h => h⟩
theorem Ext.trans {α α1 α2:List Addr} {F F1 F2:Hp} (a:Ext α F α1 F1) (b:Ext α1 F1 α2 F2):Ext α F α2 F2:=⟨a.fr.trans b.fr,fun k x h => b.al k x (a.al k x h)⟩
theorem Same.tup {K:PySem.W.Frag} {H H':Hp} {a:Addr} {xs:List V} (e:Same H H') (h:SqT K H a xs):SqT K H' a xs:=by
  rcases h with (h | ⟨o,h⟩) | h
  · exact .inl (.inl (e _ _ h))
  · exact .inl (.inr ⟨o,e _ _ h⟩)
  · exact .inr h
section
variable {K:PySem.W.Frag} {F F' H H':Hp} {α α':List Addr}
mutual
theorem Rep.mono (e:Ext α F α' F'):∀ {d:D} {v:V},Rep K F α d v → Rep K F' α' d v
  | .non,_,h => h
  | .bl _,_,h => h
  | .int _,_,h => h
  | .str _,_,h => h
  | .tup ds,v,h => by
    unfold Rep at h ⊢
    obtain ⟨a,vs,hv,hs,hr⟩:=h
    exact ⟨a,vs,hv,Same.tup e.fr hs,Reps.mono e hr⟩
  | .lst ds,v,h => by
    unfold Rep at h ⊢
    obtain ⟨a,vs,hv,hs,hr⟩:=h
    exact ⟨a,vs,hv,e.fr.seq hs,Reps.mono e hr⟩
  | .dic ks ds,v,h => by
    unfold Rep at h ⊢
    obtain ⟨a,vs,hv,hs,hl,hr⟩:=h
    exact ⟨a,vs,hv,e.fr _ _ hs,hl,Reps.mono e hr⟩
  | .ref k,v,h => by
    unfold Rep at h ⊢
    obtain ⟨a,ha,hv⟩:=h
    exact ⟨a,e.al k a ha,hv⟩
theorem Reps.mono (e:Ext α F α' F'):∀ {ds:List D} {vs:List V},Reps K F α ds vs → Reps K F' α' ds vs
  | [],_,h => h
  | d :: ds,vs,h => by
    unfold Reps at h ⊢
    obtain ⟨v,r,hv,h1,h2⟩:=h
    exact ⟨v,r,hv,Rep.mono e h1,Reps.mono e h2⟩
end
theorem Reps.length:∀ {ds:List D} {vs:List V},Reps K F α ds vs → ds.length = vs.length
  | [],vs,h => by unfold Reps at h; subst h; rfl
  | d :: ds,vs,h => by
    unfold Reps at h
    obtain ⟨v,r,hv,_,h2⟩:=h
    subst hv
    simp [Reps.length h2]
theorem Reps.get:∀ {ds:List D} {vs:List V} {i:Nat} {d:D},Reps K F α ds vs → ds[i]? = some d → ∃ v,vs[i]? = some v ∧ Rep K F α d v
  | [],_,_,_,_,e => by simp at e
  | d :: ds,vs,0,d',h,e => by
    unfold Reps at h
    obtain ⟨v,r,hv,h1,_⟩:=h
    subst hv
    simp at e
    subst e
    exact ⟨v,rfl,h1⟩
  | d :: ds,vs,i + 1,d',h,e => by
    unfold Reps at h
    obtain ⟨v,r,hv,_,h2⟩:=h
    subst hv
    obtain ⟨u,hu,hr⟩:=Reps.get (i:=i) (d:=d') h2 (by simpa using e)
    exact ⟨u,by simpa using hu,hr⟩
theorem Reps.append:∀ {ds es:List D} {vs us:List V},Reps K F α ds vs → Reps K F α es us → Reps K F α (ds ++ es) (vs ++ us)
  | [],_,_,_,h,h' => by unfold Reps at h; subst h; exact h'
  | d :: ds,es,vs,us,h,h' => by
    unfold Reps at h
    obtain ⟨v,r,hv,h1,h2⟩:=h
    subst hv
    show Reps K F α (d :: (ds ++ es)) (v :: (r ++ us))
    unfold Reps
    exact ⟨v,_,rfl,h1,Reps.append h2 h'⟩
theorem reps_nil:Reps K F α [] []:=by unfold Reps; rfl
theorem reps_cons {d:D} {ds:List D} {v:V} {vs:List V} (h:Rep K F α d v) (h':Reps K F α ds vs):Reps K F α (d :: ds) (v :: vs):=by unfold Reps; exact ⟨v,vs,rfl,h,h'⟩
theorem Reps.take:∀ {ds:List D} {vs:List V} (n:Nat),Reps K F α ds vs → Reps K F α (ds.take n) (vs.take n)
  | _,_,0,_ => by simp; exact reps_nil
  | [],vs,n + 1,h => by unfold Reps at h; subst h; exact reps_nil
  | d :: ds,vs,n + 1,h => by
    unfold Reps at h
    obtain ⟨v,r,hv,h1,h2⟩:=h
    subst hv
    simp only [List.take_succ_cons]
    exact reps_cons h1 (Reps.take n h2)
theorem Reps.drop:∀ {ds:List D} {vs:List V} (n:Nat),Reps K F α ds vs → Reps K F α (ds.drop n) (vs.drop n)
  | _,_,0,h => h
  | [],vs,n + 1,h => by unfold Reps at h; subst h; exact reps_nil
  | d :: ds,vs,n + 1,h => by
    unfold Reps at h
    obtain ⟨v,r,hv,h1,h2⟩:=h
    subst hv
    exact Reps.drop n h2
end
noncomputable def cA (K:PySem.W.Frag) (x:Str):Addr:=match PySem.W.nsIn K mainGlobals x with
  | some (some (.ref C)) => C
  | _ => 0
theorem cA_of {K:PySem.W.Frag} {x:Str} {C:Addr} (h:PySem.W.nsIn K mainGlobals x = some (some (.ref C))):cA K x = C:=by unfold cA; rw [h]
noncomputable def excP (a:Addr) (C:Value) (dx:Option Addr):Heap → Prop:=fun h => ∃ vs sl,h.get? a = some ⟨C,dx,.fields vs,sl⟩
noncomputable def CellOk (K:PySem.W.Frag) (α:List Addr) (F H:Hp) (a:Addr):Cell → Prop
  | .lst ds => F a = none ∧ ∃ vs,H a = some (.lst vs) ∧ Reps K F α ds vs
  | .dic ks ds => F a = none ∧ ∃ vs,H a = some (.dK ((ks.map dk).zip vs)) ∧ ks.length = ds.length ∧ Reps K F α ds vs
  | .dead => True
  | .exn C j => F a = none ∧ ∃ dx,α[j]? = some dx ∧ H a = some (.ext (excP a (.ref (cA K C)) (some dx)))
  | .exz C => F a = none ∧ H a = some (.ext (excP a (.ref (cA K C)) none))
  | .xdc nm d => F a = none ∧ ∃ v,H a = some (.xd [(nm,v)]) ∧ Rep K F α d v
  | .obj C ns ds => F a = none ∧ ∃ dx vs,H a = some (.ins (cA K C) dx (ns.zip vs)) ∧ ns.length = ds.length ∧ Reps K F α ds vs
theorem CellOk.live {K:PySem.W.Frag} {α:List Addr} {F H:Hp} {a:Addr} {c:Cell} (h:CellOk K α F H a c) (hd:c ≠ .dead):F a = none ∧ ∃ o,H a = some o:=by
  cases c with
  | dead => exact absurd rfl hd
  | lst ds => exact ⟨h.1,let ⟨_,_,z,_⟩:=h; ⟨_,z⟩⟩
  | dic ks ds => exact ⟨h.1,let ⟨_,_,z,_⟩:=h; ⟨_,z⟩⟩
  | exn C j => exact ⟨h.1,let ⟨_,_,_,z⟩:=h; ⟨_,z⟩⟩
  | exz C => exact ⟨h.1,_,h.2⟩
  | xdc nm d => exact ⟨h.1,let ⟨_,_,z,_⟩:=h; ⟨_,z⟩⟩
  | obj C ns ds => exact ⟨h.1,let ⟨_,_,_,z,_⟩:=h; ⟨_,z⟩⟩
theorem CellOk.go {K:PySem.W.Frag} {α α':List Addr} {F H F' H':Hp} {a:Addr} {c:Cell} (h:CellOk K α F H a c) (e:Ext α F α' F') (hf:c ≠ .dead → F' a = F a) (hh:c ≠ .dead → H' a = H a):CellOk K α' F' H' a c:=by
  cases c with
  | dead => trivial
  | lst ds => obtain ⟨h1,vs,h2,h3⟩:=h; exact ⟨by rw [hf (by simp)]; exact h1,vs,by rw [hh (by simp)]; exact h2,h3.mono e⟩
  | dic ks ds => obtain ⟨h1,vs,h2,hl,h3⟩:=h; exact ⟨by rw [hf (by simp)]; exact h1,vs,by rw [hh (by simp)]; exact h2,hl,h3.mono e⟩
  | exn C j => obtain ⟨h1,dx,h2,h3⟩:=h; exact ⟨by rw [hf (by simp)]; exact h1,dx,e.al _ _ h2,by rw [hh (by simp)]; exact h3⟩
  | exz C => obtain ⟨h1,h2⟩:=h; exact ⟨by rw [hf (by simp)]; exact h1,by rw [hh (by simp)]; exact h2⟩
  | xdc nm d => obtain ⟨h1,v,h2,h3⟩:=h; exact ⟨by rw [hf (by simp)]; exact h1,v,by rw [hh (by simp)]; exact h2,h3.mono e⟩
  | obj C ns ds => obtain ⟨h1,dx,vs,h2,hl,h3⟩:=h; exact ⟨by rw [hf (by simp)]; exact h1,dx,vs,by rw [hh (by simp)]; exact h2,hl,h3.mono e⟩
structure ZS where
  z:Hp
  a0:List Addr
  f0:Hp
noncomputable def ZS.up (Z:ZS) (p:Addr) (o:HO):ZS:={ Z with z:=upd Z.z p o }
theorem up_ne {Z:ZS} {p b:Addr} {o:HO} (h:b ≠ p):(Z.up p o).z b = Z.z b:=upd_ne h
theorem up_same {Z:ZS} {p:Addr} {o:HO}:(Z.up p o).z p = some o:=upd_same
structure RH (K:PySem.W.Frag) (Z:ZS) (α:List Addr) (F H:Hp) (μ:Mu):Prop where
  sub:Same F H
  len:α.length = μ.length
  cell:∀ (k:Nat) (a:Addr) (c:Cell),α[k]? = some a → μ[k]? = some c → CellOk K α F H a c
  zs:Same Z.z H
  zf:∀ (a:Addr) (o:HO),Z.z a = some o → F a = none
  zc:∀ (k:Nat) (a:Addr) (c:Cell),α[k]? = some a → μ[k]? = some c → c ≠ .dead → Z.z a = none
  dis:∀ (j k:Nat) (a:Addr) (c c':Cell),α[j]? = some a → α[k]? = some a → μ[j]? = some c → μ[k]? = some c' → c ≠ .dead → c' ≠ .dead → j = k
  ext:Ext Z.a0 Z.f0 α F
structure RS (K:PySem.W.Frag) (Z:ZS) (α:List Addr) (F H:Hp) (σ:L2.St) (ρ:En) (μ:Mu):Prop where
  hp:RH K Z α F H μ
  len:ρ.length = σ.length
  sl:∀ (i:Nat) (d:D),ρ[i]? = some (some d) → ∃ v,σ[i]? = some (some v) ∧ Rep K F α d v
theorem RS.to {K:PySem.W.Frag} {Z:ZS} {α α':List Addr} {F H F' H':Hp} {σ:L2.St} {ρ:En} {μ μ':Mu} (r:RS K Z α F H σ ρ μ) (h:RH K Z α' F' H' μ') (e:Ext α F α' F'):RS K Z α' F' H' σ ρ μ' :=
  ⟨h,r.len,fun i d hd => let ⟨v,h1,h2⟩:=r.sl i d hd; ⟨v,h1,h2.mono e⟩⟩
theorem same_upd {F H:Hp} {p:Addr} {o:HO} (hs:Same F H) (hp:H p = none):Same F (upd F p o):=fun b u e => by
  have:b ≠ p:=fun z => by subst z; rw [hs _ _ e] at hp; cases hp
  rw [upd_ne this]; exact e
theorem RH.lay {K:PySem.W.Frag} {Z:ZS} {α:List Addr} {F H:Hp} {μ:Mu} {p:Addr} (o:HO) (r:RH K Z α F H μ) (hp:H p = none):RH K Z α (upd F p o) (upd H p o) μ:=by
  have sF:=same_upd (o:=o) r.sub hp
  have ex:Ext α F α (upd F p o):=⟨sF,fun _ _ h => h⟩
  refine ⟨fun b u e => ?_,r.len,fun k a c ha hc => ?_,fun b u e => ?_,fun b u e => ?_,r.zc,r.dis,r.ext.trans ex⟩
  · by_cases hb:b = p
    · subst hb; rw [upd_same] at e ⊢; exact e
    · rw [upd_ne hb] at e ⊢; exact r.sub b u e
  · have h:=r.cell k a c ha hc
    have ne:c ≠ .dead → a ≠ p:=fun hd => let ⟨_,_,z⟩:=h.live hd; ne_of_none z hp
    exact h.go ex (fun hd => upd_ne (ne hd)) fun hd => upd_ne (ne hd)
  · rw [upd_ne (ne_of_none (r.zs b u e) hp)]; exact r.zs b u e
  · rw [upd_ne (ne_of_none (r.zs b u e) hp)]; exact r.zf b u e
theorem RH.layExt {K:PySem.W.Frag} {Z:ZS} {α:List Addr} {F H:Hp} {μ:Mu} {p:Addr} (o:HO) (r:RH K Z α F H μ) (hp:H p = none):Ext α F α (upd F p o):=⟨same_upd r.sub hp,fun _ _ h => h⟩
noncomputable def Pk (K:PySem.W.Frag) (α:List Addr) (F H:Hp):D → V → Prop
  | .lst ds,v => ∃ a vs,v = .ref a ∧ SqL K H a vs ∧ Reps K F α ds vs
  | .dic ks ds,v => ∃ a vs,v = .ref a ∧ H a = some (.dK ((ks.map dk).zip vs)) ∧ ks.length = ds.length ∧ Reps K F α ds vs
  | d,v => Rep K F α d v
theorem RH.pk {K:PySem.W.Frag} {Z:ZS} {α:List Addr} {F H:Hp} {μ:Mu} {d:D} {v:V} (r:RH K Z α F H μ) (h:Rep K F α d v):Pk K α F H (deref μ d) v:=by
  cases d with
  | non => exact h
  | bl b => exact h
  | int i => exact h
  | str x => exact h
  | tup ds => exact h
  | lst ds =>
    unfold Rep at h
    obtain ⟨a,vs,hv,hs,hr⟩:=h
    exact ⟨a,vs,hv,r.sub.seq hs,hr⟩
  | dic ks ds =>
    unfold Rep at h
    obtain ⟨a,vs,hv,hs,hl,hr⟩:=h
    exact ⟨a,vs,hv,r.sub _ _ hs,hl,hr⟩
  | ref k =>
    have h0:=h
    unfold Rep at h
    obtain ⟨a,ha,hv⟩:=h
    cases e:μ[k]? with
    | none => rw [show deref μ (.ref k) = .ref k by simp only [deref,e]]; exact h0
    | some c =>
      have hc:=r.cell k a c ha e
      cases c with
      | lst ds =>
        obtain ⟨_,vs,h2,h3⟩:=hc
        rw [show deref μ (.ref k) = .lst ds by simp only [deref,e]]
        exact ⟨a,vs,hv,SqL.of h2,h3⟩
      | dic ks ds =>
        obtain ⟨_,vs,h2,hl,h3⟩:=hc
        rw [show deref μ (.ref k) = .dic ks ds by simp only [deref,e]]
        exact ⟨a,vs,hv,h2,hl,h3⟩
      | _ => rw [show deref μ (.ref k) = .ref k by simp only [deref,e]]; exact h0
structure EXT where
  P:ZS → Exc → Mu → Prop
  mono:∀ (Z:ZS) (p:Addr) (o:HO) (x:Exc) (μ:Mu),Z.z p = none → P Z x μ → P (Z.up p o) x μ
noncomputable def GE (K:PySem.W.Frag) (EX:EXT) (Z:ZS) (α:List Addr) (F:Hp) (Q:VK):Res D → Prop
  | .ok d μ' => ∀ v α' F' H',RH K Z α' F' H' μ' → Ext α F α' F' → Rep K F' α' d v → Q v H'
  | .exc x μ' => EX.P Z x μ'
  | .bad => False
noncomputable def GB (K:PySem.W.Frag) (EX:EXT) (Z:ZS) (α:List Addr) (F:Hp) (Q:Bool → Hp → Prop):Res Bool → Prop
  | .ok b μ' => ∀ α' F' H',RH K Z α' F' H' μ' → Ext α F α' F' → Q b H'
  | .exc x μ' => EX.P Z x μ'
  | .bad => False
noncomputable def GA (K:PySem.W.Frag) (EX:EXT) (Z:ZS) (α:List Addr) (F:Hp) (Q:List V → Hp → Prop):Res (List D) → Prop
  | .ok ds μ' => ∀ vs α' F' H',RH K Z α' F' H' μ' → Ext α F α' F' → Reps K F' α' ds vs → Q vs H'
  | .exc x μ' => EX.P Z x μ'
  | .bad => False
noncomputable def GS (K:PySem.W.Frag) (EX:EXT) (Z:ZS) (α:List Addr) (F:Hp) (N:Ends):Res Out → Prop
  | .ok (.nx ρ') μ' => ∀ σ' α' F' H',RS K Z α' F' H' σ' ρ' μ' → Ext α F α' F' → N.nx σ' H'
  | .ok (.bk ρ') μ' => ∀ σ' α' F' H',RS K Z α' F' H' σ' ρ' μ' → Ext α F α' F' → N.bk σ' H'
  | .ok (.ct ρ') μ' => ∀ σ' α' F' H',RS K Z α' F' H' σ' ρ' μ' → Ext α F α' F' → N.ct σ' H'
  | .ok (.rt d) μ' => ∀ v α' F' H',RH K Z α' F' H' μ' → Ext α F α' F' → Rep K F' α' d v → N.rt v H'
  | .exc x μ' => EX.P Z x μ'
  | .bad => False
noncomputable def ME (X:Cx) (EX:EXT) (e:Expr) (m:MX):Prop:=∃ t:TE,PE X e t ∧ ∀ Z α F H σ ρ μ Q,RS X.K Z α F H σ ρ μ → GE X.K EX Z α F Q (m ρ μ) → t σ H Q
noncomputable def MT (X:Cx) (EX:EXT) (e:Expr) (m:MB):Prop:=∃ t:TT,PT X e t ∧ ∀ Z α F H σ ρ μ Q,RS X.K Z α F H σ ρ μ → GB X.K EX Z α F Q (m ρ μ) → t σ H Q
noncomputable def MW (X:Cx) (EX:EXT) (e:Expr) (m:MB):Prop:=∃ t:TT,PW X e t ∧ ∀ Z α F H σ ρ μ Q,RS X.K Z α F H σ ρ μ → GB X.K EX Z α F Q (m ρ μ) → t σ H Q
noncomputable def MA (X:Cx) (EX:EXT) (es:List Expr) (m:MAs):Prop:=∃ t:TA,PA X es t ∧ (∀ Z α F H σ ρ μ Q,RS X.K Z α F H σ ρ μ → GA X.K EX Z α F Q (m ρ μ) → t σ H Q) ∧ ∀ ρ μ ds μ',m ρ μ = .ok ds μ' → ds.length = es.length
noncomputable def MS (X:Cx) (EX:EXT) (st:Stmt) (m:MSt):Prop:=∃ t:TS,PS X st t ∧ ∀ Z α F H σ ρ μ N,RS X.K Z α F H σ ρ μ → GS X.K EX Z α F N (m ρ μ) → t N σ H
noncomputable def MSs (X:Cx) (EX:EXT) (st:List Stmt) (m:MSt):Prop:=∃ t:TS,PSs X st t ∧ ∀ Z α F H σ ρ μ N,RS X.K Z α F H σ ρ μ → GS X.K EX Z α F N (m ρ μ) → t N σ H
theorem GE.ext {K:PySem.W.Frag} {EX:EXT} {Z:ZS} {α α1:List Addr} {F F1:Hp} {Q:VK} {r:Res D} (e:Ext α F α1 F1) (h:GE K EX Z α F Q r):GE K EX Z α1 F1 Q r:=by
  cases r with
  | ok d μ => exact fun v α' F' H' R e' q => h v α' F' H' R (e.trans e') q
  | exc x μ => exact h
  | bad => exact h
theorem GB.ext {K:PySem.W.Frag} {EX:EXT} {Z:ZS} {α α1:List Addr} {F F1:Hp} {Q:Bool → Hp → Prop} {r:Res Bool} (e:Ext α F α1 F1) (h:GB K EX Z α F Q r):GB K EX Z α1 F1 Q r:=by
  cases r with
  | ok d μ => exact fun α' F' H' R e' => h α' F' H' R (e.trans e')
  | exc x μ => exact h
  | bad => exact h
theorem GS.ext {K:PySem.W.Frag} {EX:EXT} {Z:ZS} {α α1:List Addr} {F F1:Hp} {N:Ends} {r:Res Out} (e:Ext α F α1 F1) (h:GS K EX Z α F N r):GS K EX Z α1 F1 N r:=by
  cases r with
  | ok o μ =>
    cases o with
    | nx ρ => exact fun σ' α' F' H' R e' => h σ' α' F' H' R (e.trans e')
    | bk ρ => exact fun σ' α' F' H' R e' => h σ' α' F' H' R (e.trans e')
    | ct ρ => exact fun σ' α' F' H' R e' => h σ' α' F' H' R (e.trans e')
    | rt d => exact fun v α' F' H' R e' q => h v α' F' H' R (e.trans e') q
  | exc x μ => exact h
  | bad => exact h
theorem GE.step {K:PySem.W.Frag} {EX:EXT} {Z:ZS} {α:List Addr} {F:Hp} {r:Res D} {β:Type} {f:D → Mu → Res β} {G:Res β → Prop} {Q:VK} (h:G (r.bind f)) (hx:∀ x μ,G (.exc x μ) → EX.P Z x μ) (hb:¬ G .bad)
    (hk:∀ d μ' v α' F' H',RH K Z α' F' H' μ' → Ext α F α' F' → Rep K F' α' d v → G (f d μ') → Q v H'):GE K EX Z α F Q r:=by
  cases r with
  | ok d μ => exact fun v α' F' H' R e q => hk d μ v α' F' H' R e q h
  | exc x μ => exact hx _ _ h
  | bad => exact hb h
theorem GB.step {K:PySem.W.Frag} {EX:EXT} {Z:ZS} {α:List Addr} {F:Hp} {r:Res Bool} {β:Type} {f:Bool → Mu → Res β} {G:Res β → Prop} {Q:Bool → Hp → Prop} (h:G (r.bind f)) (hx:∀ x μ,G (.exc x μ) → EX.P Z x μ) (hb:¬ G .bad)
    (hk:∀ d μ' α' F' H',RH K Z α' F' H' μ' → Ext α F α' F' → G (f d μ') → Q d H'):GB K EX Z α F Q r:=by
  cases r with
  | ok d μ => exact fun α' F' H' R e => hk d μ α' F' H' R e h
  | exc x μ => exact hx _ _ h
  | bad => exact hb h
theorem GA.step {K:PySem.W.Frag} {EX:EXT} {Z:ZS} {α:List Addr} {F:Hp} {r:Res (List D)} {β:Type} {f:List D → Mu → Res β} {G:Res β → Prop} {Q:List V → Hp → Prop} (h:G (r.bind f)) (hx:∀ x μ,G (.exc x μ) → EX.P Z x μ) (hb:¬ G .bad)
    (hk:∀ d μ' v α' F' H',RH K Z α' F' H' μ' → Ext α F α' F' → Reps K F' α' d v → G (f d μ') → Q v H'):GA K EX Z α F Q r:=by
  cases r with
  | ok d μ => exact fun v α' F' H' R e q => hk d μ v α' F' H' R e q h
  | exc x μ => exact hx _ _ h
  | bad => exact hb h
theorem GA.stepE {K:PySem.W.Frag} {EX:EXT} {Z:ZS} {α:List Addr} {F:Hp} {r:Res (List D)} {β:Type} {f:List D → Mu → Res β} {G:Res β → Prop} {Q:List V → Hp → Prop} (h:G (r.bind f)) (hx:∀ x μ,G (.exc x μ) → EX.P Z x μ) (hb:¬ G .bad)
    (hk:∀ d μ' v α' F' H',r = .ok d μ' → RH K Z α' F' H' μ' → Ext α F α' F' → Reps K F' α' d v → G (f d μ') → Q v H'):GA K EX Z α F Q r:=by
  cases r with
  | ok d μ => exact fun v α' F' H' R e q => hk d μ v α' F' H' rfl R e q h
  | exc x μ => exact hx _ _ h
  | bad => exact hb h
end M
set_option Elab.async false
set_option linter.all false
set_option maxRecDepth 100000
set_option maxHeartbeats 4000000
namespace M
open PySem PySem.Spec PyProof.Rows L2
section
variable {X:Cx} {EX:EXT} {e a b c:Expr} {pos:Pos} {m ma mb mc:MX} {es rest:List Expr}
noncomputable def mVar (i:Nat):MX:=fun ρ μ => match ρ[i]? with
  | some (some d) => .ok d μ
  | _ => .bad
noncomputable def mC (d:D):MX:=fun _ μ => .ok d μ
theorem me_var {i:Nat} {x:Str} (hN:X.N[i]? = some x) (hv:Vis X.env.scope x) (hd:(x == ("__debug__":Str)) = false) (hcd:(x == ("__classdict__":Str)) = false):ME X EX (.Name x pos) (mVar i):=by
  refine ⟨tVar i,pe_var hN hv hd hcd,fun Z α F H σ ρ μ Q R g => ?_⟩
  unfold mVar at g
  cases e:ρ[i]? with
  | none => rw [e] at g; exact g.elim
  | some o =>
    cases o with
    | none => rw [e] at g; exact g.elim
    | some d =>
      rw [e] at g
      obtain ⟨v,h1,h2⟩:=R.sl i d e
      exact ⟨v,h1,g v α F H R.hp (Ext.refl _ _) h2⟩
theorem me_c {v:V} {d:D} (h:PE X e (tC v)) (r:∀ (F:Hp) (α:List Addr),Rep X.K F α d v):ME X EX e (mC d) :=
  ⟨_,h,fun Z α F H σ ρ μ Q R g => g v α F H R.hp (Ext.refl _ _) (r F α)⟩
theorem me_int {i j}:ME X EX (.Constant (.int i) j pos) (mC (.int i)):=me_c pe_int fun _ _ => by unfold Rep; rfl
theorem me_non {j}:ME X EX (.Constant .none j pos) (mC .non):=me_c pe_non fun _ _ => by unfold Rep; rfl
theorem me_str {x:Str} {cs:List Nat} {j} (h:x = ⟨cs.toArray⟩):ME X EX (.Constant (.str x) j pos) (mC (.str cs)):=me_c pe_str fun _ _ => by unfold Rep; rw [h]
noncomputable abbrev G2:=D → D → Option D
noncomputable def mBin (g:G2) (ma mb:MX):MX:=fun ρ μ => (ma ρ μ).bind fun x μ1 => (mb ρ μ1).bind fun y μ2 => ofO μ2 (g (deref μ2 x) (deref μ2 y))
noncomputable def Serves (K:PySem.W.Frag) (r:R2) (g:G2):Prop:=∀ Z α F H μ a b c x y Q,RH K Z α F H μ → Pk K α F H a x → Pk K α F H b y → g a b = some c →
  (∀ v F' H',RH K Z α F' H' μ → Same F F' → Rep K F' α c v → Q v H') → r x y H Q
noncomputable def OpM (X:Cx) (f:Value → Value → Sem Value) (g:G2):Prop:=∃ r,OpR X f r ∧ Serves X.K r g
noncomputable def Good (X:Cx) (EX:EXT) (t:TE) (m:MX):Prop:=∀ Z α F H σ ρ μ Q,RS X.K Z α F H σ ρ μ → GE X.K EX Z α F Q (m ρ μ) → t σ H Q
theorem good_two {ta tb:TE} {r:R2} {g:G2} (sa:Good X EX ta ma) (sb:Good X EX tb mb) (ho:Serves X.K r g):Good X EX (tOp r ta tb) (mBin g ma mb):=by
  intro Z α F H σ ρ μ Q R gd
  refine sa Z α F H σ ρ μ _ R (GE.step (G:=GE X.K EX Z α F Q) gd (fun _ _ h => h) (fun h => h) fun d1 μ1 v1 α1 F1 H1 R1 e1 p1 g1 => ?_)
  refine sb Z α1 F1 H1 σ ρ μ1 _ (R.to R1 e1) (GE.step (G:=GE X.K EX Z α F Q) g1 (fun _ _ h => h) (fun h => h) fun d2 μ2 v2 α2 F2 H2 R2 e2 p2 g2 => ?_)
  cases hg:g (deref μ2 d1) (deref μ2 d2) with
  | none => rw [hg] at g2; exact g2.elim
  | some c =>
    rw [hg] at g2
    exact ho Z α2 F2 H2 μ2 _ _ c v1 v2 Q R2 (R2.pk (p1.mono e2)) (R2.pk p2) hg fun v F' H' R' sf rp => g2 v α2 F' H' R' (e1.trans (e2.trans ⟨sf,fun _ _ h => h⟩)) rp
theorem me_bin {op:Operator} {g:G2} (ho:OpM X (binaryOp op) g) (ha:ME X EX a ma) (hb:ME X EX b mb):ME X EX (.BinOp a op b pos) (mBin g ma mb):=by
  obtain ⟨r,h1,h2⟩:=ho
  obtain ⟨ta,pa,sa⟩:=ha
  obtain ⟨tb,pb,sb⟩:=hb
  exact ⟨_,pe_op h1 pa pb,good_two sa sb h2⟩
theorem me_cmp {op:CmpOp} {g:G2} (ho:OpM X (compareOp op) g) (ha:ME X EX a ma) (hb:ME X EX b mb) (hm:behindInMarks op b = false):ME X EX (.Compare a [op] [b] pos) (mBin g ma mb):=by
  obtain ⟨r,h1,h2⟩:=ho
  obtain ⟨ta,pa,sa⟩:=ha
  obtain ⟨tb,pb,sb⟩:=hb
  exact ⟨_,pe_cmpR h1 pa pb hm,good_two sa sb h2⟩
noncomputable def asB (d:D):Option Bool:=match d with
  | .bl b => some b
  | _ => none
noncomputable def mTest (m:MX):MB:=fun ρ μ => (m ρ μ).bind fun d μ1 => ofO μ1 (asB d)
noncomputable def GoodB (X:Cx) (EX:EXT) (t:TT) (m:MB):Prop:=∀ Z α F H σ ρ μ Q,RS X.K Z α F H σ ρ μ → GB X.K EX Z α F Q (m ρ μ) → t σ H Q
theorem good_test {t:TE} (h:Good X EX t m):GoodB X EX (fun σ H Q => t σ H fun x H' => ∃ k,x = .bl k ∧ Q k H') (mTest m):=by
  intro Z α F H σ ρ μ Q R g
  refine h Z α F H σ ρ μ _ R (GE.step (G:=GB X.K EX Z α F Q) g (fun _ _ h => h) (fun h => h) fun d μ1 v α1 F1 H1 R1 e1 p g1 => ?_)
  cases d with
  | bl k => unfold Rep at p; exact ⟨k,p,g1 α1 F1 H1 R1 e1⟩
  | _ => exact g1.elim
theorem mt_cmp {op:CmpOp} {g:G2} (ho:OpM X (compareOp op) g) (ha:ME X EX a ma) (hb:ME X EX b mb) (hm:behindInMarks op b = false):MT X EX (.Compare a [op] [b] pos) (mTest (mBin g ma mb)):=by
  obtain ⟨r,h1,h2⟩:=ho
  obtain ⟨ta,pa,sa⟩:=ha
  obtain ⟨tb,pb,sb⟩:=hb
  exact ⟨_,pt_cmpR h1 pa pb hm,good_test (good_two sa sb h2)⟩
noncomputable def mChain (g g':G2) (ma mb mc:MX):MX:=fun ρ μ => (ma ρ μ).bind fun x μ1 => (mb ρ μ1).bind fun y μ2 => (ofO μ2 ((g (deref μ2 x) (deref μ2 y)).bind asB)).bind fun k μ3 =>
  match k with
  | true => (mc ρ μ3).bind fun z μ4 => ofO μ4 (g' (deref μ4 y) (deref μ4 z))
  | false => .ok (.bl false) μ3
theorem good_chain {ta tb tc:TE} {r r':R2} {g g':G2} (sa:Good X EX ta ma) (sb:Good X EX tb mb) (sc:Good X EX tc mc) (ho:Serves X.K r g) (ho':Serves X.K r' g') :
    Good X EX (tChain r r' ta tb tc) (mChain g g' ma mb mc):=by
  intro Z α F H σ ρ μ Q R gd
  refine sa Z α F H σ ρ μ _ R (GE.step (G:=GE X.K EX Z α F Q) gd (fun _ _ h => h) (fun h => h) fun d1 μ1 v1 α1 F1 H1 R1 e1 p1 g1 => ?_)
  refine sb Z α1 F1 H1 σ ρ μ1 _ (R.to R1 e1) (GE.step (G:=GE X.K EX Z α F Q) g1 (fun _ _ h => h) (fun h => h) fun d2 μ2 v2 α2 F2 H2 R2 e2 p2 g2 => ?_)
  cases hg:g (deref μ2 d1) (deref μ2 d2) with
  | none => rw [hg] at g2; exact g2.elim
  | some c =>
    rw [hg] at g2
    cases c with
    | bl k =>
      refine ho Z α2 F2 H2 μ2 _ _ (.bl k) v1 v2 _ R2 (R2.pk (p1.mono e2)) (R2.pk p2) hg fun v F' H' R' sf rp => ?_
      unfold Rep at rp
      refine ⟨k,rp,?_⟩
      have e3:Ext α2 F2 α2 F':=⟨sf,fun _ _ h => h⟩
      cases k with
      | false => exact g2 _ α2 F' H' R' (e1.trans (e2.trans e3)) (by unfold Rep; rfl)
      | true =>
        refine sc Z α2 F' H' σ ρ μ2 _ (R.to R' (e1.trans (e2.trans e3))) (GE.step (G:=GE X.K EX Z α F Q) g2 (fun _ _ h => h) (fun h => h) fun d4 μ4 v4 α4 F4 H4 R4 e4 p4 g4 => ?_)
        cases hg':g' (deref μ4 d2) (deref μ4 d4) with
        | none => rw [hg'] at g4; exact g4.elim
        | some c' =>
          rw [hg'] at g4
          exact ho' Z α4 F4 H4 μ4 _ _ c' v2 v4 Q R4 (R4.pk (p2.mono (e3.trans e4))) (R4.pk p4) hg' fun v F' H' R' sf rp => g4 v α4 F' H' R' (e1.trans (e2.trans (e3.trans (e4.trans ⟨sf,fun _ _ h => h⟩)))) rp
    | _ => exact g2.elim
theorem me_chain {op op':CmpOp} {g g':G2} (ho:OpM X (compareOp op) g) (ho':OpM X (compareOp op') g') (ha:ME X EX a ma) (hb:ME X EX b mb) (hc:ME X EX c mc)
    (hm:lastMarks [op,op'] [b,c] = false):ME X EX (.Compare a [op,op'] [b,c] pos) (mChain g g' ma mb mc):=by
  obtain ⟨r,h1,h2⟩:=ho
  obtain ⟨r',h1',h2'⟩:=ho'
  obtain ⟨ta,pa,sa⟩:=ha
  obtain ⟨tb,pb,sb⟩:=hb
  obtain ⟨tc,pc,sc⟩:=hc
  exact ⟨_,pe_chain h1 h1' pa pb pc hm,good_chain sa sb sc h2 h2'⟩
noncomputable def truD (d:D):Option Bool:=match d with
  | .non => some false
  | .bl b => some b
  | .int i => some (i != 0)
  | .str x => if x.length ≤ 16777216 then some (!x.isEmpty) else none
  | .tup xs => some (!xs.isEmpty)
  | .lst xs => some (!xs.isEmpty)
  | .dic ks vs => some (!vs.isEmpty)
  | .ref _ => none
noncomputable def mTru (m:MX):MB:=fun ρ μ => (m ρ μ).bind fun d μ1 => ofO μ1 (truD (deref μ1 d))
theorem isEmpty_len {β γ:Type} {l:List β} {r:List γ} (h:l.length = r.length):l.isEmpty = r.isEmpty:=by
  cases l <;> cases r <;> simp_all
theorem tru_pk {K:PySem.W.Frag} {α:List Addr} {F H:Hp} {d:D} {v:V} {k:Bool} (sub:Same F H) (h:Pk K α F H d v) (e:truD d = some k):TruV K v H k:=by
  cases d with
  | non => unfold Pk Rep at h; subst h; cases e; rfl
  | bl _ => unfold Pk Rep at h; subst h; cases e; rfl
  | int _ => unfold Pk Rep at h; subst h; cases e; rfl
  | str x =>
    unfold Pk Rep at h
    subst h
    unfold truD at e
    simp only at e
    split at e
    · rename_i hl
      cases e
      refine ⟨?_,?_⟩
      · rw [sizeLine_eq]; simpa [Str.length] using hl
      · cases x with
        | nil => rfl
        | cons c r => simp [Str.length]; omega
    · cases e
  | tup xs =>
    unfold Pk Rep at h
    obtain ⟨a,vs,rfl,hs,hr⟩:=h
    cases e
    exact .inr (.inl ⟨vs,Same.tup sub hs,by rw [isEmpty_len hr.length]⟩)
  | lst xs =>
    unfold Pk at h
    obtain ⟨a,vs,rfl,hs,hr⟩:=h
    cases e
    exact .inl ⟨vs,hs,by rw [isEmpty_len hr.length]⟩
  | dic ks xs =>
    unfold Pk at h
    obtain ⟨a,vs,rfl,hs,hl,hr⟩:=h
    cases e
    refine .inr (.inr ⟨_,hs,?_⟩)
    congr 1
    refine isEmpty_len ?_
    have:=hr.length
    simp
    omega
  | ref _ => cases e
theorem mt_truth (ha:ME X EX a m) (he:∀ whole,isTrue a X.env whole = (do let v ← whole; standAt a.pos; holding [v] (truthy v))):MT X EX a (mTru m):=by
  obtain ⟨t,p,s⟩:=ha
  refine ⟨_,pt_truth p he,fun Z α F H σ ρ μ Q R g => ?_⟩
  refine s Z α F H σ ρ μ _ R (GE.step (G:=GB X.K EX Z α F Q) g (fun _ _ h => h) (fun h => h) fun d μ1 v α1 F1 H1 R1 e1 p g1 => ?_)
  cases hk:truD (deref μ1 d) with
  | none => rw [hk] at g1; exact g1.elim
  | some k => rw [hk] at g1; exact ⟨k,tru_pk R1.sub (R1.pk p) hk,g1 α1 F1 H1 R1 e1⟩
variable {n na nb:MB}
noncomputable def mAnd (m n:MB):MB:=fun ρ μ => (m ρ μ).bind fun k μ1 => match k with
  | true => n ρ μ1
  | false => .ok false μ1
noncomputable def mOr (m n:MB):MB:=fun ρ μ => (m ρ μ).bind fun k μ1 => match k with
  | true => .ok true μ1
  | false => n ρ μ1
noncomputable def mNot (m:MB):MB:=fun ρ μ => (m ρ μ).bind fun k μ1 => .ok (!k) μ1
theorem MW.t (h:MW X EX e n):MT X EX e n:=let ⟨t,p,s⟩:=h; ⟨t,p.pt,s⟩
theorem mw_and1 (ha:MT X EX a na):MW X EX (.BoolOp .And [a] pos) na:=let ⟨t,p,s⟩:=ha; ⟨t,pw_and1 p,s⟩
theorem mw_or1 (ha:MT X EX a na):MW X EX (.BoolOp .Or [a] pos) na:=let ⟨t,p,s⟩:=ha; ⟨t,pw_or1 p,s⟩
theorem mw_and (ha:MT X EX a na) (hb:MW X EX (.BoolOp .And (b :: rest) pos) nb):MW X EX (.BoolOp .And (a :: b :: rest) pos) (mAnd na nb):=by
  obtain ⟨ta,pa,sa⟩:=ha
  obtain ⟨tb,pb,sb⟩:=hb
  refine ⟨_,pw_and pa pb,fun Z α F H σ ρ μ Q R g => ?_⟩
  refine sa Z α F H σ ρ μ _ R (GB.step (G:=GB X.K EX Z α F Q) g (fun _ _ h => h) (fun h => h) fun k μ1 α1 F1 H1 R1 e1 g1 => ?_)
  cases k with
  | true => exact (if_pos rfl).mpr (sb Z α1 F1 H1 σ ρ μ1 Q (R.to R1 e1) (GB.ext e1 g1))
  | false => exact g1 α1 F1 H1 R1 e1
theorem mw_or (ha:MT X EX a na) (hb:MW X EX (.BoolOp .Or (b :: rest) pos) nb):MW X EX (.BoolOp .Or (a :: b :: rest) pos) (mOr na nb):=by
  obtain ⟨ta,pa,sa⟩:=ha
  obtain ⟨tb,pb,sb⟩:=hb
  refine ⟨_,pw_or pa pb,fun Z α F H σ ρ μ Q R g => ?_⟩
  refine sa Z α F H σ ρ μ _ R (GB.step (G:=GB X.K EX Z α F Q) g (fun _ _ h => h) (fun h => h) fun k μ1 α1 F1 H1 R1 e1 g1 => ?_)
  cases k with
  | true => exact g1 α1 F1 H1 R1 e1
  | false => exact sb Z α1 F1 H1 σ ρ μ1 Q (R.to R1 e1) (GB.ext e1 g1)
theorem mt_not (ha:MT X EX a na):MT X EX (.UnaryOp .Not a pos) (mNot na):=by
  obtain ⟨ta,pa,sa⟩:=ha
  refine ⟨_,pt_not pa,fun Z α F H σ ρ μ Q R g => ?_⟩
  exact sa Z α F H σ ρ μ _ R (GB.step (G:=GB X.K EX Z α F Q) g (fun _ _ h => h) (fun h => h) fun k μ1 α1 F1 H1 R1 e1 g1 => g1 α1 F1 H1 R1 e1)
noncomputable def mAndV (ma mb:MX):MX:=fun ρ μ => (ma ρ μ).bind fun x μ1 => match x with
  | .bl true => mb ρ μ1
  | .bl false => .ok (.bl false) μ1
  | _ => .bad
noncomputable def mOrV (ma mb:MX):MX:=fun ρ μ => (ma ρ μ).bind fun x μ1 => match x with
  | .bl true => .ok (.bl true) μ1
  | .bl false => mb ρ μ1
  | _ => .bad
noncomputable def mNotV (ma:MX):MX:=fun ρ μ => (ma ρ μ).bind fun x μ1 => match x with
  | .bl k => .ok (.bl (!k)) μ1
  | _ => .bad
theorem me_one {op} (h:ME X EX a m):ME X EX (.BoolOp op [a] pos) m:=let ⟨t,p,s⟩:=h; ⟨t,pe_one p,s⟩
theorem me_and (ha:ME X EX a ma) (hb:ME X EX (.BoolOp .And (b :: rest) pos) mb):ME X EX (.BoolOp .And (a :: b :: rest) pos) (mAndV ma mb):=by
  obtain ⟨ta,pa,sa⟩:=ha
  obtain ⟨tb,pb,sb⟩:=hb
  refine ⟨_,pe_and pa pb,fun Z α F H σ ρ μ Q R g => ?_⟩
  refine sa Z α F H σ ρ μ _ R (GE.step (G:=GE X.K EX Z α F Q) g (fun _ _ h => h) (fun h => h) fun d μ1 v α1 F1 H1 R1 e1 p g1 => ?_)
  cases d with
  | bl k =>
    unfold Rep at p
    refine ⟨k,p,?_⟩
    cases k with
    | true => exact sb Z α1 F1 H1 σ ρ μ1 Q (R.to R1 e1) (GE.ext e1 g1)
    | false => exact g1 _ α1 F1 H1 R1 e1 (by unfold Rep; rfl)
  | _ => exact g1.elim
theorem me_or (ha:ME X EX a ma) (hb:ME X EX (.BoolOp .Or (b :: rest) pos) mb):ME X EX (.BoolOp .Or (a :: b :: rest) pos) (mOrV ma mb):=by
  obtain ⟨ta,pa,sa⟩:=ha
  obtain ⟨tb,pb,sb⟩:=hb
  refine ⟨_,pe_or pa pb,fun Z α F H σ ρ μ Q R g => ?_⟩
  refine sa Z α F H σ ρ μ _ R (GE.step (G:=GE X.K EX Z α F Q) g (fun _ _ h => h) (fun h => h) fun d μ1 v α1 F1 H1 R1 e1 p g1 => ?_)
  cases d with
  | bl k =>
    unfold Rep at p
    refine ⟨k,p,?_⟩
    cases k with
    | false => exact sb Z α1 F1 H1 σ ρ μ1 Q (R.to R1 e1) (GE.ext e1 g1)
    | true => exact g1 _ α1 F1 H1 R1 e1 (by unfold Rep; rfl)
  | _ => exact g1.elim
theorem me_not (ha:ME X EX a ma):ME X EX (.UnaryOp .Not a pos) (mNotV ma):=by
  obtain ⟨ta,pa,sa⟩:=ha
  refine ⟨_,pe_not pa,fun Z α F H σ ρ μ Q R g => ?_⟩
  refine sa Z α F H σ ρ μ _ R (GE.step (G:=GE X.K EX Z α F Q) g (fun _ _ h => h) (fun h => h) fun d μ1 v α1 F1 H1 R1 e1 p g1 => ?_)
  cases d with
  | bl k => unfold Rep at p; exact ⟨k,p,g1 _ α1 F1 H1 R1 e1 (by unfold Rep; rfl)⟩
  | _ => exact g1.elim
noncomputable def mIf (n:MB) (ma mb:MX):MX:=fun ρ μ => (n ρ μ).bind fun k μ1 => match k with
  | true => ma ρ μ1
  | false => mb ρ μ1
theorem me_if (hc:MT X EX c n) (ha:ME X EX a ma) (hb:ME X EX b mb):ME X EX (.IfExp c a b pos) (mIf n ma mb):=by
  obtain ⟨tc,pc,sc⟩:=hc
  obtain ⟨ta,pa,sa⟩:=ha
  obtain ⟨tb,pb,sb⟩:=hb
  refine ⟨_,pe_ifExp pc pa pb,fun Z α F H σ ρ μ Q R g => ?_⟩
  refine sc Z α F H σ ρ μ _ R (GB.step (G:=GE X.K EX Z α F Q) g (fun _ _ h => h) (fun h => h) fun k μ1 α1 F1 H1 R1 e1 g1 => ?_)
  cases k with
  | true => exact sa Z α1 F1 H1 σ ρ μ1 Q (R.to R1 e1) (GE.ext e1 g1)
  | false => exact sb Z α1 F1 H1 σ ρ μ1 Q (R.to R1 e1) (GE.ext e1 g1)
variable {ms:MAs}
noncomputable def mNil:MAs:=fun _ μ => .ok [] μ
noncomputable def mCons (m:MX) (ms:MAs):MAs:=fun ρ μ => (m ρ μ).bind fun d μ1 => (ms ρ μ1).bind fun ds μ2 => .ok (d :: ds) μ2
theorem ma_nil:MA X EX [] mNil:=⟨_,pa_nil,fun Z α F H σ ρ μ Q R g => g [] α F H R.hp (Ext.refl _ _) reps_nil,fun ρ μ ds μ' h => by cases h; rfl⟩
theorem ma_cons (ha:ME X EX e m) (hr:MA X EX es ms) (hs:starEach (e :: es) X.env = (false,eval e X.env) :: starEach es X.env):MA X EX (e :: es) (mCons m ms):=by
  obtain ⟨ta,pa,sa⟩:=ha
  obtain ⟨tr,pr,sr,lr⟩:=hr
  refine ⟨_,pa_cons pa pr hs,fun Z α F H σ ρ μ Q R g => ?_,fun ρ μ ds μ' h => ?_⟩
  rotate_left
  · unfold mCons at h
    cases e1:m ρ μ with
    | ok d μ1 =>
      rw [e1] at h
      simp only [bind_ok] at h
      cases e2:ms ρ μ1 with
      | ok dr μ2 =>
        rw [e2] at h
        simp only [bind_ok] at h
        cases h
        simp [lr _ _ _ _ e2]
      | exc x μ2 => rw [e2] at h; cases h
      | bad => rw [e2] at h; cases h
    | exc x μ1 => rw [e1] at h; cases h
    | bad => rw [e1] at h; cases h
  refine sa Z α F H σ ρ μ _ R (GE.step (G:=GA X.K EX Z α F Q) g (fun _ _ h => h) (fun h => h) fun d μ1 v α1 F1 H1 R1 e1 p g1 => ?_)
  refine sr Z α1 F1 H1 σ ρ μ1 _ (R.to R1 e1) (GA.step (G:=GA X.K EX Z α F Q) g1 (fun _ _ h => h) (fun h => h) fun ds μ2 vs α2 F2 H2 R2 e2 p2 g2 => ?_)
  exact g2 (v :: vs) α2 F2 H2 R2 (e1.trans e2) (reps_cons (p.mono e2) p2)
noncomputable def mTup (ms:MAs):MX:=fun ρ μ => (ms ρ μ).bind fun ds μ1 => .ok (.tup ds) μ1
noncomputable def mLst (ms:MAs):MX:=fun ρ μ => (ms ρ μ).bind fun ds μ1 => .ok (.lst ds) μ1
theorem lay_tup {K:PySem.W.Frag} {Z:ZS} {F H:Hp} {α:List Addr} {μ:Mu} {ds:List D} {vs:List V} {p:Addr} (R:RH K Z α F H μ) (r:Reps K F α ds vs) (hp:H p = none) :
    RH K Z α (upd F p (.tup vs)) (upd H p (.tup vs)) μ ∧ Same F (upd F p (.tup vs)) ∧ Rep K (upd F p (.tup vs)) α (.tup ds) (.ref p) :=
  ⟨R.lay _ hp,same_upd R.sub hp,by unfold Rep; exact ⟨p,vs,rfl,SqT.of upd_same,r.mono (R.layExt _ hp)⟩⟩
theorem lay_lst {K:PySem.W.Frag} {Z:ZS} {F H:Hp} {α:List Addr} {μ:Mu} {ds:List D} {vs:List V} {p:Addr} (R:RH K Z α F H μ) (r:Reps K F α ds vs) (hp:H p = none) :
    RH K Z α (upd F p (.lst vs)) (upd H p (.lst vs)) μ ∧ Same F (upd F p (.lst vs)) ∧ Rep K (upd F p (.lst vs)) α (.lst ds) (.ref p) :=
  ⟨R.lay _ hp,same_upd R.sub hp,by unfold Rep; exact ⟨p,vs,rfl,SqL.of upd_same,r.mono (R.layExt _ hp)⟩⟩
theorem me_tup {x1} (h:MA X EX es ms) (hl:es.length ≤ 16777216:=by decide):ME X EX (.Tuple es x1 pos) (mTup ms):=by
  obtain ⟨t,p,s,l⟩:=h
  refine ⟨_,pe_tup p,fun Z α F H σ ρ μ Q R g => ?_⟩
  refine s Z α F H σ ρ μ _ R (GA.stepE (G:=GE X.K EX Z α F Q) g (fun _ _ h => h) (fun h => h) fun ds μ1 vs α1 F1 H1 hm R1 e1 p1 g1 => ?_)
  refine ⟨by rw [← p1.length,sizeLine_eq,l _ _ _ _ hm]; exact hl,fun q hq => ?_⟩
  obtain ⟨a1,a2,a3⟩:=lay_tup R1 p1 hq
  exact g1 _ α1 _ _ a1 (e1.trans ⟨a2,fun _ _ h => h⟩) a3
theorem me_lst (h:MA X EX es ms) (hl:es.length ≤ 16777216:=by decide):ME X EX (.List es pos) (mLst ms):=by
  obtain ⟨t,p,s,l⟩:=h
  refine ⟨_,pe_lst p,fun Z α F H σ ρ μ Q R g => ?_⟩
  refine s Z α F H σ ρ μ _ R (GA.stepE (G:=GE X.K EX Z α F Q) g (fun _ _ h => h) (fun h => h) fun ds μ1 vs α1 F1 H1 hm R1 e1 p1 g1 => ?_)
  refine ⟨by rw [← p1.length,sizeLine_eq,l _ _ _ _ hm]; exact hl,fun q hq => ?_⟩
  obtain ⟨a1,a2,a3⟩:=lay_lst R1 p1 hq
  exact g1 _ α1 _ _ a1 (e1.trans ⟨a2,fun _ _ h => h⟩) a3
noncomputable def gIdx:G2:=fun a b => match a,b with
  | .lst ds,.int i => atI ds i
  | .tup ds,.int i => atI ds i
  | .str cs,.int i => if cs.length ≤ 16777216 then (atI cs i).map fun c => .str [c] else none
  | _,_ => none
theorem reps_atI {K:PySem.W.Frag} {F:Hp} {α:List Addr} {ds:List D} {vs:List V} {i:Int} {d:D} (r:Reps K F α ds vs) (h:atI ds i = some d):∃ v,atI vs i = some v ∧ Rep K F α d v:=by
  unfold atI at h ⊢
  rw [← r.length]
  cases e:ixN ds.length i with
  | none => rw [e] at h; cases h
  | some j => rw [e] at h; exact r.get h
theorem serves_idx {K:PySem.W.Frag}:Serves K (rIx K) gIdx:=by
  intro Z α F H μ a b c x y Q R ha hb hg k
  cases b with
  | int i =>
    unfold Pk Rep at hb
    subst hb
    cases a with
    | lst ds =>
      obtain ⟨p,vs,rfl,hs,hr⟩:=ha
      obtain ⟨v,h1,h2⟩:=reps_atI hr hg
      exact .inl ⟨p,vs,i,v,rfl,rfl,hs,h1,k v F H R (Same.refl _) h2⟩
    | tup ds =>
      unfold Pk Rep at ha
      obtain ⟨p,vs,rfl,hs,hr⟩:=ha
      obtain ⟨v,h1,h2⟩:=reps_atI hr hg
      exact .inr (.inl ⟨p,vs,i,v,rfl,rfl,Same.tup R.sub hs,h1,k v F H R (Same.refl _) h2⟩)
    | str cs =>
      unfold Pk Rep at ha
      subst ha
      simp only [gIdx] at hg
      split at hg
      · rename_i hl
        cases e:atI cs i with
        | none => rw [e] at hg; cases hg
        | some c' =>
          rw [e] at hg
          cases hg
          exact .inr (.inr ⟨_,i,c',rfl,rfl,by rw [sizeLine_eq]; simpa [Str.length] using hl,by simpa using e,k _ F H R (Same.refl _) (by unfold Rep; rfl)⟩)
      · cases hg
    | _ => cases hg
  | _ => cases a <;> cases hg
theorem me_idx (ha:ME X EX a ma) (hb:ME X EX b mb) (hs:PlainIx b):ME X EX (.Subscript a b pos) (mBin gIdx ma mb):=by
  obtain ⟨ta,pa,sa⟩:=ha
  obtain ⟨tb,pb,sb⟩:=hb
  exact ⟨_,pe_ix ix_seq pa pb hs,good_two sa sb serves_idx⟩
end
end M
set_option Elab.async false
set_option linter.all false
set_option maxRecDepth 100000
set_option maxHeartbeats 4000000
namespace M
open PySem PySem.Spec PyProof.Rows L2
theorem rep_int {K:PySem.W.Frag} {F:Hp} {α:List Addr} (i:Int):Rep K F α (.int i) (.int i):=by unfold Rep; rfl
theorem rep_bl {K:PySem.W.Frag} {F:Hp} {α:List Addr} (i:Bool):Rep K F α (.bl i) (.bl i):=by unfold Rep; rfl
theorem rep_non {K:PySem.W.Frag} {F:Hp} {α:List Addr}:Rep K F α .non .non:=by unfold Rep; rfl
theorem rep_str {K:PySem.W.Frag} {F:Hp} {α:List Addr} (x:List Nat):Rep K F α (.str x) (.str ⟨x.toArray⟩):=by unfold Rep; rfl
theorem pk_int {K:PySem.W.Frag} {F H:Hp} {α:List Addr} {i:Int} {v:V} (h:Pk K α F H (.int i) v):v = .int i:=by unfold Pk Rep at h; exact h
theorem pk_bl {K:PySem.W.Frag} {F H:Hp} {α:List Addr} {i:Bool} {v:V} (h:Pk K α F H (.bl i) v):v = .bl i:=by unfold Pk Rep at h; exact h
theorem pk_str {K:PySem.W.Frag} {F H:Hp} {α:List Addr} {x:List Nat} {v:V} (h:Pk K α F H (.str x) v):v = .str ⟨x.toArray⟩:=by unfold Pk Rep at h; exact h
theorem pk_non {K:PySem.W.Frag} {F H:Hp} {α:List Addr} {v:V} (h:Pk K α F H .non v):v = .non:=by unfold Pk Rep at h; exact h
noncomputable def gInt (h:Int → Int → Option Int):G2:=fun a b => match a,b with
  | .int i,.int j => (h i j).map .int
  | _,_ => none
noncomputable def gIntB (h:Int → Int → Bool):G2:=fun a b => match a,b with
  | .int i,.int j => some (.bl (h i j))
  | _,_ => none
section
variable {X:Cx} {EX:EXT}
theorem sv_int {K:PySem.W.Frag} {C:Int → Int → Prop} [inst:∀ i j,Decidable (C i j)] {h:Int → Int → Int}:Serves K (rI C fun i j => .int (h i j)) (gInt fun i j => if C i j then some (h i j) else none):=by
  intro Z α F H μ a b c x y Q R ha hb hg k
  cases a with
  | int i =>
    cases b with
    | int j =>
      have ha:=pk_int ha
      have hb:=pk_int hb
      simp only [gInt] at hg
      by_cases hc:C i j
      · rw [if_pos hc] at hg
        cases hg
        exact ⟨i,j,ha,hb,hc,k _ F H R (Same.refl _) (rep_int _)⟩
      · rw [if_neg hc] at hg; cases hg
    | _ => cases hg
  | _ => cases hg
theorem sv_int0 {K:PySem.W.Frag} {h:Int → Int → Int}:Serves K (rI0 fun i j => .int (h i j)) (gInt fun i j => some (h i j)):=by
  intro Z α F H μ a b c x y Q R ha hb hg k
  cases a with
  | int i =>
    cases b with
    | int j =>
      have ha:=pk_int ha
      have hb:=pk_int hb
      cases hg
      exact ⟨i,j,ha,hb,k _ F H R (Same.refl _) (rep_int _)⟩
    | _ => cases hg
  | _ => cases hg
theorem sv_intB {K:PySem.W.Frag} {h:Int → Int → Bool}:Serves K (rI0 fun i j => .bl (h i j)) (gIntB h):=by
  intro Z α F H μ a b c x y Q R ha hb hg k
  cases a with
  | int i =>
    cases b with
    | int j =>
      have ha:=pk_int ha
      have hb:=pk_int hb
      cases hg
      exact ⟨i,j,ha,hb,k _ F H R (Same.refl _) (rep_bl _)⟩
    | _ => cases hg
  | _ => cases hg
noncomputable def gOr (g h:G2):G2:=fun a b => match g a b with
  | some c => some c
  | none => h a b
theorem Serves.or {K:PySem.W.Frag} {r r':R2} {g g':G2} (h:Serves K r g) (h':Serves K r' g'):Serves K (fun x y H Q => r x y H Q ∨ r' x y H Q) (gOr g g'):=by
  intro Z α F H μ a b c x y Q R ha hb hg k
  unfold gOr at hg
  cases e:g a b with
  | some d => rw [e] at hg; have hg:d = c:=Option.some.inj hg; subst hg; exact .inl (h Z α F H μ a b _ x y Q R ha hb e k)
  | none => rw [e] at hg; exact .inr (h' Z α F H μ a b c x y Q R ha hb hg k)
theorem OpM.or {f:Value → Value → Sem Value} {g g':G2} (h:OpM X f g) (h':OpM X f g'):OpM X f (gOr g g'):=by
  obtain ⟨r,a,b⟩:=h
  obtain ⟨r',a',b'⟩:=h'
  exact ⟨_,a.or a',b.or b'⟩
theorem OpM.as {f:Value → Value → Sem Value} {g g':G2} (h:OpM X f g) (e:∀ a b c,g' a b = some c → g a b = some c):OpM X f g':=by
  obtain ⟨r,a,b⟩:=h
  exact ⟨r,a,fun Z α F H μ p q c x y Q R ha hb hg k => b Z α F H μ p q c x y Q R ha hb (e p q c hg) k⟩
noncomputable def gAddT:G2:=fun a b => match a,b with
  | .tup xs,.tup ys => if decide (xs.length + ys.length ≤ 16777216) && !xs.isEmpty then some (.tup (xs ++ ys)) else none
  | _,_ => none
noncomputable def gAddT0:G2:=fun a b => match a,b with
  | .tup [],.tup ys => some (.tup ys)
  | _,_ => none
noncomputable def gAddL:G2:=fun a b => match a,b with
  | .lst xs,.lst ys => if xs.length + ys.length ≤ 16777216 then some (.lst (xs ++ ys)) else none
  | _,_ => none
noncomputable def gAddS:G2:=fun a b => match a,b with
  | .str xs,.str ys => if xs.length + ys.length ≤ 16777216 then some (.str (xs ++ ys)) else none
  | _,_ => none
noncomputable def gAdd:G2:=fun a b => match a,b with
  | .int i,.int j => some (.int (i + j))
  | .str xs,.str ys => if xs.length + ys.length ≤ 16777216 then some (.str (xs ++ ys)) else none
  | .tup xs,.tup ys => if xs.length + ys.length ≤ 16777216 then some (.tup (xs ++ ys)) else none
  | .lst xs,.lst ys => if xs.length + ys.length ≤ 16777216 then some (.lst (xs ++ ys)) else none
  | _,_ => none
theorem str_append (x y:List Nat):(⟨x.toArray⟩:Str) ++ (⟨y.toArray⟩:Str) = ⟨(x ++ y).toArray⟩:=by
  show Str.append _ _ = _
  unfold Str.append
  simp
theorem om_addS:OpM X (binaryOp .Add) gAddS:=by
  refine ⟨_,op_add_str,fun Z α F H μ a b c x y Q R ha hb hg k => ?_⟩
  cases a with
  | str i =>
    cases b with
    | str j =>
      have ha:=pk_str ha
      have hb:=pk_str hb
      simp only [gAddS] at hg
      split at hg
      · rename_i hl
        cases hg
        refine ⟨_,_,ha,hb,by rw [sizeLine_eq]; simpa [Str.length] using hl,?_⟩
        rw [str_append]
        exact k _ F H R (Same.refl _) (rep_str _)
      · cases hg
    | _ => cases hg
  | _ => cases hg
theorem om_addT:OpM X (binaryOp .Add) gAddT:=by
  refine ⟨_,op_catT,fun Z α F H μ a b c x y Q R ha hb hg k => ?_⟩
  cases a with
  | tup i =>
    cases b with
    | tup j =>
      have ha0:=ha
      unfold Pk Rep at ha hb
      obtain ⟨p,vs,rfl,hs,hr⟩:=ha
      obtain ⟨p',vs',rfl,hs',hr'⟩:=hb
      simp only [gAddT] at hg
      split at hg
      · rename_i hl
        cases hg
        rw [Bool.and_eq_true] at hl
        have h1:=of_decide_eq_true hl.1
        refine ⟨p,p',vs,vs',rfl,rfl,Same.tup R.sub hs,Same.tup R.sub hs',?_,by rw [sizeLine_eq,← hr.length,← hr'.length]; exact h1,fun he => ?_,fun _ q hq => ?_⟩
        · intro he
          subst he
          have:=hr.length
          cases i with
          | nil => simp at hl
          | cons _ _ => simp at this
        · subst he
          have:=hr'.length
          cases j with
          | nil => rw [List.append_nil] at k; exact k _ F H R (Same.refl _) ha0
          | cons _ _ => simp at this
        · obtain ⟨a1,a2,a3⟩:=lay_tup R (hr.append hr') hq
          exact k _ _ _ a1 a2 a3
      · cases hg
    | _ => cases hg
  | _ => cases hg
noncomputable def rCatL (K:PySem.W.Frag):R2:=fun x y H Q => ∃ l b xs zs,x = .ref l ∧ y = .ref b ∧ SqL K H l xs ∧ SqL K H b zs ∧ xs.length + zs.length ≤ sizeLine ∧ ∀ p,H p = none → Q (.ref p) (upd H p (.lst (xs ++ zs)))
theorem op_catL:OpR X (binaryOp .Add) (rCatL X.K):=by
  intro pins s σ H x y v u Q I rx ry h
  obtain ⟨l,b,xs,zs,rfl,rfl,hH,hB,hz,q⟩:=h
  cases rx
  cases ry
  obtain ⟨its,r,pl,_⟩:=I.list hH
  obtain ⟨its2,r2,pl2,_⟩:=I.list hB
  obtain ⟨m,F⟩:=I.fr
  have e1:=r.length
  have e2:=r2.length
  obtain ⟨⟨cls,dd,data,sl⟩,n,ho,hc,hd,hs⟩:=pl
  obtain ⟨⟨cls2,dd2,data2,sl2⟩,n2,ho2,hc2,hd2,hs2⟩:=pl2
  simp only at hc hd hs hc2 hd2 hs2
  subst hc hd hs hc2 hd2 hs2
  have ea:its.toArray ++ its2.toArray = (its ++ its2).toArray:=by simp
  refine concat_meets ⟨_,ho,rfl⟩ ⟨_,ho2,rfl⟩ noFill_list_add seq_list_add PySem.F.slot_list_add PySem.F.entry_list_add (PySem.F.args_list_add_2 _ _) (list_addW l b its.toArray its2.toArray n n2 _ _ sl sl2 (by simp only [List.size_toArray]; omega)) ⟨ho,ho2,?_⟩
  rw [ea]
  exact ⟨.ref _,_,I.lnew (t':=s.toks) (r.append r2) (by rw [List.length_append]; omega),rfl,q _ I.fresh⟩
theorem op_catT0:OpR X (binaryOp .Add) (fun x y H Q => ∃ a b ys,x = .ref a ∧ y = .ref b ∧ SqT X.K H a [] ∧ SqT X.K H b ys ∧ Q (.ref b) H):=by
  intro pins s σ H x y v u Q I rx ry h
  obtain ⟨a,b,ys,rfl,rfl,ha,hb,q⟩:=h
  cases rx
  cases ry
  obtain ⟨its,r1,p1,_⟩:=I.tuple ha
  obtain ⟨its2,r2,p2,_⟩:=I.tuple hb
  have e1:its.length = 0:=r1.length.symm
  obtain rfl:=List.length_eq_zero_iff.mp e1
  obtain ⟨o1,g1,c1,n1,d1⟩:=p1
  obtain ⟨o2,g2,c2,n2,d2⟩:=p2
  obtain ⟨k1,f1,w1,z1⟩:=o1
  obtain ⟨k2,f2,w2,z2⟩:=o2
  dsimp only at c1 d1 c2 d2
  subst c1 d1 c2 d2
  exact concat_meets ⟨_,g1,rfl⟩ ⟨_,g2,rfl⟩ noFill_tuple_add seq_tuple_add PySem.F.slot_tuple_add PySem.F.entry_tuple_add (PySem.F.args_tuple_add_2 _ _)
    (tuple_addW0 a b #[] its2.toArray n1 n2 f1 f2 z1 z2 rfl) ⟨g1,g2,.ref b,H,I,rfl,q⟩
theorem om_addT0:OpM X (binaryOp .Add) gAddT0:=by
  refine ⟨_,op_catT0,fun Z α F H μ a b c x y Q R ha hb hg k => ?_⟩
  cases a with
  | tup i =>
    cases i with
    | nil =>
      cases b with
      | tup j =>
        have hb0:=hb
        unfold Pk Rep at ha hb
        obtain ⟨p,vs,rfl,hs,hr⟩:=ha
        obtain ⟨p',vs',rfl,hs',hr'⟩:=hb
        cases hg
        have:=hr.length
        cases vs with
        | nil => exact ⟨p,p',vs',rfl,rfl,Same.tup R.sub hs,Same.tup R.sub hs',k _ F H R (Same.refl _) hb0⟩
        | cons _ _ => simp at this
      | _ => cases hg
    | cons _ _ => cases b <;> cases hg
  | _ => cases hg
theorem om_addL:OpM X (binaryOp .Add) gAddL:=by
  refine ⟨_,op_catL,fun Z α F H μ a b c x y Q R ha hb hg k => ?_⟩
  cases a with
  | lst i =>
    cases b with
    | lst j =>
      unfold Pk at ha hb
      obtain ⟨p,vs,rfl,hs,hr⟩:=ha
      obtain ⟨p',vs',rfl,hs',hr'⟩:=hb
      simp only [gAddL] at hg
      split at hg
      · rename_i hl
        cases hg
        refine ⟨p,p',vs,vs',rfl,rfl,hs,hs',by rw [sizeLine_eq,← hr.length,← hr'.length]; exact hl,fun q hq => ?_⟩
        obtain ⟨a1,a2,a3⟩:=lay_lst R (hr.append hr') hq
        exact k _ _ _ a1 a2 a3
      · cases hg
    | _ => cases hg
  | _ => cases hg
theorem om_add:OpM X (binaryOp .Add) gAdd:=by
  have h0:OpM X (binaryOp .Add) (gInt fun i j => some (i + j)):=⟨_,op_add,sv_int0⟩
  refine OpM.as (OpM.or h0 (OpM.or om_addS (OpM.or om_addT0 (OpM.or om_addT om_addL)))) fun a b c h => ?_
  cases a with
  | int i => cases b with
    | int j => exact h
    | _ => cases h
  | str i => cases b with
    | str j => have h:gAddS (.str i) (.str j) = some c:=h; simp only [gOr,gInt,h]
    | _ => cases h
  | tup i => cases b with
    | tup j =>
      cases i with
      | nil =>
        simp only [gAdd] at h
        split at h
        · cases h; rfl
        · cases h
      | cons i0 ir =>
        simp only [gAdd] at h
        split at h
        · rename_i hl
          cases h
          have e:gAddT (.tup (i0 :: ir)) (.tup j) = some (.tup (i0 :: ir ++ j)):=by
            simp only [gAddT,List.isEmpty_cons,Bool.not_false,Bool.and_true]
            rw [if_pos (by simpa using hl)]
          simp only [gOr,gInt,gAddS,gAddT0,e]
        · cases h
    | _ => cases h
  | lst i => cases b with
    | lst j => exact h
    | _ => cases h
  | _ => cases h
noncomputable def gSub:G2:=gInt fun i j => some (i - j)
theorem om_sub:OpM X (binaryOp .Sub) gSub:=⟨_,op_sub,sv_int0⟩
instance (i j:Int):Decidable (CMul i j):=by unfold CMul; infer_instance
instance (i j:Int):Decidable (CPow i j):=by unfold CPow; infer_instance
noncomputable def gMul:G2:=gInt fun i j => if CMul i j then some (i * j) else none
theorem om_mul:OpM X (binaryOp .Mult) gMul:=⟨_,op_mul,sv_int⟩
noncomputable def CDv (i j:Int):Prop:=0 < j ∧ j < 18446744073709551616
instance (i j:Int):Decidable (CDv i j):=by unfold CDv; infer_instance
theorem op_div:OpR X (binaryOp .FloorDiv) (rI CDv fun i j => .int (i / j)):=opI fun i j _ _ _ _ _ hc q => by
  have h1:(0:Int) < j:=hc.1
  have h2:j < 18446744073709551616:=hc.2
  refine floordiv_int (by omega) (by rw [Int.fdiv_eq_ediv_of_nonneg i (by omega)]; exact q) (.inl (PyProof.noPylong_of_log2 ?_))
  have h3:j.natAbs < 2 ^ 64:=by omega
  have h4:j.natAbs ≠ 0:=by omega
  have:=(Nat.log2_lt h4).mpr h3
  omega
noncomputable def gDiv:G2:=gInt fun i j => if CDv i j then some (i / j) else none
theorem om_div:OpM X (binaryOp .FloorDiv) gDiv:=⟨_,op_div,sv_int⟩
noncomputable def gMod:G2:=gInt fun i j => if 0 < j then some (i % j) else none
theorem om_mod:OpM X (binaryOp .Mod) gMod:=⟨_,op_mod,sv_int⟩
noncomputable def gLt:G2:=gIntB fun i j => decide (i < j)
noncomputable def gLe:G2:=gIntB fun i j => decide (i ≤ j)
noncomputable def gGt:G2:=gIntB fun i j => decide (j < i)
noncomputable def gGe:G2:=gIntB fun i j => decide (j ≤ i)
theorem om_lt:OpM X (compareOp .Lt) gLt:=⟨_,op_lt,sv_intB⟩
theorem om_le:OpM X (compareOp .LtE) gLe:=⟨_,op_le,sv_intB⟩
theorem om_gt:OpM X (compareOp .Gt) gGt:=⟨_,op_gt,sv_intB⟩
theorem om_ge:OpM X (compareOp .GtE) gGe:=⟨_,op_ge,sv_intB⟩
end
mutual
noncomputable def plainD:D → Bool
  | .non => true
  | .bl _ => true
  | .int _ => true
  | .str x => x.all (· < 0x110000)
  | .tup xs => plainDs xs
  | .lst xs => plainDs xs
  | .dic _ _ => false
  | .ref _ => false
noncomputable def plainDs:List D → Bool
  | [] => true
  | d :: ds => plainD d && plainDs ds
end
mutual
noncomputable def dpt:D → Nat
  | .tup xs => dpts xs + 1
  | .lst xs => dpts xs + 1
  | _ => 0
noncomputable def dpts:List D → Nat
  | [] => 0
  | d :: ds => max (dpt d) (dpts ds)
end
mutual
noncomputable def toPy:D → PyData
  | .non => .none
  | .bl b => .bool b
  | .int i => .int i
  | .str x => .str ⟨x.toArray⟩
  | .tup xs => .tuple (toPys xs)
  | .lst xs => .list (toPys xs)
  | .dic _ _ => .none
  | .ref _ => .none
noncomputable def toPys:List D → List PyData
  | [] => []
  | d :: ds => toPy d :: toPys ds
end
mutual
noncomputable def eqD:D → D → Bool
  | .non,b => match b with
    | .non => true
    | _ => false
  | .bl a,b => match b with
    | .bl c => a == c
    | .int j => (if a then 1 else 0) == j
    | _ => false
  | .int i,b => match b with
    | .int j => i == j
    | .bl c => i == (if c then 1 else 0)
    | _ => false
  | .str x,b => match b with
    | .str y => x == y
    | _ => false
  | .tup xs,b => match b with
    | .tup ys => eqDs xs ys
    | _ => false
  | .lst xs,b => match b with
    | .lst ys => eqDs xs ys
    | _ => false
  | .dic _ _,_ => false
  | .ref _,_ => false
noncomputable def eqDs:List D → List D → Bool
  | [],b => b.isEmpty
  | x :: xs,b => match b with
    | [] => false
    | y :: ys => eqD x y && eqDs xs ys
end
theorem str_eq_iff (x y:List Nat):((⟨x.toArray⟩:Str) == (⟨y.toArray⟩:Str)) = (x == y):=by
  rw [Bool.eq_iff_iff]
  simp
mutual
theorem eqv_toPy:∀ (a b:D),plainD a = true → plainD b = true → PyData.eqv (toPy a) (toPy b) = eqD a b
  | .non,b,_,hb => by cases b <;> first | (simp [plainD] at hb; done) | (simp [toPy,eqD,PyData.eqv]; done)
  | .bl a,b,_,hb => by cases b <;> first | (simp [plainD] at hb; done) | (simp [toPy,eqD,PyData.eqv]; done)
  | .int a,b,_,hb => by cases b <;> first | (simp [plainD] at hb; done) | (simp [toPy,eqD,PyData.eqv]; done)
  | .str a,b,_,hb => by
    cases b with
    | str y => simp only [toPy,eqD,PyData.eqv]; exact str_eq_iff _ _
    | dic _ _ => simp [plainD] at hb
    | ref _ => simp [plainD] at hb
    | _ => simp [toPy,eqD,PyData.eqv]
  | .tup a,b,ha,hb => by
    cases b with
    | tup b => simp only [toPy,eqD,PyData.eqv]; exact eqvs_toPys a b (by simpa [plainD] using ha) (by simpa [plainD] using hb)
    | dic _ _ => simp [plainD] at hb
    | ref _ => simp [plainD] at hb
    | _ => simp [toPy,eqD,PyData.eqv]
  | .lst a,b,ha,hb => by
    cases b with
    | lst b => simp only [toPy,eqD,PyData.eqv]; exact eqvs_toPys a b (by simpa [plainD] using ha) (by simpa [plainD] using hb)
    | dic _ _ => simp [plainD] at hb
    | ref _ => simp [plainD] at hb
    | _ => simp [toPy,eqD,PyData.eqv]
  | .dic _ _,_,ha,_ => by simp [plainD] at ha
  | .ref _,_,ha,_ => by simp [plainD] at ha
theorem eqvs_toPys:∀ (a b:List D),plainDs a = true → plainDs b = true → PyData.eqvAll (toPys a) (toPys b) = eqDs a b
  | [],[],_,_ => by simp [toPys,eqDs,PyData.eqvAll]
  | [],_ :: _,_,_ => by simp [toPys,eqDs,PyData.eqvAll]
  | _ :: _,[],_,_ => by simp [toPys,eqDs,PyData.eqvAll]
  | x :: xs,y :: ys,ha,hb => by
    simp only [plainDs,Bool.and_eq_true] at ha hb
    simp only [toPys,eqDs,PyData.eqvAll]
    rw [eqv_toPy x y ha.1 hb.1,eqvs_toPys xs ys ha.2 hb.2]
end
mutual
theorem canLay_toPy:∀ (a:D),plainD a = true → (toPy a).canLay0 = true
  | .non,_ => by simp [toPy,PyData.canLay0]
  | .bl _,_ => by simp [toPy,PyData.canLay0]
  | .int _,_ => by simp [toPy,PyData.canLay0]
  | .str x,h => by simp only [toPy,PyData.canLay0,PyData.strOk]; simpa [plainD] using h
  | .tup xs,h => by simp only [toPy,PyData.canLay0]; exact canLays_toPy xs (by simpa [plainD] using h)
  | .lst xs,h => by simp only [toPy,PyData.canLay0]; exact canLays_toPy xs (by simpa [plainD] using h)
  | .dic _ _,h => by simp [plainD] at h
  | .ref _,h => by simp [plainD] at h
theorem canLays_toPy:∀ (a:List D),plainDs a = true → PyData.canLayAll0 (toPys a) = true
  | [],_ => by simp [toPys,PyData.canLayAll0]
  | x :: xs,h => by
    simp only [plainDs,Bool.and_eq_true] at h
    simp only [toPys,PyData.canLayAll0,canLay_toPy x h.1,canLays_toPy xs h.2,Bool.and_self]
end
mutual
theorem depth_toPy:∀ (a:D),(toPy a).depth = dpt a
  | .non => by simp [toPy,PyData.depth,dpt]
  | .bl _ => by simp [toPy,PyData.depth,dpt]
  | .int _ => by simp [toPy,PyData.depth,dpt]
  | .str x => by simp [toPy,PyData.depth,dpt]
  | .tup xs => by simp only [toPy,PyData.depth,dpt]; rw [depths_toPys xs]
  | .lst xs => by simp only [toPy,PyData.depth,dpt]; rw [depths_toPys xs]
  | .dic _ _ => by simp [toPy,PyData.depth,dpt]
  | .ref _ => by simp [toPy,PyData.depth,dpt]
theorem depths_toPys:∀ (a:List D),PyData.depthAll (toPys a) = dpts a
  | [] => by simp [toPys,PyData.depthAll,dpts]
  | x :: xs => by simp only [toPys,PyData.depthAll,dpts]; rw [depth_toPy x,depths_toPys xs]
end
section
variable {X:Cx} {EX:EXT}
mutual
theorem reads_of {pins:List (Addr × Obj)} {σ:L2.St} {H F:Hp} {s:Shared} {α:List Addr} (I:Inv X pins σ H s) (sub:Same F H):∀ (d:D) (v:V) (u:Value),plainD d = true → Rep X.K F α d v → RelV v u → ∃ as,Reads s.heap u (toPy d) as
  | .non,v,u,_,h,r => by unfold Rep at h; subst h; cases r; exact ⟨_,by rw [toPy]; exact .none⟩
  | .bl b,v,u,_,h,r => by unfold Rep at h; subst h; cases r; exact ⟨_,by rw [toPy]; exact .bool b⟩
  | .int b,v,u,_,h,r => by unfold Rep at h; subst h; obtain ⟨t,rfl⟩:=r; exact ⟨_,by rw [toPy]; exact .int b t⟩
  | .str b,v,u,_,h,r => by unfold Rep at h; subst h; obtain ⟨t,rfl⟩:=r; exact ⟨_,by rw [toPy]; exact .str _ t⟩
  | .tup ds,v,u,hp,h,r => by
    unfold Rep at h
    obtain ⟨a,vs,rfl,hs,hr⟩:=h
    cases r
    obtain ⟨its,rv,⟨o,e1,e2,n,e3⟩,_⟩:=I.tuple (Same.tup sub hs)
    obtain ⟨as,q⟩:=readsAll_of I sub ds vs its (by simpa [plainD] using hp) hr rv
    exact ⟨_,by rw [toPy]; exact .tuple e1 e2 e3 (by simpa using q)⟩
  | .lst ds,v,u,hp,h,r => by
    unfold Rep at h
    obtain ⟨a,vs,rfl,hs,hr⟩:=h
    cases r
    obtain ⟨its,rv,⟨o,n,e1,e2,_,e3⟩,_⟩:=I.list (sub.seq hs)
    obtain ⟨as,q⟩:=readsAll_of I sub ds vs its (by simpa [plainD] using hp) hr rv
    exact ⟨_,by rw [toPy]; exact .list e1 e2 e3 (by simpa using q)⟩
  | .dic _ _,_,_,hp,_,_ => by simp [plainD] at hp
  | .ref _,_,_,hp,_,_ => by simp [plainD] at hp
theorem readsAll_of {pins:List (Addr × Obj)} {σ:L2.St} {H F:Hp} {s:Shared} {α:List Addr} (I:Inv X pins σ H s) (sub:Same F H):∀ (ds:List D) (vs:List V) (us:List Value),plainDs ds = true → Reps X.K F α ds vs → Vals vs us → ∃ as,ReadsAll s.heap us (toPys ds) as
  | [],vs,us,_,h,r => by unfold Reps at h; subst h; cases r; exact ⟨_,by rw [toPys]; exact .nil⟩
  | d :: ds,vs,us,hp,h,r => by
    unfold Reps at h
    obtain ⟨v,vr,rfl,h1,h2⟩:=h
    cases r with
    | cons r1 r2 =>
      simp only [plainDs,Bool.and_eq_true] at hp
      obtain ⟨as,q1⟩:=reads_of I sub d v _ hp.1 h1 r1
      obtain ⟨bs,q2⟩:=readsAll_of I sub ds vr _ hp.2 h2 r2
      exact ⟨_,by rw [toPys]; exact .cons q1 q2⟩
end
theorem reads_pk {pins:List (Addr × Obj)} {σ:L2.St} {H F:Hp} {s:Shared} {α:List Addr} (I:Inv X pins σ H s) (sub:Same F H) {d:D} {v:V} {u:Value} (hp:plainD d = true) (h:Pk X.K α F H d v) (r:RelV v u):∃ as,Reads s.heap u (toPy d) as:=by
  cases d with
  | lst ds =>
    obtain ⟨a,vs,rfl,hs,hr⟩:=h
    cases r
    obtain ⟨its,rv,⟨o,n,e1,e2,_,e3⟩,_⟩:=I.list hs
    obtain ⟨as,q⟩:=readsAll_of I sub ds vs its (by simpa [plainD] using hp) hr rv
    exact ⟨_,by rw [toPy]; exact .list e1 e2 e3 (by simpa using q)⟩
  | dic _ _ => simp [plainD] at hp
  | _ => exact reads_of (α:=α) I sub _ v u hp h r
noncomputable def cmpOk (a b:D):Bool:=plainD a && plainD b && decide (min (dpt a) (dpt b) ≤ 100)
noncomputable def gEq:G2:=fun a b => if cmpOk a b then some (.bl (eqD a b)) else none
noncomputable def gNe:G2:=fun a b => if cmpOk a b then some (.bl (!eqD a b)) else none
noncomputable def rDat (K:PySem.W.Frag) (neg:Bool):R2:=fun x y H Q => ∃ F α a b,Same F H ∧ Pk K α F H a x ∧ Pk K α F H b y ∧ cmpOk a b = true ∧ Q (.bl (if neg then !eqD a b else eqD a b)) H
theorem cmp_room {A:Around} {a b:D} (hu:A.units + 200 < cLine) (h:cmpOk a b = true):A.units + min (toPy a).depth (toPy b).depth < cLine:=by
  unfold cmpOk at h
  simp only [Bool.and_eq_true,decide_eq_true_eq] at h
  rw [depth_toPy,depth_toPy]
  omega
theorem op_eqD (hu:X.A.units + 200 < cLine):OpR X (compareOp .Eq) (rDat X.K false):=by
  intro pins s σ H x y v u Q I rx ry h
  obtain ⟨F,α,a,b,sub,ha,hb,hc,q⟩:=h
  have hc':=hc
  unfold cmpOk at hc'
  simp only [Bool.and_eq_true] at hc'
  obtain ⟨as,r1⟩:=reads_pk I sub hc'.1.1 ha rx
  obtain ⟨bs,r2⟩:=reads_pk I sub hc'.1.2 hb ry
  refine PySem.SeqAt.compareEq_reads r1 r2 (canLay_toPy _ hc'.1.1) (canLay_toPy _ hc'.1.2) (cmp_room hu hc) ?_
  rw [eqv_toPy _ _ hc'.1.1 hc'.1.2]
  exact ⟨.bl _,H,I,rfl,q⟩
theorem op_neD (hu:X.A.units + 200 < cLine):OpR X (compareOp .NotEq) (rDat X.K true):=by
  intro pins s σ H x y v u Q I rx ry h
  obtain ⟨F,α,a,b,sub,ha,hb,hc,q⟩:=h
  have hc':=hc
  unfold cmpOk at hc'
  simp only [Bool.and_eq_true] at hc'
  obtain ⟨as,r1⟩:=reads_pk I sub hc'.1.1 ha rx
  obtain ⟨bs,r2⟩:=reads_pk I sub hc'.1.2 hb ry
  refine PySem.SeqAt.compareNe_reads r1 r2 (canLay_toPy _ hc'.1.1) (canLay_toPy _ hc'.1.2) (cmp_room hu hc) ?_
  rw [eqv_toPy _ _ hc'.1.1 hc'.1.2]
  exact ⟨.bl _,H,I,rfl,q⟩
theorem om_eq (hu:X.A.units + 200 < cLine):OpM X (compareOp .Eq) gEq:=by
  refine ⟨_,op_eqD hu,fun Z α F H μ a b c x y Q R ha hb hg k => ?_⟩
  unfold gEq at hg
  split at hg
  · rename_i hc
    cases hg
    exact ⟨F,α,a,b,R.sub,ha,hb,hc,k _ F H R (Same.refl _) (rep_bl _)⟩
  · cases hg
theorem om_ne (hu:X.A.units + 200 < cLine):OpM X (compareOp .NotEq) gNe:=by
  refine ⟨_,op_neD hu,fun Z α F H μ a b c x y Q R ha hb hg k => ?_⟩
  unfold gNe at hg
  split at hg
  · rename_i hc
    cases hg
    exact ⟨F,α,a,b,R.sub,ha,hb,hc,k _ F H R (Same.refl _) (rep_bl _)⟩
  · cases hg
noncomputable def inD (x:D) (ds:List D):Bool:=ds.any fun y => eqD y x
noncomputable def inOk (x:D) (ds:List D):Bool:=plainD x && plainDs ds && decide (dpt x ≤ 100)
noncomputable def gInG (neg:Bool):G2:=fun a b => match b with
  | .lst ds => if inOk a ds then some (.bl (if neg then !inD a ds else inD a ds)) else none
  | .tup ds => if inOk a ds then some (.bl (if neg then !inD a ds else inD a ds)) else none
  | _ => none
noncomputable def gIn:G2:=gInG false
noncomputable def gNotIn:G2:=gInG true
theorem in_fun {pins:List (Addr × Obj)} {σ:L2.St} {H F:Hp} {s:Shared} {α:List Addr} {A:Around} (hu:A.units + 150 < cLine) (I:Inv X pins σ H s) (sub:Same F H) {x:D} {v:V} {u:Value} (hx:plainD x = true) (hd:dpt x ≤ 100)
    (h:Pk X.K α F H x v) (r:RelV v u) (ds:List D) (vs:List V) (us:List Value) (hp:plainDs ds = true) (hr:Reps X.K F α ds vs) (rv:Vals vs us) :
    ∃ e:Value → Bool,(∀ w ∈ us,SeqAt.EqAt A s w u (e w)) ∧ us.any e = inD x ds:=by
  obtain ⟨bs,rx⟩:=reads_pk I sub hx h r
  have hone:∀ (d:D) (w:Value) (as:List Addr),plainD d = true → Reads s.heap w (toPy d) as → SeqAt.EqAt A s w u (eqD d x):=fun d w as hd' q => by
    have:=PySem.SeqAt.eqAt_reads (toPy d) (toPy x) A s w u as bs q rx (canLay_toPy _ hd') (canLay_toPy _ hx) (by rw [depth_toPy,depth_toPy]; omega)
    rw [eqv_toPy _ _ hd' hx] at this
    exact this
  classical
  let e:Value → Bool:=fun w => decide (∃ d as,plainD d = true ∧ Reads s.heap w (toPy d) as ∧ eqD d x = true)
  have he:∀ (d:D) (w:Value) (as:List Addr),plainD d = true → Reads s.heap w (toPy d) as → e w = eqD d x:=fun d w as hd' q => by
    cases hq:eqD d x with
    | true => exact decide_eq_true ⟨d,as,hd',q,hq⟩
    | false =>
      refine decide_eq_false ?_
      rintro ⟨d2,as2,hp2,q2,e2⟩
      have e3:=PySem.SeqAt.Reads.unique (toPy d) (toPy d2) w as as2 (canLay_toPy _ hd') q q2
      rw [← eqv_toPy _ _ hp2 hx,← e3,eqv_toPy _ _ hd' hx,hq] at e2
      cases e2
  have all:∀ (ds:List D) (vs:List V) (us:List Value),plainDs ds = true → Reps X.K F α ds vs → Vals vs us → (∀ w ∈ us,SeqAt.EqAt A s w u (e w)) ∧ us.any e = inD x ds:=by
    intro ds
    induction ds with
    | nil =>
      intro vs us _ hr rv
      unfold Reps at hr
      subst hr
      cases rv
      exact ⟨fun w hw => (nomatch hw),rfl⟩
    | cons d ds ih =>
      intro vs us hp hr rv
      unfold Reps at hr
      obtain ⟨v1,vr,rfl,h1,h2⟩:=hr
      simp only [plainDs,Bool.and_eq_true] at hp
      cases rv with
      | cons r1 r2 =>
        obtain ⟨as,q1⟩:=reads_of I sub d v1 _ hp.1 h1 r1
        obtain ⟨a1,a2⟩:=ih vr _ hp.2 h2 r2
        refine ⟨fun w hw => ?_,?_⟩
        · rcases List.mem_cons.mp hw with rfl | hw
          · rw [he d _ as hp.1 q1]; exact hone d _ as hp.1 q1
          · exact a1 w hw
        · rw [List.any_cons,he d _ as hp.1 q1,a2]
          rfl
  exact ⟨e,(all ds vs us hp hr rv).1,(all ds vs us hp hr rv).2⟩
noncomputable def rInD (K:PySem.W.Frag) (neg:Bool):R2:=fun x y H Q => ∃ F α a ds p vs,Same F H ∧ Pk K α F H a x ∧ y = .ref p ∧ (SqL K H p vs ∨ SqT K H p vs) ∧ Reps K F α ds vs ∧ inOk a ds = true ∧ Q (.bl (if neg then !inD a ds else inD a ds)) H
theorem op_inD (hu:X.A.units + 200 < cLine):OpR X (compareOp .In) (rInD X.K false):=by
  intro pins s σ H x y v u Q I rx ry h
  obtain ⟨F,α,a,ds,p,vs,sub,ha,rfl,hq,hr,hc,q⟩:=h
  unfold inOk at hc
  simp only [Bool.and_eq_true,decide_eq_true_eq] at hc
  cases ry
  rcases hq with hq | hq
  · obtain ⟨its,r,pl,hz⟩:=I.list hq
    obtain ⟨e,e1,e2⟩:=in_fun (A:=X.A.in1) (by show X.A.units + 1 + 150 < cLine; omega) I sub hc.1.1 hc.2 ha rx ds vs its hc.1.2 hr r
    refine SeqAt.in_listAt e pl.isList (fun w hw => e1 w (by simpa using hw)) ⟨.bl _,H,I,rfl,?_⟩
    rw [show its.toArray.any e = its.any e by simp,e2]
    exact q
  · obtain ⟨its,r,pl,hz⟩:=I.tuple hq
    obtain ⟨e,e1,e2⟩:=in_fun (A:=X.A.in1) (by show X.A.units + 1 + 150 < cLine; omega) I sub hc.1.1 hc.2 ha rx ds vs its hc.1.2 hr r
    refine SeqAt.in_tupleAt e pl (fun w hw => e1 w (by simpa using hw)) ⟨.bl _,H,I,rfl,?_⟩
    rw [show its.toArray.any e = its.any e by simp,e2]
    exact q
theorem op_notInD (hu:X.A.units + 200 < cLine):OpR X (compareOp .NotIn) (rInD X.K true):=by
  intro pins s σ H x y v u Q I rx ry h
  obtain ⟨F,α,a,ds,p,vs,sub,ha,rfl,hq,hr,hc,q⟩:=h
  unfold inOk at hc
  simp only [Bool.and_eq_true,decide_eq_true_eq] at hc
  cases ry
  rcases hq with hq | hq
  · obtain ⟨its,r,pl,hz⟩:=I.list hq
    obtain ⟨e,e1,e2⟩:=in_fun (A:=X.A.in1) (by show X.A.units + 1 + 150 < cLine; omega) I sub hc.1.1 hc.2 ha rx ds vs its hc.1.2 hr r
    refine SeqAt.notIn_listAt e pl.isList (fun w hw => e1 w (by simpa using hw)) ⟨.bl _,H,I,rfl,?_⟩
    rw [show its.toArray.any e = its.any e by simp,e2]
    exact q
  · obtain ⟨its,r,pl,hz⟩:=I.tuple hq
    obtain ⟨e,e1,e2⟩:=in_fun (A:=X.A.in1) (by show X.A.units + 1 + 150 < cLine; omega) I sub hc.1.1 hc.2 ha rx ds vs its hc.1.2 hr r
    refine SeqAt.notIn_tupleAt e pl (fun w hw => e1 w (by simpa using hw)) ⟨.bl _,H,I,rfl,?_⟩
    rw [show its.toArray.any e = its.any e by simp,e2]
    exact q
theorem sv_in {K:PySem.W.Frag} (neg:Bool):Serves K (rInD K neg) (gInG neg):=by
  intro Z α F H μ a b c x y Q R ha hb hg k
  cases b with
  | lst ds =>
    simp only [gInG] at hg
    split at hg
    · rename_i hc
      have hg:=Option.some.inj hg
      subst hg
      obtain ⟨p,vs,rfl,hs,hr⟩:=hb
      exact ⟨F,α,a,ds,p,vs,R.sub,ha,rfl,.inl hs,hr,hc,k _ F H R (Same.refl _) (rep_bl _)⟩
    · cases hg
  | tup ds =>
    simp only [gInG] at hg
    split at hg
    · rename_i hc
      have hg:=Option.some.inj hg
      subst hg
      unfold Pk Rep at hb
      obtain ⟨p,vs,rfl,hs,hr⟩:=hb
      exact ⟨F,α,a,ds,p,vs,R.sub,ha,rfl,.inr (Same.tup R.sub hs),hr,hc,k _ F H R (Same.refl _) (rep_bl _)⟩
    · cases hg
  | _ => cases hg
theorem om_in (hu:X.A.units + 200 < cLine):OpM X (compareOp .In) gIn:=⟨_,op_inD hu,sv_in false⟩
theorem om_notIn (hu:X.A.units + 200 < cLine):OpM X (compareOp .NotIn) gNotIn:=⟨_,op_notInD hu,sv_in true⟩
end
end M
set_option Elab.async false
set_option linter.all false
set_option maxRecDepth 100000
set_option maxHeartbeats 4000000
namespace M
open PySem PySem.Spec PyProof.Rows L2
noncomputable def keyD (d:D):Option DK:=match d with
  | .int i => some (.inl i)
  | .str x => some (.inr x)
  | _ => none
noncomputable def lookK:List DK → List D → DK → Option D
  | k :: ks,v :: vs,q => if k = q then some v else lookK ks vs q
  | _,_,_ => none
theorem dk_inj {a b:DK} (h:dk a = dk b):a = b:=by
  cases a with
  | inl i =>
    cases b with
    | inl j => exact congrArg _ (Sum.inl.inj h)
    | inr y => cases h
  | inr x =>
    cases b with
    | inl j => cases h
    | inr y =>
      have h2:(⟨x.toArray⟩:Str) = ⟨y.toArray⟩:=Sum.inr.inj h
      have h3:x.toArray = y.toArray:=by injection h2
      have h4:x = y:=by simpa using congrArg Array.toList h3
      rw [h4]
theorem key_pk {K:PySem.W.Frag} {α:List Addr} {F H:Hp} {d:D} {v:V} {k:DK} (h:Pk K α F H d v) (e:keyD d = some k):v = kV (dk k):=by
  cases d with
  | int i => cases e; exact pk_int h
  | str x => cases e; exact pk_str h
  | _ => cases e
theorem look_val {K:PySem.W.Frag} {F:Hp} {α:List Addr}:∀ {ks:List DK} {ds:List D} {vs:List V} {k:DK},Reps K F α ds vs → ks.length = ds.length →
    (∃ d v,lookK ks ds k = some d ∧ valV ((ks.map dk).zip vs) (dk k) = some v ∧ Rep K F α d v) ∨ (lookK ks ds k = none ∧ valV ((ks.map dk).zip vs) (dk k) = none)
  | [],_,_,_,_,_ => .inr ⟨rfl,rfl⟩
  | q :: ks,[],vs,k,_,hl => by simp at hl
  | q :: ks,d :: ds,vs,k,h,hl => by
    unfold Reps at h
    obtain ⟨v,vr,rfl,h1,h2⟩:=h
    by_cases e:q = k
    · subst e
      refine .inl ⟨d,v,by simp [lookK],?_,h1⟩
      exact valV_pos (p:=(dk q,v)) rfl
    · have e2:¬ dk q = dk k:=fun z => e (dk_inj z)
      have ih:=look_val (k:=k) h2 (by simpa using hl)
      rw [show lookK (q :: ks) (d :: ds) k = lookK ks ds k by simp [lookK,e],show valV (((q :: ks).map dk).zip (v :: vr)) (dk k) = valV ((ks.map dk).zip vr) (dk k) from valV_neg (p:=(dk q,v)) e2]
      exact ih
noncomputable def gDGet:G2:=fun a b => match a with
  | .dic ks vs => (keyD b).bind (lookK ks vs)
  | _ => none
noncomputable def gDIn (neg:Bool):G2:=fun b a => match a with
  | .dic ks vs => (keyD b).map fun k => .bl (if neg then !(lookK ks vs k).isSome else (lookK ks vs k).isSome)
  | _ => none
section
variable {X:Cx} {EX:EXT} {e a b c:Expr} {pos:Pos} {m ma mb mc:MX} {es rest:List Expr}
theorem sv_dget {K:PySem.W.Frag}:Serves K (fun x y H Q => ∃ a v,x = .ref a ∧ DGet H a y (some v) ∧ Q v H) gDGet:=by
  intro Z α F H μ a b c x y Q R ha hb hg k
  cases a with
  | dic ks ds =>
    simp only [gDGet] at hg
    cases hk:keyD b with
    | none => rw [hk] at hg; cases hg
    | some q =>
      rw [hk] at hg
      have hy:=key_pk hb hk
      obtain ⟨p,vs,rfl,hs,hl,hr⟩:=ha
      rcases look_val (k:=q) hr hl with ⟨d,v,h1,h2,h3⟩ | ⟨h1,h2⟩
      · have hg:lookK ks ds q = some c:=hg
        rw [h1] at hg
        cases hg
        subst hy
        exact ⟨p,v,rfl,by rw [← h2]; exact DGet.k hs,k v F H R (Same.refl _) h3⟩
      · have hg:lookK ks ds q = some c:=hg
        rw [h1] at hg
        cases hg
  | _ => cases hg
theorem me_dget (hu:X.A.units + 200 < cLine) (ha:ME X EX a ma) (hb:ME X EX b mb) (hs:NoSl b):ME X EX (.Subscript a b pos) (mBin gDGet ma mb):=by
  obtain ⟨ta,pa,sa⟩:=ha
  obtain ⟨tb,pb,sb⟩:=hb
  exact ⟨_,pe_dget (by omega) pa pb hs,good_two (r:=fun x y H Q => ∃ a v,x = .ref a ∧ DGet H a y (some v) ∧ Q v H) sa sb sv_dget⟩
theorem RH.hold {K:PySem.W.Frag} {Z:ZS} {F H:Hp} {α:List Addr} {μ:Mu} {p:Addr} (o:HO) (r:RH K Z α F H μ) (hp:H p = none):RH K (ZS.up Z p o) α F (upd H p o) μ:=by
  have fp:F p = none:=by
    cases e:F p with
    | none => rfl
    | some u => rw [r.sub _ _ e] at hp; cases hp
  refine ⟨fun b u e => ?_,r.len,fun k a c ha hc => ?_,fun b u e => ?_,fun b u e => ?_,fun k a c ha hc hd => ?_,r.dis,r.ext⟩
  · rw [upd_ne (ne_of_none (r.sub b u e) hp)]; exact r.sub b u e
  · have h:=r.cell k a c ha hc
    exact h.go (Ext.refl _ _) (fun _ => rfl) fun hd => let ⟨_,_,z⟩:=h.live hd; upd_ne (ne_of_none z hp)
  · by_cases hb:b = p
    · subst hb; rw [up_same] at e; rw [upd_same]; exact e
    · rw [up_ne hb] at e; rw [upd_ne hb]; exact r.zs b u e
  · by_cases hb:b = p
    · subst hb; exact fp
    · rw [up_ne hb] at e; exact r.zf b u e
  · have h:=r.cell k a c ha hc
    have hz:=r.zc k a c ha hc hd
    obtain ⟨_,_,z⟩:=h.live hd
    rw [up_ne (ne_of_none z hp)]; exact hz
theorem RH.unhold {K:PySem.W.Frag} {Z:ZS} {F H:Hp} {α:List Addr} {μ:Mu} {p:Addr} {o:HO} (o':HO) (r:RH K (ZS.up Z p o) α F H μ) (hz:Z.z p = none):RH K Z α (upd F p o') (upd H p o') μ ∧ Same F (upd F p o'):=by
  have fp:F p = none:=r.zf p o up_same
  have sF:Same F (upd F p o'):=fun b u e => by rw [upd_ne (ne_of_none e fp)]; exact e
  have ex:Ext α F α (upd F p o'):=⟨sF,fun _ _ h => h⟩
  have nc:∀ (k:Nat) (a:Addr) (c:Cell),α[k]? = some a → μ[k]? = some c → c ≠ .dead → a ≠ p:=fun k a c ha hc hd z => by
    have:=r.zc k a c ha hc hd
    rw [z,up_same] at this
    cases this
  refine ⟨⟨fun b u e => ?_,r.len,fun k a c ha hc => ?_,fun b u e => ?_,fun b u e => ?_,fun k a c ha hc hd => ?_,r.dis,r.ext.trans ex⟩,sF⟩
  · by_cases hb:b = p
    · subst hb; rw [upd_same] at e ⊢; exact e
    · rw [upd_ne hb] at e ⊢; exact r.sub b u e
  · exact (r.cell k a c ha hc).go ex (fun hd => upd_ne (nc k a c ha hc hd)) fun hd => upd_ne (nc k a c ha hc hd)
  · have hb:b ≠ p:=ne_of_none e hz
    rw [upd_ne hb]
    exact r.zs b u (by rw [up_ne hb]; exact e)
  · have hb:b ≠ p:=ne_of_none e hz
    rw [upd_ne hb]
    exact r.zf b u (by rw [up_ne hb]; exact e)
  · have ne:=nc k a c ha hc hd
    have:=r.zc k a c ha hc hd
    rw [up_ne ne] at this
    exact this
theorem merge_new:∀ (more acc:List (Key × V)),((acc ++ more).map (·.1)).Nodup → mergeK acc more = acc ++ more
  | [],acc,_ => by simp [mergeK]
  | kv :: more,acc,h => by
    have hn:valV acc kv.1 = none:=by
      cases e:valV acc kv.1 with
      | none => rfl
      | some v =>
        exfalso
        have hm:kv.1 ∈ acc.map (·.1):=by
          have q:(acc.any fun x => decide (x.1 = kv.1)) = true:=by rw [valV_any,e]; rfl
          obtain ⟨p,hp,e⟩:=List.any_eq_true.mp q
          exact List.mem_map.mpr ⟨p,hp,of_decide_eq_true e⟩
        rw [List.map_append,List.nodup_append] at h
        exact h.2.2 _ hm _ (by simp) rfl
    show mergeK (putK acc kv.1 kv.2) more = _
    rw [putK_new _ hn]
    rw [merge_new more (acc ++ [(kv.1,kv.2)]) (by simpa using h)]
    simp
theorem nodup_dk:∀ {ks:List DK},ks.Nodup → (ks.map dk).Nodup
  | [],_ => List.nodup_nil
  | k :: ks,h => by
    rw [List.nodup_cons] at h
    rw [List.map_cons,List.nodup_cons]
    refine ⟨fun hm => ?_,nodup_dk h.2⟩
    obtain ⟨q,hq,e⟩:=List.mem_map.mp hm
    exact h.1 (dk_inj e ▸ hq)
noncomputable abbrev GL:=List D → Option D
noncomputable def Pks (K:PySem.W.Frag) (α:List Addr) (F H:Hp):List D → List V → Prop
  | [],vs => vs = []
  | d :: ds,vs => ∃ v r,vs = v :: r ∧ Pk K α F H d v ∧ Pks K α F H ds r
theorem RH.pks {K:PySem.W.Frag} {Z:ZS} {α:List Addr} {F H:Hp} {μ:Mu} (r:RH K Z α F H μ):∀ {ds:List D} {vs:List V},Reps K F α ds vs → Pks K α F H (ds.map (deref μ)) vs
  | [],vs,h => by unfold Reps at h; exact h
  | d :: ds,vs,h => by
    unfold Reps at h
    obtain ⟨v,vr,hv,h1,h2⟩:=h
    exact ⟨v,vr,hv,r.pk h1,RH.pks r h2⟩
noncomputable def ServesL (K:PySem.W.Frag) (r:List V → Hp → VK → Prop) (g:GL):Prop:=∀ Z α F H μ ds c vs Q,RH K Z α F H μ → Pks K α F H ds vs → g ds = some c →
  (∀ v F' H',RH K Z α F' H' μ → Same F F' → Rep K F' α c v → Q v H') → r vs H Q
noncomputable def CallM (X:Cx) (f:Value) (g:GL):Prop:=∃ r,CallR X f r ∧ ServesL X.K r g
noncomputable def mCallB (g:GL) (ms:MAs):MX:=fun ρ μ => (ms ρ μ).bind fun ds μ1 => ofO μ1 (g (ds.map (deref μ1)))
theorem good_callB {t:TA} {ms:MAs} {r:List V → Hp → VK → Prop} {g:GL} (st:∀ Z α F H σ ρ μ Q,RS X.K Z α F H σ ρ μ → GA X.K EX Z α F Q (ms ρ μ) → t σ H Q) (hs:ServesL X.K r g):Good X EX (tCB r t) (mCallB g ms):=by
  intro Z α F H σ ρ μ Q R gd
  refine st Z α F H σ ρ μ _ R (GA.step (G:=GE X.K EX Z α F Q) gd (fun _ _ h => h) (fun h => h) fun ds μ1 vs α1 F1 H1 R1 e1 p1 g1 => ?_)
  cases hg:g (ds.map (deref μ1)) with
  | none => rw [hg] at g1; exact g1.elim
  | some c =>
    rw [hg] at g1
    exact hs Z α1 F1 H1 μ1 _ c vs Q R1 (R1.pks p1) hg fun v F' H' R' sf rp => g1 v α1 F' H' R' (e1.trans ⟨sf,fun _ _ h => h⟩) rp
theorem me_callB {x:Str} {p:Pos} {id:String} {g:GL} {ms:MAs} (hc:CallM X (.builtin id) g) (hg:Gl X x) (hm:X.mg x = none) (hv:bootBuiltins x = some (.builtin id)) (ha:MA X EX (e :: es) ms) (hn:x ≠ "__name__":=by decide) (hdb:(x == ("__debug__":Str)) = false:=by decide)
    (he:starEach (e :: es) X.env = (false,eval e X.env) :: starEach es X.env:=by rfl) (hpl:(backTo pos (starEach es X.env)).any (·.1) = false:=by rfl):ME X EX (.Call (.Name x p) (e :: es) [] pos) (mCallB g ms):=by
  obtain ⟨r,h1,h2⟩:=hc
  obtain ⟨t,pt,st,_⟩:=ha
  exact ⟨_,pe_callB h1 hg hm hv pt hn hdb he hpl,good_callB st h2⟩
theorem me_callTy {x:Str} {p:Pos} {T:String} {g:GL} {ms:MAs} (hc:CallM X (.type T) g) (hg:Gl X x) (hm:X.mg x = none) (hv:bootBuiltins x = some (.type T)) (ha:MA X EX (e :: es) ms) (hn:x ≠ "__name__":=by decide) (hdb:(x == ("__debug__":Str)) = false:=by decide)
    (he:starEach (e :: es) X.env = (false,eval e X.env) :: starEach es X.env:=by rfl) (hpl:(backTo pos (starEach es X.env)).any (·.1) = false:=by rfl):ME X EX (.Call (.Name x p) (e :: es) [] pos) (mCallB g ms):=by
  obtain ⟨r,h1,h2⟩:=hc
  obtain ⟨t,pt,st,_⟩:=ha
  exact ⟨_,pe_callTy h1 hg hm hv pt hn hdb he hpl,good_callB st h2⟩
noncomputable def gLen:GL:=fun ds => match ds with
  | [.lst xs] => some (.int xs.length)
  | [.tup xs] => some (.int xs.length)
  | [.str xs] => if xs.length ≤ 16777216 then some (.int xs.length) else none
  | _ => none
theorem cm_len:CallM X (.builtin "len") gLen:=by
  refine ⟨_,call_len,fun Z α F H μ ds c vs Q R hp hg k => ?_⟩
  match ds,hg with
  | [.lst xs],hg =>
    obtain ⟨v,r,rfl,⟨a,us,rfl,hs,hr⟩,hq⟩:=hp
    have hq:r = []:=hq
    subst hq
    cases hg
    exact ⟨_,_,rfl,.inl ⟨us,hs,rfl⟩,by rw [← hr.length]; exact k _ F H R (Same.refl _) (rep_int _)⟩
  | [.tup xs],hg =>
    obtain ⟨v,r,rfl,hv,hq⟩:=hp
    have hq:r = []:=hq
    subst hq
    unfold Pk Rep at hv
    obtain ⟨a,us,rfl,hs,hr⟩:=hv
    cases hg
    exact ⟨_,_,rfl,.inr ⟨us,Same.tup R.sub hs,rfl⟩,by rw [← hr.length]; exact k _ F H R (Same.refl _) (rep_int _)⟩
  | [.str xs],hg =>
    obtain ⟨v,r,rfl,hv,hq⟩:=hp
    have hq:r = []:=hq
    subst hq
    have hv:=pk_str hv
    subst hv
    simp only [gLen] at hg
    split at hg
    · rename_i hl
      cases hg
      refine ⟨_,xs.length,rfl,⟨by rw [sizeLine_eq]; simpa [Str.length] using hl,by simp [Str.length]⟩,k _ F H R (Same.refl _) (rep_int _)⟩
    · cases hg
theorem pks1 {K:PySem.W.Frag} {α:List Addr} {F H:Hp} {a:D} {vs:List V} (h:Pks K α F H [a] vs):∃ v,vs = [v] ∧ Pk K α F H a v:=by
  obtain ⟨v,r,rfl,h1,h3⟩:=h
  have h3:r = []:=h3
  subst h3
  exact ⟨v,rfl,h1⟩
noncomputable def gIntC:GL:=fun ds => match ds with
  | [.int i] => some (.int i)
  | [.bl k] => some (.int (if k then 1 else 0))
  | _ => none
theorem cm_int:CallM X (.type "int") gIntC:=by
  refine ⟨_,call_int1,fun Z α F H μ ds c vs Q R hp hg k => ?_⟩
  match ds,hg with
  | [.int i],hg =>
    obtain ⟨v,rfl,h1⟩:=pks1 hp
    rw [pk_int h1]
    cases hg
    exact .inl ⟨i,rfl,k _ F H R (Same.refl _) (rep_int _)⟩
  | [.bl i],hg =>
    obtain ⟨v,rfl,h1⟩:=pks1 hp
    rw [pk_bl h1]
    cases hg
    exact .inr ⟨i,rfl,k _ F H R (Same.refl _) (rep_int _)⟩
inductive Ki where
  | int | bool | str | list | tuple
noncomputable def Ki.nm:Ki → String
  | .int => "int"
  | .bool => "bool"
  | .str => "str"
  | .list => "list"
  | .tuple => "tuple"
noncomputable def isI (k:Ki) (d:D):Option Bool:=match d,k with
  | .non,_ => some false
  | .bl _,.bool => some true
  | .bl _,.int => some true
  | .bl _,_ => some false
  | .int _,.int => some true
  | .int _,_ => some false
  | .str _,.str => some true
  | .str _,_ => some false
  | .tup _,.tuple => some true
  | .tup _,_ => some false
  | .lst _,.list => some true
  | .lst _,_ => some false
  | .dic _ _,_ => some false
  | .ref _,_ => none
noncomputable def tyD:D → Option String
  | .non => some "NoneType"
  | .bl _ => some "bool"
  | .int _ => some "int"
  | .str _ => some "str"
  | .tup _ => some "tuple"
  | .lst _ => some "list"
  | .dic _ _ => some "dict"
  | .ref _ => none
theorem isI_kit {K:PySem.W.Frag} {k:Ki} {d:D} {b:Bool} {t:String} (h:isI k d = some b) (ht:tyD d = some t):PySem.W.kitOne K (.type t) (.type k.nm) = some b:=by
  cases d <;> cases ht <;> cases k <;> cases h <;> rfl
theorem isinst_pk {pins:List (Addr × Obj)} {σ:L2.St} {H F:Hp} {s:Shared} {α:List Addr} {A:Around} {E:Value → Shared → Prop} {Q:Value → Shared → Prop} {cl:Value} {b:Bool} {d:D} {v:V} {u:Value} {t:String}
    (I:Inv X pins σ H s) (sub:Same F H) (h:Pk X.K α F H d v) (r:RelV v u) (ht:tyD d = some t) (e:PySem.W.kitOne X.K (.type t) cl = some b) (q:∀ tk,Q (.bool b) { s with toks:=tk }) :
    wpAny (model X.prog X.w) A (call (.builtin "isinstance") [u,cl]) Q E s:=by
  cases d with
  | non => cases ht; have:=pk_non h; subst this; exact isinst_ok I r .non e q
  | bl x => cases ht; have:=pk_bl h; subst this; exact isinst_ok I r (.bl x) e q
  | int x => cases ht; have:=pk_int h; subst this; exact isinst_ok I r (.int x) e q
  | str x => cases ht; have:=pk_str h; subst this; exact isinst_ok I r (.str _) e q
  | tup x =>
    cases ht
    unfold Pk Rep at h
    obtain ⟨a,vs,rfl,hs,hr⟩:=h
    cases r
    obtain ⟨its,rv,⟨o,h1,h2,_⟩,_⟩:=I.tuple (Same.tup sub hs)
    exact PySem.W.kia_one PySem.W.kitx_tuple I.kIn ⟨o,h1,h2⟩ e (fun z => nomatch z) q
  | lst x =>
    cases ht
    obtain ⟨a,vs,rfl,hs,hr⟩:=h
    cases r
    obtain ⟨its,rv,⟨o,n,h1,h2,_⟩,_⟩:=I.list hs
    exact PySem.W.kia_one PySem.W.kitx_list I.kIn ⟨o,h1,h2⟩ e (fun z => nomatch z) q
  | dic ks x =>
    cases ht
    obtain ⟨a,vs,rfl,hs,_⟩:=h
    exact isinst_ok I r (.dK hs) e q
  | ref x => cases ht
noncomputable def mIsI (k:Ki) (m:MX):MX:=fun ρ μ => (m ρ μ).bind fun d μ1 => ofO μ1 ((isI k (deref μ1 d)).map .bl)
theorem call_isI (k:Ki):CallR X (.builtin "isinstance") (fun xs H Q => ∃ F α d v b,Same F H ∧ xs = [v,.ty k.nm] ∧ Pk X.K α F H d v ∧ isI k d = some b ∧ Q (.bl b) H):=by
  intro pins s σ H xs us Q I r h
  obtain ⟨F,α,d,v,b,sub,rfl,hp,hk,q⟩:=h
  obtain ⟨u,w',rfl,h1,h2⟩:=vals2 r
  cases h2
  obtain ⟨t,ht⟩:∃ t,tyD d = some t:=by
    cases d <;> first | exact ⟨_,rfl⟩ | (cases hk)
  exact isinst_pk I sub hp h1 ht (isI_kit hk ht) fun tk => ⟨.bl b,H,I.tok _,rfl,q⟩
theorem me_isI {x:Str} {p p2:Pos} (k:Ki) (hx:bootBuiltins x = some (.type k.nm)) (hg:Gl X "isinstance") (hm:X.mg "isinstance" = none) (hg2:Gl X x) (hm2:X.mg x = none) (ha:ME X EX e m) (hn2:x ≠ "__name__":=by decide) (hd2:(x == ("__debug__":Str)) = false:=by decide)
    (hs:starEach [e,.Name x p2] X.env = (false,eval e X.env) :: starEach [.Name x p2] X.env:=by rfl) (hs2:starEach [.Name x p2] X.env = [(false,eval (.Name x p2) X.env)]:=by rfl):ME X EX (.Call (.Name "isinstance" p) [e,.Name x p2] [] pos) (mIsI k m):=by
  obtain ⟨t,pt,st⟩:=ha
  refine ⟨_,pe_callB (call_isI k) hg hm PyProof.Rows.boot_isinstance (pa_cons pt (pa_cons (pe_bltn (v:=.ty k.nm) hg2 hm2 hx rfl hn2 hd2) pa_nil hs2) hs) (by decide) (by decide) hs (by rw [hs2]; rfl),fun Z α F H σ ρ μ Q R g => ?_⟩
  refine st Z α F H σ ρ μ _ R (GE.step (G:=GE X.K EX Z α F Q) g (fun _ _ h => h) (fun h => h) fun d μ1 v α1 F1 H1 R1 e1 p1 g1 => ?_)
  cases hk:isI k (deref μ1 d) with
  | none => rw [hk] at g1; exact g1.elim
  | some b =>
    rw [hk] at g1
    exact ⟨F1,α1,deref μ1 d,v,b,R1.sub,rfl,R1.pk p1,hk,g1 _ α1 F1 H1 R1 e1 (rep_bl _)⟩
end
end M
set_option Elab.async false
set_option linter.all false
set_option maxRecDepth 100000
set_option maxHeartbeats 4000000
namespace M
open PySem PySem.Spec PyProof.Rows L2
noncomputable def NoX:EXT:=⟨fun _ _ _ => False,fun _ _ _ _ _ _ h => h⟩
noncomputable abbrev Fn:=List D → Mu → Res D
noncomputable def noX {α:Type}:Res α → Res α
  | .exc _ _ => .bad
  | r => r
noncomputable def spM (K:PySem.W.Frag) (n:Nat) (φ:Fn):Sp:=fun vs H Q _ => ∃ Z α F ds μ,RH K Z α F H μ ∧ Reps K F α ds vs ∧ ds.length = n ∧ GE K NoX Z α F Q (φ ds μ)
noncomputable def mCall (φ:Fn) (ms:MAs):MX:=fun ρ μ => (ms ρ μ).bind fun ds μ1 => noX (φ ds μ1)
section
variable {X:Cx} {EX:EXT} {e a b c:Expr} {pos:Pos} {m ma mb mc:MX} {es rest:List Expr} {ms:MAs}
theorem GE.noX {K:PySem.W.Frag} {Z:ZS} {α:List Addr} {F:Hp} {Q:VK} {r:Res D} (h:GE K EX Z α F Q (M.noX r)):GE K NoX Z α F Q r:=by
  cases r with
  | ok d μ => exact h
  | exc x μ => exact h.elim
  | bad => exact h
theorem me_call {x:Str} {p:Pos} {k:Nat} {f:Addr} {fd:FuncData} {ps:List Str} {φ:Fn} (F:FnOk X.prog X.w X.K X.mg X.base CX0 k f fd ps (spM X.K ps.length φ)) (hr:Room k X.A) (hg:Gl X x) (hm:X.mg x = some (.ref f)) (hk:PySem.W.keepIn X.K (.ref f) = true) (hb:Binds X.K fd ps [])
    (ha:MA X EX (e :: es) ms) (hl:(e :: es).length = ps.length) (hdb:(x == ("__debug__":Str)) = false:=by decide) (he:starEach (e :: es) X.env = (false,eval e X.env) :: starEach es X.env:=by rfl) (hpl:(backTo pos (starEach es X.env)).any (·.1) = false:=by rfl) :
    ME X EX (.Call (.Name x p) (e :: es) [] pos) (mCall φ ms):=by
  obtain ⟨t,pt,st,lt⟩:=ha
  refine ⟨_,pe_call F hr hg hm hk hb .nil pass0 pt hdb he hpl,fun Z α G H σ ρ μ Q R g => ?_⟩
  refine st Z α G H σ ρ μ _ R (GA.stepE (G:=GE X.K EX Z α G Q) g (fun _ _ h => h) (fun h => h) fun ds μ1 vs α1 F1 H1 hm1 R1 e1 p1 g1 => ?_)
  rw [List.append_nil]
  exact ⟨Z,α1,F1,ds,μ1,R1,p1,(lt _ _ _ _ hm1).trans hl,GE.noX (GE.ext e1 g1)⟩
variable {st:Stmt} {sts:List Stmt} {n n1 n2:MSt} {t:MB}
noncomputable def mSkip:MSt:=fun ρ μ => .ok (.nx ρ) μ
noncomputable def mSeq (n1 n2:MSt):MSt:=fun ρ μ => (n1 ρ μ).bind fun o μ1 => match o with
  | .nx ρ1 => n2 ρ1 μ1
  | o => .ok o μ1
noncomputable def mRet (m:MX):MSt:=fun ρ μ => (m ρ μ).bind fun d μ1 => .ok (.rt d) μ1
noncomputable def mDrop (m:MX):MSt:=fun ρ μ => (m ρ μ).bind fun _ μ1 => .ok (.nx ρ) μ1
noncomputable def mSet (i:Nat) (m:MX):MSt:=fun ρ μ => (m ρ μ).bind fun d μ1 => .ok (.nx (ρ.set i (some d))) μ1
noncomputable def mIte (t:MB) (n1 n2:MSt):MSt:=fun ρ μ => (t ρ μ).bind fun k μ1 => match k with
  | true => n1 ρ μ1
  | false => n2 ρ μ1
theorem mss_nil:MSs X EX [] mSkip:=⟨_,pss_nil,fun Z α F H σ ρ μ N R g => g σ α F H R (Ext.refl _ _)⟩
theorem mss_one (h:MS X EX st n):MSs X EX [st] n:=let ⟨t,p,s⟩:=h; ⟨t,pss_one p,s⟩
theorem mss_cons (h1:MS X EX st n1) (h2:MSs X EX sts n2):MSs X EX (st :: sts) (mSeq n1 n2):=by
  obtain ⟨t,p,s⟩:=h1
  obtain ⟨u,q,r⟩:=h2
  refine ⟨_,pss_cons p q,fun Z α F H σ ρ μ N R g => ?_⟩
  refine s Z α F H σ ρ μ _ R ?_
  unfold mSeq at g
  cases e:n1 ρ μ with
  | ok o μ1 =>
    rw [e] at g
    cases o with
    | nx ρ1 => exact fun σ' α' F' H' R' e' => r Z α' F' H' σ' ρ1 μ1 N R' (GS.ext e' g)
    | rt d => exact g
    | bk ρ1 => exact g
    | ct ρ1 => exact g
  | exc x μ1 => rw [e] at g; exact g
  | bad => rw [e] at g; exact g
theorem ms_ret (h:ME X EX e m):MS X EX (.Return (some e) pos) (mRet m):=by
  obtain ⟨t,p,s⟩:=h
  refine ⟨_,ps_ret p,fun Z α F H σ ρ μ N R g => ?_⟩
  exact s Z α F H σ ρ μ _ R (GE.step (G:=GS X.K EX Z α F N) g (fun _ _ h => h) (fun h => h) fun d μ1 v α1 F1 H1 R1 e1 p1 g1 => g1 v α1 F1 H1 R1 e1 p1)
theorem ms_expr (h:ME X EX e m) (hs:swapsWith e none pos.line X.env = pure false:=by rfl):MS X EX (.Expr e pos) (mDrop m):=by
  obtain ⟨t,p,s⟩:=h
  refine ⟨_,ps_expr p hs,fun Z α F H σ ρ μ N R g => ?_⟩
  exact s Z α F H σ ρ μ _ R (GE.step (G:=GS X.K EX Z α F N) g (fun _ _ h => h) (fun h => h) fun d μ1 v α1 F1 H1 R1 e1 p1 g1 => g1 σ α1 F1 H1 (R.to R1 e1) e1)
theorem RS.set {K:PySem.W.Frag} {Z:ZS} {F H:Hp} {α:List Addr} {σ:L2.St} {ρ:En} {μ:Mu} {d:D} {v:V} (i:Nat) (R:RS K Z α F H σ ρ μ) (p:Rep K F α d v):RS K Z α F H (σ.set i (some v)) (ρ.set i (some d)) μ:=by
  refine ⟨R.hp,by simpa using R.len,fun j e h => ?_⟩
  by_cases hj:j = i
  · subst hj
    have hl:j < ρ.length:=by
      have:=(List.getElem?_eq_some_iff.mp h).1
      simpa using this
    rw [List.getElem?_set_self hl] at h
    cases h
    exact ⟨v,List.getElem?_set_self (by rw [← R.len]; exact hl),p⟩
  · rw [List.getElem?_set_ne (Ne.symm hj)] at h
    obtain ⟨u,h1,h2⟩:=R.sl j e h
    exact ⟨u,by rw [List.getElem?_set_ne (Ne.symm hj)]; exact h1,h2⟩
theorem ms_set {i:Nat} {x:Str} {pos':Pos} (hN:X.nd) (hi:X.N[i]? = some x) (hx:Loc X.env.scope x) (hf:X.fn x = true ∨ X.env.scope.names.lookup x = some .local) (h:ME X EX e m) (hs:swapsWith e (some (.Name x pos')) pos.line X.env = pure false:=by rfl) :
    MS X EX (.Assign [.Name x pos'] e pos) (mSet i m):=by
  obtain ⟨t,p,s⟩:=h
  refine ⟨_,ps_set hN hi hx p hs hf,fun Z α F H σ ρ μ N R g => ?_⟩
  exact s Z α F H σ ρ μ _ R (GE.step (G:=GS X.K EX Z α F N) g (fun _ _ h => h) (fun h => h) fun d μ1 v α1 F1 H1 R1 e1 p1 g1 => g1 _ α1 F1 H1 ((R.to R1 e1).set i p1) e1)
theorem ms_if {sa sb:List Stmt} (hc:MT X EX c t) (ha:MSs X EX sa n1) (hb:MSs X EX sb n2):MS X EX (.If c sa sb pos) (mIte t n1 n2):=by
  obtain ⟨tc,pc,sc⟩:=hc
  obtain ⟨ta,pa,ga⟩:=ha
  obtain ⟨tb,pb,gb⟩:=hb
  refine ⟨_,ps_if pc pa pb,fun Z α F H σ ρ μ N R g => ?_⟩
  refine sc Z α F H σ ρ μ _ R (GB.step (G:=GS X.K EX Z α F N) g (fun _ _ h => h) (fun h => h) fun k μ1 α1 F1 H1 R1 e1 g1 => ?_)
  cases k with
  | true => exact ga Z α1 F1 H1 σ ρ μ1 N (R.to R1 e1) (GS.ext e1 g1)
  | false => exact gb Z α1 F1 H1 σ ρ μ1 N (R.to R1 e1) (GS.ext e1 g1)
noncomputable abbrev MG:=D → En → Option En
noncomputable def MTg (X:Cx) (tg:Expr) (mg:MG):Prop:=∃ g:TG,PG X tg g ∧ ∀ Z α F H σ ρ μ v d ρ' Q,RS X.K Z α F H σ ρ μ → Rep X.K F α d v → mg d ρ = some ρ' → (∀ σ',RS X.K Z α F H σ' ρ' μ → Q σ' H) → g v σ H Q
noncomputable def gN (i:Nat):MG:=fun d ρ => some (ρ.set i (some d))
theorem mt_name {i:Nat} {x:Str} (hN:X.nd) (hi:X.N[i]? = some x) (hx:Loc X.env.scope x) (hf:X.fn x = true ∨ X.env.scope.names.lookup x = some .local):MTg X (.Name x pos) (gN i) :=
  ⟨_,pg_name hN hi hx hf,fun Z α F H σ ρ μ v d ρ' Q R p h k => by cases h; exact k _ (R.set i p)⟩
noncomputable def forGo (tg:MG) (n:MSt):List D → En → Mu → Res Out
  | [],ρ,μ => .ok (.nx ρ) μ
  | d :: ds,ρ,μ => match tg d ρ with
    | none => .bad
    | some ρ1 => (n ρ1 μ).bind fun o μ1 => match o with
      | .nx ρ2 => forGo tg n ds ρ2 μ1
      | .ct ρ2 => forGo tg n ds ρ2 μ1
      | .bk ρ2 => .ok (.nx ρ2) μ1
      | .rt d => .ok (.rt d) μ1
noncomputable abbrev MIt:=En → Mu → Res (List D)
noncomputable def mFor (tg:MG) (it:MIt) (n:MSt):MSt:=fun ρ μ => (it ρ μ).bind fun ds μ1 => forGo tg n ds ρ μ1
noncomputable def WalkOk (K:PySem.W.Frag) (α:List Addr) (F:Hp) (J:It) (ds:List D):Prop :=
  ∀ (Z:ZS) α' F' H' (μ':Mu),RH K Z α' F' H' μ' → Ext α F α' F' → ∀ i,(i < ds.length → J.go i H' ∧ ∀ x H2,J.yld i H' x H2 → ∃ d F2,ds[i]? = some d ∧ RH K Z α' F2 H2 μ' ∧ Same F' F2 ∧ Rep K F2 α' d x) ∧ (ds.length = i → J.stop i H')
noncomputable def MI (X:Cx) (EX:EXT) (tg e:Expr) (m:MIt):Prop:=∃ wi:TI,PI X tg e wi ∧ ∀ Z α F H σ ρ μ Rr,RS X.K Z α F H σ ρ μ →
  (match m ρ μ with
    | .ok ds μ' => ∀ J α' F' H',RH X.K Z α' F' H' μ' → Ext α F α' F' → WalkOk X.K α' F' J ds → Rr J H'
    | .exc x μ' => EX.P Z x μ'
    | .bad => False) → wi σ H Rr
theorem ms_for {tg it:Expr} {body:List Stmt} {mi:MIt} {g:MG} (hp:PassesOwn (model X.prog X.w) X.A X.env X.xe) (hc:X.calm = true) (hi:MI X EX tg it mi) (hg:MTg X tg g) (hb:MSs X EX body n)
    (hs:∀ x,foldedSetIterable it X.env x = pure x:=by intro _; rfl):MS X EX (.For tg it body [] pos) (mFor g mi n):=by
  obtain ⟨wi,pi,si⟩:=hi
  obtain ⟨tgt,pg,sg⟩:=hg
  obtain ⟨tb,pb,sb⟩:=hb
  refine ⟨_,ps_for hp hc pi pg pb hs,fun Z α F H σ ρ μ N R gd => ?_⟩
  refine si Z α F H σ ρ μ _ R ?_
  unfold mFor at gd
  cases hm:mi ρ μ with
  | exc x μ1 => rw [hm] at gd; exact gd
  | bad => rw [hm] at gd; exact gd
  | ok ds μ1 =>
    rw [hm] at gd
    intro J α1 F1 H1 R1 e1 wk
    let W:Nat → Nat → L2.St → Hp → Prop:=fun i k σ' H' => k = ds.length - i ∧ i ≤ ds.length ∧ ∃ α' F' ρ' μ',RS X.K Z α' F' H' σ' ρ' μ' ∧ Ext α1 F1 α' F' ∧ GS X.K EX Z α' F' N (forGo g n (ds.drop i) ρ' μ')
    refine ⟨W,⟨ds.length,rfl,Nat.zero_le _,α1,F1,ρ,μ1,R.to R1 e1,Ext.refl _ _,GS.ext e1 gd⟩,?_⟩
    rintro i k σ2 H2 ⟨rfl,hi2,α2,F2,ρ2,μ2,R2,e2,g2⟩
    obtain ⟨w1,w2⟩:=wk Z α2 F2 H2 μ2 R2.hp e2 i
    by_cases hlt:i < ds.length
    · obtain ⟨w3,w4⟩:=w1 hlt
      refine .inr ⟨w3,fun σ' H' => W (i + 1) (ds.length - (i + 1)) σ' H',fun σ' H' h => ⟨_,by omega,h⟩,fun x H3 y => ?_⟩
      obtain ⟨d,F3,hd,R3,s3,p3⟩:=w4 x H3 y
      have e3:Ext α2 F2 α2 F3:=⟨s3,fun _ _ h => h⟩
      rw [List.drop_eq_getElem_cons hlt] at g2
      have hd':ds[i] = d:=by
        rw [List.getElem?_eq_getElem hlt] at hd
        exact Option.some.inj hd
      rw [hd'] at g2
      have R3':RS X.K Z α2 F3 H3 σ2 ρ2 μ2:=R2.to R3 e3
      simp only [forGo] at g2
      cases ht:g d ρ2 with
      | none => rw [ht] at g2; exact g2.elim
      | some ρ4 =>
        rw [ht] at g2
        simp only at g2
        refine sg Z α2 F3 H3 σ2 ρ2 μ2 x d ρ4 _ R3' p3 ht fun σ4 R4 => ?_
        refine sb Z α2 F3 H3 σ4 ρ4 μ2 _ R4 ?_
        cases hn:n ρ4 μ2 with
        | exc x μ1 => rw [hn] at g2; exact g2
        | bad => rw [hn] at g2; exact g2
        | ok o μ5 =>
          rw [hn] at g2
          cases o with
          | nx ρ5 => exact fun σ' α' F' H' R' e' => ⟨rfl,hlt,α',F',ρ5,μ5,R',e2.trans (e3.trans e'),GS.ext (e3.trans e') g2⟩
          | ct ρ5 => exact fun σ' α' F' H' R' e' => ⟨rfl,hlt,α',F',ρ5,μ5,R',e2.trans (e3.trans e'),GS.ext (e3.trans e') g2⟩
          | bk ρ5 => exact fun σ' α' F' H' R' e' => g2 σ' α' F' H' R' (e3.trans e')
          | rt d => exact fun v α' F' H' R' e' q => g2 v α' F' H' R' (e3.trans e') q
    · refine .inl ⟨w2 (by omega),?_⟩
      rw [List.drop_eq_nil_of_le (by omega)] at g2
      exact g2 σ2 α2 F2 H2 R2 (Ext.refl _ _)
noncomputable def rangeD (n:Nat):List D:=(List.range n).map fun k => .int (k:Nat)
noncomputable def asRange (ds:List D):Option (List D):=match ds with
  | [.int j] => if -(2 ^ 62) ≤ j ∧ j < 2 ^ 62 then some (rangeD j.toNat) else none
  | _ => none
noncomputable def mRange1 (m:MX):MIt:=fun ρ μ => (m ρ μ).bind fun d μ1 => ofO μ1 (asRange [d])
theorem walk_range {K:PySem.W.Frag} {F:Hp} {α:List Addr} (n:Nat):WalkOk K α F (Itr 0 n) (rangeD n):=by
  intro Z α' F' H' μ' R e i
  have hl:(rangeD n).length = n:=by simp [rangeD]
  refine ⟨fun h => ⟨by rw [hl] at h; exact h,fun x H2 y => ?_⟩,fun h => by rw [hl] at h; exact Nat.le_of_eq h⟩
  obtain ⟨rfl,rfl⟩:=y
  rw [hl] at h
  refine ⟨.int (i:Nat),F',by simp [rangeD,h],R,Same.refl _,?_⟩
  rw [Int.zero_add]
  exact rep_int _
theorem mi_range1 {tg:Expr} {p:Pos} (hg:Gl X "range") (hm:X.mg "range" = none) (ha:ME X EX a m) (hs:starEach [a] X.env = [(false,eval a X.env)]:=by rfl):MI X EX tg (.Call (.Name "range" p) [a] [] pos) (mRange1 m):=by
  obtain ⟨t,pt,st⟩:=ha
  refine ⟨_,pi_range1 hg hm (pa_cons pt pa_nil hs) hs,fun Z α F H σ ρ μ Rr R g => ?_⟩
  unfold mRange1 at g
  refine st Z α F H σ ρ μ _ R ?_
  cases h1:m ρ μ with
  | exc x μ1 => rw [h1] at g; exact g
  | bad => rw [h1] at g; exact g
  | ok d μ1 =>
    rw [h1] at g
    intro v α' F' H' R' e' p
    cases d with
    | int j =>
      unfold Rep at p
      subst p
      simp only [bind_ok,asRange] at g
      by_cases hj:-(2 ^ 62) ≤ j ∧ j < 2 ^ 62
      · rw [if_pos hj] at g
        exact ⟨j,rfl,hj.1,hj.2,g _ α' F' H' R' e' (walk_range _)⟩
      · rw [if_neg hj] at g; exact g.elim
    | _ => exact g.elim
end
noncomputable def fin (r:Res Out):Res D:=r.bind fun o μ1 => match o with
  | .rt d => .ok d μ1
  | .nx _ => .ok .non μ1
  | _ => .bad
noncomputable def fnOf (k:Nat) (n:MSt):Fn:=fun ds μ => fin (n (ds.map some ++ List.replicate k none) μ)
section
variable {P:Program} {w:World} {K:PySem.W.Frag} {mg:Str → Option Value} {base:Heap}
theorem rs_start {Z:ZS} {F H:Hp} {α:List Addr} {μ:Mu} {ds:List D} {vs:List V} (N:List Str) (k:Nat) (hk:N.length - vs.length = k) (R:RH K Z α F H μ) (r:Reps K F α ds vs):RS K Z α F H (start N vs) (ds.map some ++ List.replicate k none) μ:=by
  have hl:=r.length
  refine ⟨R,by simp [L2.start,hl,hk],fun i d h => ?_⟩
  by_cases hi:i < ds.length
  · rw [List.getElem?_append_left (by simpa using hi),List.getElem?_map] at h
    cases e:ds[i]? with
    | none => rw [e] at h; cases h
    | some d' =>
      rw [e] at h
      cases h
      obtain ⟨v,h1,h2⟩:=r.get e
      refine ⟨v,?_,h2⟩
      unfold L2.start
      rw [List.getElem?_append_left (by rw [List.length_map]; omega),List.getElem?_map,h1]
      rfl
  · rw [List.getElem?_append_right (by simp; omega)] at h
    have:=List.getElem?_replicate (a:=(none:Option D)) (n:=k) (i:=i - (ds.map some).length)
    rw [this] at h
    split at h <;> cases h
theorem fn_ok {x qual:Str} {st:Stmt} {f:Addr} {fd:FuncData} {N ps:List Str} {k j:Nat} {n:MSt} (F:Fun K x qual st f fd) (S:FnScope N ps (defScope st)) (hj:N.length - ps.length = j)
    (hb:∀ (cdv:Value) (A:Around) (outer:List Env) (s:Shared) (H:Hp) (E:XK),Room k (A.deeper (envOfC qual (defScope st) s.heap.objs.size f cdv)) →
      MSs (cxOf CX0 P w K mg base N qual (defScope st) f cdv A outer s H E).nox NoX (defBody st) n):FnOk P w K mg base CX0 (k + 1) f fd ps (spM K ps.length (fnOf j n)):=by
  refine F.ok S (fun vs H Q E h => ?_) (fun cdv A outer s H vs Q E hr h => ?_)
  · obtain ⟨Z,α,G,ds,μ,R,r,hl,_⟩:=h
    rw [← hl,r.length]
  · obtain ⟨Z,α,G,ds,μ,R,r,hl,g⟩:=h
    obtain ⟨t,p,s'⟩:=hb cdv A outer s H E hr
    refine ⟨t,p,s' Z α G H (start N vs) (ds.map some ++ List.replicate j none) μ _ (rs_start N j (by rw [← r.length,hl]; exact hj) R r) ?_⟩
    unfold fnOf fin at g
    cases e:n (ds.map some ++ List.replicate j none) μ with
    | exc x μ1 => rw [e] at g; exact g
    | bad => rw [e] at g; exact g
    | ok o μ1 =>
      rw [e] at g
      cases o with
      | rt d => exact g
      | nx ρ => exact fun σ' α' F' H' R' e' => g .non α' F' H' R'.hp e' rep_non
      | bk ρ => exact g.elim
      | ct ρ => exact g.elim
structure Ct (X:Cx) (N G:List Str):Prop where
  hN:X.N = N
  nd:N.Nodup
  loc:∀ x ∈ N,Loc X.env.scope x ∧ (x == ("__debug__":Str)) = false ∧ (x == ("__classdict__":Str)) = false
  gl:∀ x ∈ G,Gl X x
  fn:∀ x,X.fn x = true
  calm:X.calm = true
  un:X.A.units + 200 < cLine
theorem Ct.ndX {X:Cx} {N G:List Str} (C:Ct X N G):X.N.Nodup:=by rw [C.hN]; exact C.nd
theorem Ct.at {X:Cx} {N G:List Str} (C:Ct X N G) {i:Nat} {x:Str} (h:N[i]? = some x):X.N[i]? = some x:=by rw [C.hN]; exact h
theorem mem_at {N:List Str} {i:Nat} {x:Str} (h:N[i]? = some x):x ∈ N:=List.mem_of_getElem? h
theorem Loc.vis {sc:Scope} {x:Str} (h:Loc sc x):Vis sc x:=h.elim .inl fun z => .inr (.inl z)
theorem sv {X:Cx} {EX:EXT} {N G:List Str} (C:Ct X N G) (i:Nat) {x:Str} {pos:Pos} (h:N[i]? = some x):ME X EX (.Name x pos) (mVar i) :=
  me_var (C.at h) (Loc.vis (C.loc x (mem_at h)).1) (C.loc x (mem_at h)).2.1 (C.loc x (mem_at h)).2.2
theorem sa {X:Cx} {EX:EXT} {N G:List Str} (C:Ct X N G) (i:Nat) {x:Str} {pos pos':Pos} {e:Expr} {m:MX} (h:N[i]? = some x) (he:ME X EX e m) (hs:swapsWith e (some (.Name x pos')) pos.line X.env = pure false:=by rfl) (hk:X.kn = none:=by rfl) :
    MS X EX (.Assign [.Name x pos'] e pos) (mSet i m):=ms_set ⟨C.ndX,hk⟩ (C.at h) (C.loc x (mem_at h)).1 (.inl (C.fn x)) he hs
theorem st {X:Cx} {N G:List Str} (C:Ct X N G) (i:Nat) {x:Str} {pos:Pos} (h:N[i]? = some x) (hk:X.kn = none:=by rfl):MTg X (.Name x pos) (gN i):=mt_name ⟨C.ndX,hk⟩ (C.at h) (C.loc x (mem_at h)).1 (.inl (C.fn x))
theorem Ct.g {X:Cx} {N G:List Str} (C:Ct X N G) (j:Nat) {x:Str} (h:G[j]? = some x):Gl X x:=C.gl x (mem_at h)
theorem ct_of {CX:CXT} {N G:List Str} {qual:Str} {sc:Scope} {f:Addr} {cdv:Value} {A:Around} {outer:List Env} {s:Shared} {H:Hp} {E:XK} {k:Nat} (nd:N.Nodup)
    (loc:∀ x ∈ N,Loc sc x ∧ (x == ("__debug__":Str)) = false ∧ (x == ("__classdict__":Str)) = false) (gl:∀ x ∈ G,sc.names.lookup x = some .globalImplicit) (hr:Room k (A.deeper (envOfC qual sc s.heap.objs.size f cdv))) :
    Ct (cxOf CX P w K mg base N qual sc f cdv A outer s H E).nox N G :=
  ⟨rfl,nd,loc,gl,fun _ => rfl,rfl,by have:=hr.un; show (A.deeper _).units + 200 < cLine; omega⟩
end
end M
set_option Elab.async false
set_option linter.all false
set_option maxRecDepth 100000
set_option maxHeartbeats 4000000
namespace M
open PySem PySem.Spec PyProof.Rows L2
noncomputable def mNeg (m:MX):MX:=fun ρ μ => (m ρ μ).bind fun d μ1 => ofO μ1 (match d with
  | .int i => some (.int (-i))
  | _ => none)
theorem me_neg {X:Cx} {EX:EXT} {e:Expr} {pos:Pos} {m:MX} (h:ME X EX e m):ME X EX (.UnaryOp .USub e pos) (mNeg m):=by
  obtain ⟨t,p,s⟩:=h
  refine ⟨_,pe_un un_neg p,fun Z α F H σ ρ μ Q R g => ?_⟩
  refine s Z α F H σ ρ μ _ R (GE.step (G:=GE X.K EX Z α F Q) g (fun _ _ h => h) (fun h => h) fun d μ1 v α1 F1 H1 R1 e1 p1 g1 => ?_)
  cases d with
  | int i => unfold Rep at p1; exact ⟨i,p1,g1 _ α1 F1 H1 R1 e1 (rep_int _)⟩
  | _ => exact g1.elim
theorem boot_bool:bootBuiltins "bool" = some (.type "bool"):=by decide +kernel
theorem boot_str:bootBuiltins "str" = some (.type "str"):=by decide +kernel
theorem boot_tuple:bootBuiltins "tuple" = some (.type "tuple"):=by decide +kernel
noncomputable def ConstAt (K:PySem.W.Frag) (mg:Str → Option Value) (x:Str) (d:D):Prop:=∃ v u,mg x = some u ∧ RelV v u ∧ ∀ F α,Rep K F α d v
theorem me_const {X:Cx} {EX:EXT} {x:Str} {d:D} {pos:Pos} (c:ConstAt X.K X.mg x d) (hg:Gl X x) (hd:(x == ("__debug__":Str)) = false:=by decide):ME X EX (.Name x pos) (mC d):=by
  obtain ⟨v,u,h1,h2,h3⟩:=c
  exact me_c (pe_glob hg h1 h2 hd) h3
noncomputable def BindsS (fd:FuncData) (ps:List Str):Prop:=∀ us:List Value,us.length = ps.length → bindArgs fd ⟨us,[]⟩ = pure (ps.zip us)
noncomputable def DefAt (K:PySem.W.Frag) (mg:Str → Option Value) (x:Str) (st:Stmt) (ps:List Str):Prop:=∃ f fd,mg x = some (.ref f) ∧ Fun K x x st f fd ∧ BindsS fd ps
noncomputable def FnAt (P:Program) (w:World) (K:PySem.W.Frag) (mg:Str → Option Value) (base:Heap) (x:Str) (k n:Nat) (φ:Fn):Prop :=
  ∃ f fd ps,mg x = some (.ref f) ∧ PySem.W.keepIn K (.ref f) = true ∧ BindsS fd ps ∧ ps.length = n ∧ FnOk P w K mg base CX0 k f fd ps (spM K n φ)
theorem fnOk_of {P:Program} {w:World} {K:PySem.W.Frag} {mg:Str → Option Value} {base:Heap} {x:Str} {st:Stmt} {N ps:List Str} {k j n:Nat} {b:MSt} {f:Addr} {fd:FuncData} (F:Fun K x x st f fd) (S:FnScope N ps (defScope st)) (hj:N.length - ps.length = j) (hn:ps.length = n)
    (hb:∀ (cdv:Value) (A:Around) (outer:List Env) (s:Shared) (H:Hp) (E:XK),Room k (A.deeper (envOfC x (defScope st) s.heap.objs.size f cdv)) →
      MSs (cxOf CX0 P w K mg base N x (defScope st) f cdv A outer s H E).nox NoX (defBody st) b):FnOk P w K mg base CX0 (k + 1) f fd ps (spM K n (fnOf j b)):=by
  subst hn
  exact fn_ok F S hj hb
theorem fnAt_of {P:Program} {w:World} {K:PySem.W.Frag} {mg:Str → Option Value} {base:Heap} {x:Str} {st:Stmt} {ps:List Str} {k n:Nat} {φ:Fn} (D:DefAt K mg x st ps) (hn:ps.length = n)
    (hb:∀ (f:Addr) (fd:FuncData),Fun K x x st f fd → FnOk P w K mg base CX0 k f fd ps (spM K n φ)):FnAt P w K mg base x k n φ:=by
  obtain ⟨f,fd,h1,h2,h3⟩:=D
  exact ⟨f,fd,ps,h1,h2.kp,h3,hn,hb f fd h2⟩
theorem def_mk {K:PySem.W.Frag} {mg:Str → Option Value} {h:Heap} {x:Str} {st:Stmt} {ps:List Str} {f:Addr} {oc:Value} {od an:Option Addr} {osl:Array (Option Value)} {kV doc pm cdv ct:Value} (X:K.In h) (G:h.Ns mainGlobals mg)
    (a:PySem.W.nsIn K mainGlobals x = some (some (.ref f))) (l:K.lookup f = some ⟨oc,od,.func (PySem.W.fnOf x x (defArgs st) (defBody st) (defScope st) .none kV doc pm an cdv ct),osl⟩)
    (c:PySem.W.codeIn K cdv x = true) (k:PySem.W.keepIn K (.ref f) = true) (hb:BindsS (PySem.W.fnOf x x (defArgs st) (defBody st) (defScope st) .none kV doc pm an cdv ct) ps):DefAt K mg x st ps :=
  ⟨f,_,PySem.W.mg_of X G a,fun_mk (st:=st) l c k,hb⟩
theorem const_int {K:PySem.W.Frag} {mg:Str → Option Value} {h:Heap} {x:Str} {i:Int} {t:Tok} (X:K.In h) (G:h.Ns mainGlobals mg) (a:PySem.W.nsIn K mainGlobals x = some (some (.int i t))):ConstAt K mg x (.int i) :=
  ⟨.int i,_,PySem.W.mg_of X G a,⟨t,rfl⟩,fun _ _ => rep_int i⟩
theorem const_tup {K:PySem.W.Frag} {mg:Str → Option Value} {h:Heap} {x:Str} {p:Addr} {od:Option Addr} {its:Array Value} {n:Nat} {sl:Array (Option Value)} {ds:List D} {vs:List V} (X:K.In h) (G:h.Ns mainGlobals mg)
    (a:PySem.W.nsIn K mainGlobals x = some (some (.ref p))) (l:K.lookup p = some ⟨.type "tuple",od,.seq its n,sl⟩) (hz:its.size ≤ 16777216) (hv:Vals vs its.toList) (hr:∀ F α,Reps K F α ds vs):ConstAt K mg x (.tup ds) :=
  ⟨.ref p,_,PySem.W.mg_of X G a,rfl,fun F α => by unfold Rep; exact ⟨p,vs,rfl,.inr ⟨_,its,n,l,rfl,rfl,by rw [sizeLine_eq]; exact hz,hv⟩,hr F α⟩⟩
theorem reps_ints {K:PySem.W.Frag} {F:Hp} {α:List Addr}:∀ ns:List Int,Reps K F α (ns.map D.int) (ns.map V.int)
  | [] => reps_nil
  | n :: ns => reps_cons (rep_int n) (reps_ints ns)
theorem me_fn {X:Cx} {EX:EXT} {x:Str} {p pos:Pos} {k n:Nat} {φ:Fn} {e:Expr} {es:List Expr} {ms:MAs} (F:FnAt X.prog X.w X.K X.mg X.base x k n φ) (hr:Room k X.A) (hg:Gl X x)
    (ha:MA X EX (e :: es) ms) (hl:(e :: es).length = n) (hdb:(x == ("__debug__":Str)) = false:=by decide) (he:starEach (e :: es) X.env = (false,eval e X.env) :: starEach es X.env:=by rfl) (hpl:(backTo pos (starEach es X.env)).any (·.1) = false:=by rfl) :
    ME X EX (.Call (.Name x p) (e :: es) [] pos) (mCall φ ms):=by
  obtain ⟨f,fd,ps,h1,h2,h3,h4,h5⟩:=F
  subst h4
  exact me_call h5 hr hg h1 h2 (.all h3) ha hl hdb he hpl
noncomputable def locB (sc:Scope) (N:List Str):Bool:=N.all fun x => (sc.names.lookup x == some .local || sc.names.lookup x == some .cell) && !(x == ("__debug__":Str)) && !(x == ("__classdict__":Str))
noncomputable def glB (sc:Scope) (N:List Str):Bool:=N.all fun x => sc.names.lookup x == some .globalImplicit
theorem loc_of {sc:Scope} {N:List Str} (h:locB sc N = true):∀ x ∈ N,Loc sc x ∧ (x == ("__debug__":Str)) = false ∧ (x == ("__classdict__":Str)) = false:=fun x hx => by
  have:=List.all_eq_true.mp h x hx
  simp only [Bool.and_eq_true,Bool.or_eq_true,beq_iff_eq,Bool.not_eq_true'] at this
  exact ⟨this.1.1,this.1.2,this.2⟩
theorem gl_of {sc:Scope} {N:List Str} (h:glB sc N = true):∀ x ∈ N,sc.names.lookup x = some .globalImplicit:=fun x hx => by
  have:=List.all_eq_true.mp h x hx
  simpa using this
end M
set_option Elab.async false
set_option linter.all false
set_option maxRecDepth 100000
set_option maxHeartbeats 4000000
namespace M
open PySem PySem.Spec PyProof.Rows L2
section
variable (ρ:En) (μ:Mu) (m ma mb mc:MX) (ms:MAs) (t t1 t2:MB) (n n1 n2:MSt) (x y d:D) (ds:List D) (g g':G2) (gl:GL) (b:Bool) (φ:Fn) (i:Nat) (tg:MG) (it:MIt)
noncomputable def kBin2 (g:G2) (x y:D) (μ:Mu):Res D:=ofO μ (g (deref μ x) (deref μ y))
noncomputable def kCh1 (g g':G2) (mb mc:MX) (ρ:En) (x:D) (μ1:Mu):Res D:=(mb ρ μ1).bind fun y μ2 => (ofO μ2 ((g (deref μ2 x) (deref μ2 y)).bind asB)).bind fun k μ3 => match k with
  | true => (mc ρ μ3).bind fun z μ4 => ofO μ4 (g' (deref μ4 y) (deref μ4 z))
  | false => .ok (.bl false) μ3
noncomputable def kCh2 (g g':G2) (mc:MX) (ρ:En) (x y:D) (μ2:Mu):Res D:=(ofO μ2 ((g (deref μ2 x) (deref μ2 y)).bind asB)).bind fun k μ3 => match k with
  | true => (mc ρ μ3).bind fun z μ4 => ofO μ4 (g' (deref μ4 y) (deref μ4 z))
  | false => .ok (.bl false) μ3
noncomputable def kCh3 (g':G2) (mc:MX) (ρ:En) (y:D) (k:Bool) (μ3:Mu):Res D:=match k with
  | true => (mc ρ μ3).bind fun z μ4 => ofO μ4 (g' (deref μ4 y) (deref μ4 z))
  | false => .ok (.bl false) μ3
theorem e_ch:mChain g g' ma mb mc ρ μ = (ma ρ μ).bind (kCh1 g g' mb mc ρ):=rfl
theorem e_ch1:kCh1 g g' mb mc ρ x μ = (mb ρ μ).bind (kCh2 g g' mc ρ x):=rfl
theorem e_ch2:kCh2 g g' mc ρ x y μ = (ofO μ ((g (deref μ x) (deref μ y)).bind asB)).bind (kCh3 g' mc ρ y):=rfl
theorem e_ch3t:kCh3 g' mc ρ y true μ = (mc ρ μ).bind (kBin2 g' y):=rfl
noncomputable def kCons1 (ms:MAs) (ρ:En) (d:D) (μ1:Mu):Res (List D):=(ms ρ μ1).bind fun ds μ2 => .ok (d :: ds) μ2
noncomputable def kCons2 (d:D) (ds:List D) (μ2:Mu):Res (List D):=.ok (d :: ds) μ2
theorem e_cons:mCons m ms ρ μ = (m ρ μ).bind (kCons1 ms ρ):=rfl
theorem e_cons1:kCons1 ms ρ d μ = (ms ρ μ).bind (kCons2 d):=rfl
theorem e_cons2:kCons2 d ds μ = .ok (d :: ds) μ:=rfl
noncomputable def kRange1 (d:D) (μ1:Mu):Res (List D):=ofO μ1 (asRange [d])
theorem e_range1:mRange1 m ρ μ = (m ρ μ).bind kRange1:=rfl
theorem e_kRange1:kRange1 d μ = ofO μ (asRange [d]):=rfl
noncomputable def kFin (o:Out) (μ1:Mu):Res D:=match o with
  | .rt d => .ok d μ1
  | .nx _ => .ok .non μ1
  | _ => .bad
theorem e_fin (r:Res Out):fin r = r.bind kFin:=by cases r with
  | ok o μ => cases o <;> rfl
  | exc _ _ => rfl
  | bad => rfl
theorem e_fnOf (k:Nat):fnOf k n ds μ = (n (ds.map some ++ List.replicate k none) μ).bind kFin:=e_fin _
noncomputable def kTurn (tg:MG) (n:MSt) (ds:List D) (o:Out) (μ1:Mu):Res Out:=match o with
  | .nx ρ2 => forGo tg n ds ρ2 μ1
  | .ct ρ2 => forGo tg n ds ρ2 μ1
  | .bk ρ2 => .ok (.nx ρ2) μ1
  | .rt d => .ok (.rt d) μ1
theorem e_forCons (i:Nat):forGo (gN i) n (d :: ds) ρ μ = (n (ρ.set i (some d)) μ).bind (kTurn (gN i) n ds):=by
  simp only [forGo,gN]
  cases n (ρ.set i (some d)) μ with
  | ok o μ => cases o <;> rfl
  | exc _ _ => rfl
  | bad => rfl
end
section
variable (i j:Int) (a b:List Nat) (xs ys:List D) (k l:Bool)
theorem g_mulL (h:-18446744073709551616 < i) (h2:i < 18446744073709551616):gMul (.int i) (.int j) = some (.int (i * j)):=by
  simp only [gMul,gInt]; rw [if_pos (.inl ⟨h,h2⟩)]; rfl
theorem g_mulR (h:-18446744073709551616 < j) (h2:j < 18446744073709551616):gMul (.int i) (.int j) = some (.int (i * j)):=by
  simp only [gMul,gInt]; rw [if_pos (.inr ⟨h,h2⟩)]; rfl
theorem g_div (h:0 < j) (h2:j < 18446744073709551616):gDiv (.int i) (.int j) = some (.int (i / j)):=by
  simp only [gDiv,gInt]; rw [if_pos ⟨h,h2⟩]; rfl
theorem g_mod (h:0 < j):gMod (.int i) (.int j) = some (.int (i % j)):=by
  simp only [gMod,gInt]; rw [if_pos h]; rfl
theorem g_lt:gLt (.int i) (.int j) = some (.bl (decide (i < j))):=rfl
theorem g_le:gLe (.int i) (.int j) = some (.bl (decide (i ≤ j))):=rfl
theorem g_gt:gGt (.int i) (.int j) = some (.bl (decide (j < i))):=rfl
theorem g_eqI:gEq (.int i) (.int j) = some (.bl (i == j)):=by
  unfold gEq; rw [if_pos (by rfl)]; simp [eqD]
theorem atI_pos {β:Type} {xs:List β} {i:Int} (h0:0 ≤ i):atI xs i = xs[i.toNat]?:=by
  unfold atI ixN
  rw [if_pos h0]
  by_cases h:i < xs.length
  · rw [if_pos h]; rfl
  · rw [if_neg h]
    simp only [Option.bind_none]
    symm
    rw [List.getElem?_eq_none_iff]
    omega
theorem atI_neg {β:Type} {xs:List β} {i:Int} (h0:i < 0) (h1:-(xs.length:Int) ≤ i):atI xs i = xs[(i + xs.length).toNat]?:=by
  unfold atI ixN
  rw [if_neg (by omega)]
  split
  · rfl
  · omega
end
end M
set_option Elab.async false
set_option linter.all false
set_option maxRecDepth 100000
set_option maxHeartbeats 4000000
namespace M
open PySem PySem.Spec PyProof.Rows L2
section
variable {X:Cx} {EX:EXT} {pins:List (Addr × Obj)} {σ:L2.St} {H:Hp} {s:Shared} {scope:Scope} {C:Addr} {ex:List Addr} {N':List Str}
end
end M
set_option Elab.async false
set_option linter.all false
set_option maxRecDepth 100000
set_option maxHeartbeats 4000000
namespace M
open PySem PySem.Spec PyProof.Rows L2
section
variable {X:Cx} {EX:EXT} {elt tg iter:Expr} {ifs:List Expr} {scope:Scope} {pos:Pos} {T caps:List Str} {ix:List Nat} {g:MG} {t:MB} {m:MX}
end
end M
set_option Elab.async false
set_option linter.all false
set_option maxRecDepth 100000
set_option maxHeartbeats 4000000
namespace M
open PySem PySem.Spec PyProof.Rows L2
section
variable {prog:Program} {w:World} {A:Around}
variable {E:Value → Shared → Prop} {s:Shared} {z tI tO i1 i2:Addr} {f1 f2:List Addr} {n1 n2 k:Nat} {P1 P2:Nat → Value → Prop} {S1 S2:Nat → Heap → Prop} {p q:Value}
end
section
variable {X:Cx} {pins:List (Addr × Obj)} {σ:L2.St} {H:Hp} {s:Shared} {h':Heap} {fp:List Addr}
end
end M
set_option Elab.async false
set_option linter.all false
set_option maxRecDepth 100000
set_option maxHeartbeats 4000000
namespace M
open PySem PySem.Spec PyProof.Rows L2
end M
set_option Elab.async false
set_option linter.all false
set_option maxRecDepth 100000
set_option maxHeartbeats 4000000
namespace M
open PySem PySem.Spec PyProof.Rows L2
section
variable {X:Cx} {EX:EXT} {a b:Expr} {pos p tpos:Pos} {ma mb:MX} {elts:List Expr} {x1:Nat}
end
end M
set_option Elab.async false
set_option linter.all false
set_option maxRecDepth 100000
set_option maxHeartbeats 4000000
namespace M
open PySem PySem.Spec PyProof.Rows L2
section
variable {X:Cx} {EX:EXT} {e a b c:Expr} {pos:Pos} {m ma mb mc:MX} {es:List Expr}
noncomputable abbrev MOp:=En → Mu → Res (Option Int)
noncomputable def mNoP:MOp:=fun _ μ => .ok none μ
noncomputable def mPart (m:MX):MOp:=fun ρ μ => (m ρ μ).bind fun d μ1 => match d with
  | .int i => .ok (some i) μ1
  | _ => .bad
noncomputable def GO (K:PySem.W.Frag) (EX:EXT) (Z:ZS) (α:List Addr) (F:Hp) (Q:Option Int → Hp → Prop):Res (Option Int) → Prop
  | .ok o μ => ∀ α' F' H',RH K Z α' F' H' μ → Ext α F α' F' → Q o H'
  | .exc x μ => EX.P Z x μ
  | .bad => False
theorem GO.step {K:PySem.W.Frag} {Z:ZS} {α:List Addr} {F:Hp} {r:Res (Option Int)} {β:Type} {f:Option Int → Mu → Res β} {G:Res β → Prop} {Q:Option Int → Hp → Prop} (h:G (r.bind f)) (hx:∀ x μ,G (.exc x μ) → EX.P Z x μ) (hb:¬ G .bad)
    (hk:∀ d μ' α' F' H',RH K Z α' F' H' μ' → Ext α F α' F' → G (f d μ') → Q d H'):GO K EX Z α F Q r:=by
  cases r with
  | ok d μ => exact fun α' F' H' R e => hk d μ α' F' H' R e h
  | exc x μ => exact hx _ _ h
  | bad => exact hb h
noncomputable def MPt (X:Cx) (EX:EXT) (o:Option Expr) (mo:MOp):Prop:=∃ t:TO,PO X o t ∧ ∀ Z α F H σ ρ μ Q,RS X.K Z α F H σ ρ μ → GO X.K EX Z α F Q (mo ρ μ) → t σ H Q
theorem mp_none:MPt X EX none mNoP:=⟨_,po_none,fun Z α F H σ ρ μ Q R g => g α F H R.hp (Ext.refl _ _)⟩
theorem mp_some (h:ME X EX e m):MPt X EX (some e) (mPart m):=by
  obtain ⟨t,p,s⟩:=h
  refine ⟨_,po_some p,fun Z α F H σ ρ μ Q R g => ?_⟩
  refine s Z α F H σ ρ μ _ R (GE.step (G:=GO X.K EX Z α F Q) g (fun _ _ h => h) (fun h => h) fun d μ1 v α1 F1 H1 R1 e1 p1 g1 => ?_)
  cases d with
  | int i => unfold Rep at p1; exact ⟨i,p1,g1 α1 F1 H1 R1 e1⟩
  | _ => exact g1.elim
noncomputable def cutD (xs:List D) (lo hi:Option Int):List D:=(xs.drop (HT.sIx xs.length 0 lo)).take (HT.sIx xs.length xs.length hi - HT.sIx xs.length 0 lo)
noncomputable def gSl (d:D) (lo hi:Option Int):Option D:=match d with
  | .tup xs => if HT.sIx xs.length 0 lo = 0 ∧ HT.sIx xs.length xs.length hi = xs.length then none else some (.tup (cutD xs lo hi))
  | .lst xs => some (.lst (cutD xs lo hi))
  | _ => none
noncomputable def mSl (m:MX) (lo hi:MOp):MX:=fun ρ μ => (m ρ μ).bind fun d μ1 => (lo ρ μ1).bind fun l μ2 => (hi ρ μ2).bind fun h μ3 => ofO μ3 (gSl (deref μ3 d) l h)
theorem reps_cut {K:PySem.W.Frag} {F:Hp} {α:List Addr} {ds:List D} {vs:List V} {lo hi:Option Int} (h:Reps K F α ds vs):Reps K F α (cutD ds lo hi) (cutV vs lo hi):=by
  unfold cutD cutV
  rw [h.length]
  exact Reps.take _ (Reps.drop _ h)
theorem me_slice {lo hi:Option Expr} {l h:MOp} {p2:Pos} (ha:ME X EX a ma) (hl:MPt X EX lo l) (hh:MPt X EX hi h):ME X EX (.Subscript a (.Slice lo hi none p2) pos) (mSl ma l h):=by
  obtain ⟨ta,pa,sa⟩:=ha
  obtain ⟨tl,pl,sl⟩:=hl
  obtain ⟨th,ph,sh⟩:=hh
  refine ⟨_,pe_slice (SlR.or sl_tup sl_list) pa pl ph,fun Z α F H σ ρ μ Q R g => ?_⟩
  refine sa Z α F H σ ρ μ _ R (GE.step (G:=GE X.K EX Z α F Q) g (fun _ _ h => h) (fun h => h) fun d μ1 v α1 F1 H1 R1 e1 p1 g1 => ?_)
  refine sl Z α1 F1 H1 σ ρ μ1 _ (R.to R1 e1) (GO.step (G:=GE X.K EX Z α F Q) g1 (fun _ _ h => h) (fun h => h) fun l μ2 α2 F2 H2 R2 e2 g2 => ?_)
  refine sh Z α2 F2 H2 σ ρ μ2 _ (R.to R2 (e1.trans e2)) (GO.step (G:=GE X.K EX Z α F Q) g2 (fun _ _ h => h) (fun h => h) fun h μ3 α3 F3 H3 R3 e3 g3 => ?_)
  have p3:=R3.pk ((p1.mono e2).mono e3)
  cases hd:deref μ3 d with
  | tup xs =>
    rw [hd] at p3 g3
    unfold Pk Rep at p3
    obtain ⟨q,vs,rfl,hs,hr⟩:=p3
    simp only [gSl] at g3
    split at g3
    · exact g3.elim
    · rename_i hw
      refine .inl ⟨q,vs,rfl,Same.tup R3.sub hs,by rw [← hr.length]; exact hw,fun p hp => ?_⟩
      obtain ⟨a1,a2,a3⟩:=lay_tup R3 (reps_cut (lo:=l) (hi:=h) hr) hp
      exact g3 _ _ _ _ a1 (e1.trans (e2.trans (e3.trans ⟨a2,fun _ _ h => h⟩))) a3
  | lst xs =>
    rw [hd] at p3 g3
    obtain ⟨q,vs,rfl,hs,hr⟩:=p3
    refine .inr ⟨q,vs,rfl,hs,fun p hp => ?_⟩
    obtain ⟨a1,a2,a3⟩:=lay_lst R3 (reps_cut (lo:=l) (hi:=h) hr) hp
    exact g3 _ _ _ _ a1 (e1.trans (e2.trans (e3.trans ⟨a2,fun _ _ h => h⟩))) a3
  | _ => rw [hd] at g3; exact g3.elim
end
end M
set_option Elab.async false
set_option linter.all false
set_option maxRecDepth 100000
set_option maxHeartbeats 4000000
namespace M
open PySem PySem.Spec PyProof.Rows L2
section
variable {X:Cx} {EX:EXT} {e a b c f:Expr} {pos:Pos} {m ma mb mc:MX} {es:List Expr}
noncomputable def DictAt (w:World) (K:PySem.W.Frag) (mg:Str → Option Value) (x:Str) (ks:List DK) (ds:List D):Prop :=
  ∃ p us vs,mg x = some (.ref p) ∧ (p == sysModules) = false ∧ (∀ (P:Program) (h:Heap),K.In h → h.DictOf (mixKind P w) p us) ∧ KV ((ks.map dk).zip vs) us ∧ ks.length = ds.length ∧ ∀ F α,Reps K F α ds vs
variable {x:Str} {ks:List DK} {ds:List D}
theorem me_cdget {p:Pos} (c:DictAt X.w X.K X.mg x ks ds) (hg:Gl X x) (hb:ME X EX b mb) (hs:NoSl b) (hd:(x == ("__debug__":Str)) = false:=by decide):ME X EX (.Subscript (.Name x p) b pos) (mBin gDGet (mC (.dic ks ds)) mb):=by
  obtain ⟨q,us,vs,h1,h2,h3,h4,h5,h6⟩:=c
  obtain ⟨tb,pb,sb⟩:=hb
  refine ⟨fun σ H Q => tb σ H fun y H1 => ∃ k v,y = kV k ∧ valV ((ks.map dk).zip vs) k = some v ∧ Q v H1,fun pins s σ H Q I h => ?_,fun Z α F H σ ρ μ Q R g => ?_⟩
  · refine subD_of PySem.F.slot_dict_getitem.lookup hs (ld_glob I hg h1 (thn (pb pins s σ H _ I h) fun iv s2 ⟨y,H2,I2,ry,k,v,ey,hv,q2⟩ => ?_) hd)
    have dd:=h3 X.prog _ I2.kIn
    refine ⟨dd.typeIs,?_⟩
    subst ey
    obtain ⟨w',hw,rw'⟩:=RelO.some_of (v:=v) (o:=valueAt us k) (by rw [← hv]; exact h4.val k)
    exact wpAny_getItem_of (kV_is ry) dd.mapOf hw ⟨v,H2,I2.tok _,rw',q2⟩
  · refine sb Z α F H σ ρ μ _ R (GE.step (G:=GE X.K EX Z α F Q) (show GE X.K EX Z α F Q ((mb ρ μ).bind fun d μ1 => ofO μ1 (gDGet (deref μ1 (.dic ks ds)) (deref μ1 d))) from g) (fun _ _ h => h) (fun h => h) fun d μ1 v α1 F1 H1 R1 e1 p1 g1 => ?_)
    simp only [deref_dic,gDGet] at g1
    cases hk:keyD (deref μ1 d) with
    | none => rw [hk] at g1; exact g1.elim
    | some kk =>
      rw [hk] at g1
      have hy:=key_pk (R1.pk p1) hk
      rcases look_val (k:=kk) (h6 F1 α1) h5 with ⟨d',v',l1,l2,l3⟩ | ⟨l1,l2⟩
      · have g1:GE X.K EX Z α F Q (ofO μ1 (lookK ks ds kk)):=g1
        rw [l1] at g1
        exact ⟨_,v',hy,l2,g1 v' α1 F1 H1 R1 e1 l3⟩
      · have g1:GE X.K EX Z α F Q (ofO μ1 (lookK ks ds kk)):=g1
        rw [l1] at g1
        exact g1.elim
end
section
variable {X:Cx} {EX:EXT} {N G:List Str}
end
end M
set_option Elab.async false
set_option linter.all false
set_option maxRecDepth 100000
set_option maxHeartbeats 4000000
namespace M
open PySem PySem.Spec PyProof.Rows L2
end M
set_option Elab.async false
set_option linter.all false
set_option maxRecDepth 100000
set_option maxHeartbeats 4000000
namespace M
open PySem PySem.Spec PyProof.Rows L2
variable {ρ:En} {μ μ1 μ2:Mu} {m ma mb mc:MX} {ms:MAs} {t u:MB} {n a b r:MSt} {d x y z:D} {ds:List D} {k:Bool} {φ:Fn} {g:G2} {o:Out}
theorem v_var (i:Nat) (h:ρ[i]? = some (some d)):mVar i ρ μ = .ok d μ:=by unfold mVar; rw [h]
theorem v_bin (ha:ma ρ μ = .ok x μ1) (hb:mb ρ μ1 = .ok y μ2) (hg:g (deref μ2 x) (deref μ2 y) = some z):mBin g ma mb ρ μ = .ok z μ2:=by unfold mBin; rw [ha,bind_ok,hb,bind_ok,hg]; rfl
theorem v_nil:mNil ρ μ = .ok [] μ:=rfl
theorem v_cons (ha:m ρ μ = .ok d μ1) (hb:ms ρ μ1 = .ok ds μ2):mCons m ms ρ μ = .ok (d :: ds) μ2:=by rw [e_cons,ha,bind_ok,e_cons1,hb,bind_ok,e_cons2]
theorem v_tup (h:ms ρ μ = .ok ds μ1):mTup ms ρ μ = .ok (.tup ds) μ1:=by unfold mTup; rw [h]; rfl
theorem v_lst (h:ms ρ μ = .ok ds μ1):mLst ms ρ μ = .ok (.lst ds) μ1:=by unfold mLst; rw [h]; rfl
theorem v_call (h:ms ρ μ = .ok ds μ1) (hf:φ ds μ1 = .ok d μ2):mCall φ ms ρ μ = .ok d μ2:=by unfold mCall; rw [h,bind_ok,hf]; rfl
theorem v_callB {g:GL} (h:ms ρ μ = .ok ds μ1) (hf:g (ds.map (deref μ1)) = some d):mCallB g ms ρ μ = .ok d μ1:=by unfold mCallB; rw [h,bind_ok,hf]; rfl
theorem v_test (h:m ρ μ = .ok (.bl k) μ1):mTest m ρ μ = .ok k μ1:=by unfold mTest; rw [h]; rfl
theorem v_tru (h:m ρ μ = .ok d μ1) (ht:truD (deref μ1 d) = some k):mTru m ρ μ = .ok k μ1:=by unfold mTru; rw [h,bind_ok,ht]; rfl
theorem v_not (h:t ρ μ = .ok k μ1):mNot t ρ μ = .ok (!k) μ1:=by unfold mNot; rw [h]; rfl
theorem v_andT (h:t ρ μ = .ok true μ1):mAnd t u ρ μ = u ρ μ1:=by unfold mAnd; rw [h]; rfl
theorem v_andF (h:t ρ μ = .ok false μ1):mAnd t u ρ μ = .ok false μ1:=by unfold mAnd; rw [h]; rfl
theorem v_orT (h:t ρ μ = .ok true μ1):mOr t u ρ μ = .ok true μ1:=by unfold mOr; rw [h]; rfl
theorem v_orF (h:t ρ μ = .ok false μ1):mOr t u ρ μ = u ρ μ1:=by unfold mOr; rw [h]; rfl
theorem v_andVT (h:ma ρ μ = .ok (.bl true) μ1):mAndV ma mb ρ μ = mb ρ μ1:=by unfold mAndV; rw [h]; rfl
theorem v_andVF (h:ma ρ μ = .ok (.bl false) μ1):mAndV ma mb ρ μ = .ok (.bl false) μ1:=by unfold mAndV; rw [h]; rfl
theorem v_orVT (h:ma ρ μ = .ok (.bl true) μ1):mOrV ma mb ρ μ = .ok (.bl true) μ1:=by unfold mOrV; rw [h]; rfl
theorem v_orVF (h:ma ρ μ = .ok (.bl false) μ1):mOrV ma mb ρ μ = mb ρ μ1:=by unfold mOrV; rw [h]; rfl
theorem v_ifT (h:t ρ μ = .ok true μ1):mIf t ma mb ρ μ = ma ρ μ1:=by unfold mIf; rw [h]; rfl
theorem v_ifF (h:t ρ μ = .ok false μ1):mIf t ma mb ρ μ = mb ρ μ1:=by unfold mIf; rw [h]; rfl
theorem v_ret (h:m ρ μ = .ok d μ1):mRet m ρ μ = .ok (.rt d) μ1:=by unfold mRet; rw [h]; rfl
theorem v_set (i:Nat) (h:m ρ μ = .ok d μ1):mSeq (mSet i m) r ρ μ = r (ρ.set i (some d)) μ1:=by unfold mSeq mSet; rw [h]; rfl
theorem v_iteT (h:t ρ μ = .ok true μ1):mIte t a b ρ μ = a ρ μ1:=by unfold mIte; rw [h]; rfl
theorem v_iteF (h:t ρ μ = .ok false μ1):mIte t a b ρ μ = b ρ μ1:=by unfold mIte; rw [h]; rfl
theorem v_seqN {ρ1:En} (h:n ρ μ = .ok (.nx ρ1) μ1):mSeq n r ρ μ = r ρ1 μ1:=by unfold mSeq; rw [h]; rfl
theorem v_seqR (h:n ρ μ = .ok (.rt d) μ1):mSeq n r ρ μ = .ok (.rt d) μ1:=by unfold mSeq; rw [h]; rfl
theorem v_skip (h:t ρ μ = .ok false μ1):mSeq (mIte t a mSkip) r ρ μ = r ρ μ1:=v_seqN (v_iteF h)
theorem v_take (h:t ρ μ = .ok true μ1) (hm:m ρ μ1 = .ok d μ2):mSeq (mIte t (mRet m) b) r ρ μ = .ok (.rt d) μ2:=v_seqR ((v_iteT h).trans (v_ret hm))
theorem v_fn (j:Nat) (h:n (ds.map some ++ List.replicate j none) μ = .ok (.rt d) μ1):fnOf j n ds μ = .ok d μ1:=by rw [e_fnOf,h]; rfl
theorem v_forN (i:Nat) {ρ1:En} (h:n (ρ.set i (some d)) μ = .ok (.nx ρ1) μ1):forGo (gN i) n (d :: ds) ρ μ = forGo (gN i) n ds ρ1 μ1:=by rw [e_forCons,h]; rfl
theorem v_andVB {k k2:Bool} (h:ma ρ μ = .ok (.bl k) μ) (h2:mb ρ μ = .ok (.bl k2) μ):mAndV ma mb ρ μ = .ok (.bl (k && k2)) μ:=by
  cases k
  · exact v_andVF h
  · rw [v_andVT h,h2]; rfl
theorem v_orVB {k k2:Bool} (h:ma ρ μ = .ok (.bl k) μ) (h2:mb ρ μ = .ok (.bl k2) μ):mOrV ma mb ρ μ = .ok (.bl (k || k2)) μ:=by
  cases k
  · rw [v_orVF h,h2]; rfl
  · exact v_orVT h
theorem v_pick {L:List D} {i:Int} {n:Nat} (h:ms ρ μ = .ok L μ) (hi:m ρ μ = .ok (.int i) μ) (hl:L.length = n) (h0:0 < n):∃ d ∈ L,mBin gIdx (mLst ms) (mBin gMod m (mC (.int n))) ρ μ = .ok d μ:=by
  have h1:mBin gMod m (mC (.int n)) ρ μ = .ok (.int (i % n)) μ:=v_bin hi rfl (g_mod i n (by omega))
  have hk:(i % n).toNat < L.length:=by
    have a1:=Int.emod_nonneg i (b:=(n:Int)) (by omega)
    have a2:=Int.emod_lt_of_pos i (b:=(n:Int)) (by omega)
    omega
  refine ⟨L[(i % n).toNat],List.getElem_mem hk,v_bin (v_lst h) h1 ?_⟩
  show atI L (i % n) = _
  rw [atI_pos (Int.emod_nonneg _ (by omega)),List.getElem?_eq_getElem hk]
end M
set_option Elab.async false
set_option linter.all false
set_option maxRecDepth 100000
set_option maxHeartbeats 4000000
namespace M
open PySem PySem.Spec PyProof.Rows L2
theorem get_snoc {β:Type} {l:List β} {x y:β} {k:Nat} (h:(l ++ [x])[k]? = some y):l[k]? = some y ∨ (k = l.length ∧ y = x):=by
  by_cases hk:k < l.length
  · rw [List.getElem?_append_left hk] at h; exact .inl h
  · rw [List.getElem?_append_right (by omega)] at h
    have:k - l.length = 0:=by
      cases e:k - l.length with
      | zero => rfl
      | succ n => rw [e] at h; simp at h
    rw [this] at h
    simp at h
    exact .inr ⟨by omega,h.symm⟩
theorem ext_snoc (α:List Addr) (F:Hp) (p:Addr):Ext α F (α ++ [p]) F:=⟨Same.refl F,fun k a h => by
  have:k < α.length:=by
    by_cases hk:k < α.length
    · exact hk
    · rw [List.getElem?_eq_none (by omega)] at h; cases h
  rw [List.getElem?_append_left this]; exact h⟩
section
variable {K:PySem.W.Frag} {Z:ZS} {F H:Hp} {α:List Addr} {μ:Mu} {p:Addr} {o o':HO} {c:Cell}
theorem CellOk.mono {α':List Addr} {H':Hp} {a:Addr} (h:CellOk K α F H a c) (e:Ext α F α' F) (hh:c ≠ .dead → H' a = H a):CellOk K α' F H' a c:=by
  exact h.go e (fun _ => rfl) hh
theorem RH.unholdC (r:RH K (ZS.up Z p o) α F H μ) (hz:Z.z p = none) (hok:CellOk K (α ++ [p]) F (upd H p o') p c):RH K Z (α ++ [p]) F (upd H p o') (μ ++ [c]):=by
  have fp:F p = none:=r.zf p o up_same
  have nc:∀ (k:Nat) (a:Addr) (c:Cell),α[k]? = some a → μ[k]? = some c → c ≠ .dead → a ≠ p:=fun k a c ha hc hd z => by
    have:=r.zc k a c ha hc hd
    rw [z,up_same] at this
    cases this
  have hlen:=r.len
  have both:∀ (k:Nat) (a:Addr) (c':Cell),(α ++ [p])[k]? = some a → (μ ++ [c])[k]? = some c' → (α[k]? = some a ∧ μ[k]? = some c') ∨ (k = α.length ∧ a = p ∧ c' = c):=fun k a c' ha hc => by
    rcases get_snoc ha with h1 | ⟨h1,h2⟩
    · rcases get_snoc hc with h3 | ⟨h3,h4⟩
      · exact .inl ⟨h1,h3⟩
      · have:k < α.length:=(List.getElem?_eq_some_iff.mp h1).1
        omega
    · rcases get_snoc hc with h3 | ⟨h3,h4⟩
      · have:k < μ.length:=(List.getElem?_eq_some_iff.mp h3).1
        omega
      · exact .inr ⟨h1,h2,h4⟩
  refine ⟨fun b u e => ?_,by simp [hlen],fun k a c' ha hc => ?_,fun b u e => ?_,fun b u e => ?_,fun k a c' ha hc hd => ?_,fun j k a c1 c2 hj hk cj ck d1 d2 => ?_,r.ext.trans (ext_snoc α F p)⟩
  · rw [upd_ne (fun z => by rw [z,fp] at e; cases e)]; exact r.sub b u e
  · rcases both k a c' ha hc with ⟨h1,h2⟩ | ⟨h1,h2,h3⟩
    · exact (r.cell k a c' h1 h2).mono (ext_snoc α F p) fun hd => by rw [upd_ne (nc k a c' h1 h2 hd)]
    · rw [h2,h3]; exact hok
  · have hb:b ≠ p:=fun z => by rw [z,hz] at e; cases e
    rw [upd_ne hb]
    exact r.zs b u (by rw [up_ne hb]; exact e)
  · have hb:b ≠ p:=fun z => by rw [z,hz] at e; cases e
    exact r.zf b u (by rw [up_ne hb]; exact e)
  · rcases both k a c' ha hc with ⟨h1,h2⟩ | ⟨h1,h2,h3⟩
    · have:=r.zc k a c' h1 h2 hd
      rw [up_ne (nc k a c' h1 h2 hd)] at this
      exact this
    · rw [h2]; exact hz
  · rcases both j a c1 hj cj with ⟨h1,h2⟩ | ⟨h1,h2,h3⟩
    · rcases both k a c2 hk ck with ⟨g1,g2⟩ | ⟨g1,g2,g3⟩
      · exact r.dis j k a c1 c2 h1 g1 h2 g2 d1 d2
      · exact absurd g2 (nc j a c1 h1 h2 d1)
    · rcases both k a c2 hk ck with ⟨g1,g2⟩ | ⟨g1,g2,g3⟩
      · exact absurd h2 (nc k a c2 g1 g2 d2)
      · omega
theorem upd_upd (H:Hp) (p:Addr) (o o':HO):upd (upd H p o) p o' = upd H p o':=by
  funext b
  by_cases hb:b = p
  · subst hb; rw [upd_same,upd_same]
  · rw [upd_ne hb,upd_ne hb,upd_ne hb]
theorem RH.newCell (r:RH K Z α F H μ) (hp:H p = none) (hok:CellOk K (α ++ [p]) F (upd H p o') p c):RH K Z (α ++ [p]) F (upd H p o') (μ ++ [c]):=by
  have hz:Z.z p = none:=by
    cases e:Z.z p with
    | none => rfl
    | some u => rw [r.zs _ _ e] at hp; cases hp
  have:=RH.unholdC (o:=o') (o':=o') (r.hold o' hp) hz (by rw [upd_upd]; exact hok)
  rw [upd_upd] at this
  exact this
theorem fnone (r:RH K Z α F H μ) (hp:H p = none):F p = none:=by
  cases e:F p with
  | none => rfl
  | some u => rw [r.sub _ _ e] at hp; cases hp
theorem new_lst {ds:List D} {vs:List V} (r:RH K Z α F H μ) (hr:Reps K F α ds vs) (hp:H p = none) :
    RH K Z (α ++ [p]) F (upd H p (.lst vs)) (μ ++ [.lst ds]) ∧ Ext α F (α ++ [p]) F ∧ Rep K F (α ++ [p]) (.ref μ.length) (.ref p):=by
  refine ⟨r.newCell hp ⟨fnone r hp,vs,upd_same,hr.mono (ext_snoc α F p)⟩,ext_snoc α F p,?_⟩
  unfold Rep
  exact ⟨p,by rw [← r.len,List.getElem?_append_right (Nat.le_refl _)]; simp,rfl⟩
theorem RH.setCell {k:Nat} {a:Addr} {c0:Cell} (r:RH K Z α F H μ) (ha:α[k]? = some a) (hc:μ[k]? = some c0) (hd:c0 ≠ .dead) (hok:CellOk K α F (upd H a o) a c):RH K Z α F (upd H a o) (μ.set k c):=by
  have hF:F a = none:=by
    exact ((r.cell k a c0 ha hc).live hd).1
  have hZ:Z.z a = none:=r.zc k a c0 ha hc hd
  have hk:k < μ.length:=(List.getElem?_eq_some_iff.mp hc).1
  have at':∀ (j:Nat) (c':Cell),(μ.set k c)[j]? = some c' → (j = k ∧ c' = c) ∨ (j ≠ k ∧ μ[j]? = some c'):=fun j c' h => by
    by_cases e:j = k
    · subst e; rw [List.getElem?_set_self hk] at h; exact .inl ⟨rfl,(Option.some.inj h).symm⟩
    · rw [List.getElem?_set_ne (Ne.symm e)] at h; exact .inr ⟨e,h⟩
  refine ⟨fun b u e => ?_,by simp [r.len],fun j b c' hj hc' => ?_,fun b u e => ?_,r.zf,fun j b c' hj hc' d' => ?_,fun i j b c1 c2 hi hj ci cj d1 d2 => ?_,r.ext⟩
  · rw [upd_ne (fun z => by rw [z,hF] at e; cases e)]; exact r.sub b u e
  · rcases at' j c' hc' with ⟨e1,e2⟩ | ⟨e1,e2⟩
    · subst e1; rw [ha] at hj; cases hj; rw [e2]; exact hok
    · refine (r.cell j b c' hj e2).mono (Ext.refl _ _) fun d' => ?_
      rw [upd_ne (fun z => e1 (r.dis j k a c' c0 (by rw [← z]; exact hj) ha e2 hc d' hd))]
  · rw [upd_ne (fun z => by rw [z,hZ] at e; cases e)]; exact r.zs b u e
  · rcases at' j c' hc' with ⟨e1,e2⟩ | ⟨e1,e2⟩
    · subst e1; rw [ha] at hj; cases hj; exact hZ
    · exact r.zc j b c' hj e2 d'
  · rcases at' i c1 ci with ⟨e1,e2⟩ | ⟨e1,e2⟩
    · rcases at' j c2 cj with ⟨g1,g2⟩ | ⟨g1,g2⟩
      · omega
      · subst e1
        exact r.dis i j b c0 c2 hi hj hc g2 hd d2
    · rcases at' j c2 cj with ⟨g1,g2⟩ | ⟨g1,g2⟩
      · subst g1
        exact r.dis i j b c1 c0 hi hj e2 hc d1 hd
      · exact r.dis i j b c1 c2 hi hj e2 g2 d1 d2
end
noncomputable def mLstC (ms:MAs):MX:=fun ρ μ => (ms ρ μ).bind fun ds μ1 => .ok (.ref μ1.length) (μ1 ++ [.lst ds])
section
variable {X:Cx} {EX:EXT} {e a b c:Expr} {pos:Pos} {m ma mb mc:MX} {es:List Expr} {ms:MAs}
theorem me_lstC (h:MA X EX es ms) (hl:es.length ≤ 16777216:=by decide):ME X EX (.List es pos) (mLstC ms):=by
  obtain ⟨t,p,s,l⟩:=h
  refine ⟨_,pe_lst p,fun Z α F H σ ρ μ Q R g => ?_⟩
  refine s Z α F H σ ρ μ _ R (GA.stepE (G:=GE X.K EX Z α F Q) g (fun _ _ h => h) (fun h => h) fun ds μ1 vs α1 F1 H1 hm R1 e1 p1 g1 => ?_)
  refine ⟨by rw [← p1.length,sizeLine_eq,l _ _ _ _ hm]; exact hl,fun q hq => ?_⟩
  obtain ⟨a1,a2,a3⟩:=new_lst R1 p1 hq
  exact g1 _ _ _ _ a1 (e1.trans a2) a3
end
end M
set_option Elab.async false
set_option linter.all false
set_option maxRecDepth 100000
set_option maxHeartbeats 4000000
namespace M
open PySem PySem.Spec PyProof.Rows L2
noncomputable def isLst:D → Bool
  | .lst _ => true
  | _ => false
noncomputable def appC (d y:D) (μ:Mu):Res D:=match d with
  | .ref k => match μ[k]? with
    | some (.lst ds) => if ds.length < 16777216 then .ok .non (μ.set k (.lst (ds ++ [y]))) else .bad
    | _ => .bad
  | _ => .bad
noncomputable def mAppend (mo m:MX):MX:=fun ρ μ => (mo ρ μ).bind fun d μ1 => if isLst (deref μ1 d) = true then (m ρ μ1).bind fun y μ2 => appC d y μ2 else .bad
section
variable {X:Cx} {EX:EXT} {e a b c o i:Expr} {pos pos':Pos} {m ma mb mc mo mi mv:MX} {es:List Expr} {ms:MAs}
theorem lst_at {K:PySem.W.Frag} {Z:ZS} {F H:Hp} {α:List Addr} {μ:Mu} {k:Nat} {v:V} {ds:List D} (R:RH K Z α F H μ) (p:Rep K F α (.ref k) v) (h:μ[k]? = some (.lst ds)):∃ a vs,v = .ref a ∧ α[k]? = some a ∧ H a = some (.lst vs) ∧ Reps K F α ds vs ∧ F a = none:=by
  unfold Rep at p
  obtain ⟨a,ha,hv⟩:=p
  obtain ⟨h1,vs,h2,h3⟩:=R.cell k a _ ha h
  exact ⟨a,vs,hv,ha,h2,h3,h1⟩
theorem me_append {apos cpos:Pos} (ho:ME X EX o mo) (ha:MA X EX [a] ms) (hm:∀ ρ μ,ms ρ μ = (m ρ μ).bind fun d μ1 => .ok [d] μ1)
    (hbase:attributeBase o "append" X.env (eval o X.env) = eval o X.env:=by rfl)
    (hfew:((backTo cpos (starEach [a] X.env)).all (fun x => !x.1) && (backToKw cpos (keywordEach [] X.env)).all (fun x => x.1.isSome)
      && decide ([a].length + ([]:List Keyword).length + (if ([]:List Keyword).isEmpty then 0 else 1) < 30)) = true:=by rfl)
    (hline:(apos.endLine == cpos.line) = true:=by rfl) (hs:starEach [a] X.env = (false,eval a X.env) :: starEach [] X.env:=by rfl) (hplain:(backTo cpos (starEach [] X.env)).any (·.1) = false:=by rfl) :
    ME X EX (.Call (.Attribute o "append" apos) [a] [] cpos) (mAppend mo m):=by
  obtain ⟨to,po,so⟩:=ho
  obtain ⟨ta,pa,sa,_⟩:=ha
  refine ⟨_,pe_bm PySem.F.plainAttrs_list PySem.F.slot_list_append PySem.F.type_list_append mt_append po pa hbase hfew hline hs hplain,fun Z α F H σ ρ μ Q R g => ?_⟩
  refine so Z α F H σ ρ μ _ R (GE.step (G:=GE X.K EX Z α F Q) g (fun _ _ h => h) (fun h => h) fun d μ1 v α1 F1 H1 R1 e1 p1 g1 => ?_)
  by_cases hd:isLst (deref μ1 d) = true
  · rw [if_pos hd] at g1
    refine ⟨?_,?_⟩
    · have k1:=R1.pk p1
      cases hq:deref μ1 d with
      | lst xs =>
        rw [hq] at k1
        obtain ⟨q,us,rfl,hsq,hr⟩:=k1
        exact .inl ⟨rfl,us,hsq⟩
      | _ => rw [hq] at hd; cases hd
    · refine sa Z α1 F1 H1 σ ρ μ1 _ (R.to R1 e1) ?_
      rw [hm]
      cases hy:m ρ μ1 with
      | exc x μ2 => rw [hy] at g1; exact g1
      | bad => rw [hy] at g1; exact g1
      | ok y μ2 =>
        rw [hy] at g1
        intro vs α2 F2 H2 R2 e2 p2
        unfold Reps at p2
        obtain ⟨vy,r,rfl,p2,hr⟩:=p2
        have hr:r = []:=hr
        subst hr
        have p1':=p1.mono e2
        have g1:GE X.K EX Z α F Q (appC d y μ2):=g1
        unfold appC at g1
        cases d with
        | ref k =>
          simp only at g1
          cases hc:μ2[k]? with
          | none => rw [hc] at g1; exact g1.elim
          | some cc =>
            rw [hc] at g1
            cases cc with
            | lst ds =>
              simp only at g1
              split at g1
              · rename_i hl
                obtain ⟨q,us,rfl,hα,hH,hr,hF⟩:=lst_at R2 p1' hc
                refine ⟨q,us,vy,rfl,rfl,hH,by rw [← hr.length,sizeLine_eq]; exact hl,?_⟩
                exact g1 .non α2 F2 _ (R2.setCell hα hc (by simp) ⟨hF,_,upd_same,hr.append (reps_cons p2 reps_nil)⟩) (e1.trans e2) rep_non
              · exact g1.elim
            | _ => exact g1.elim
        | _ => exact g1.elim
  · rw [if_neg hd] at g1; exact g1.elim
end
end M
set_option Elab.async false
set_option linter.all false
set_option maxRecDepth 100000
set_option maxHeartbeats 4000000
namespace M
open PySem PySem.Spec PyProof.Rows L2
section
variable {X:Cx} {EX:EXT} {a b:Expr} {pos p tpos:Pos} {ma mb:MX} {elts:List Expr} {x1:Nat}
end
end M
set_option Elab.async false
set_option linter.all false
set_option maxRecDepth 100000
set_option maxHeartbeats 4000000
namespace M
open PySem PySem.Spec PyProof.Rows L2
section
variable {X:Cx} {EX:EXT} {e a b c:Expr} {pos pos2:Pos} {m ma mb mc:MX} {es:List Expr} {ms:MAs}
end
end M
set_option Elab.async false
set_option linter.all false
set_option maxRecDepth 100000
set_option maxHeartbeats 4000000
namespace M
open PySem PySem.Spec PyProof.Rows L2
section
variable {Md:Model} {A:Around} {E:Value → Shared → Prop} {s:Shared} {base:Heap} {env:Env} {outer:List Env} {L e:Addr}
end
end M
set_option Elab.async false
set_option linter.all false
set_option maxRecDepth 100000
set_option maxHeartbeats 4000000
namespace M
open PySem PySem.Spec PyProof.Rows L2
section
variable {P:Program} {w:World} {H H0 H':Hp} {h h' h0:Heap} {a T L:Addr} {C:Value} {dx tr tr':Option Addr} {fs:List Addr} {env:Env} {outer:List Env}
end
section
variable {P:Program} {w:World} {K:PySem.W.Frag} {mg:Str → Option Value} {base:Heap} {N:List Str} {qual:Str} {sc:Scope} {f:Addr} {cdv:Value} {A:Around} {outer:List Env} {s:Shared} {H:Hp} {E:XK}
end
end M
set_option Elab.async false
set_option linter.all false
set_option maxRecDepth 100000
set_option maxHeartbeats 4000000
namespace M
open PySem PySem.Spec PyProof.Rows L2
noncomputable abbrev XCs:=Nat → Str × Option Str
section
variable {P:Program} {w:World} {K:PySem.W.Frag} {mg:Str → Option Value} {base:Heap} {xc:XCs}
end
section
variable {X:Cx} {e a b c:Expr} {pos:Pos} {m ma mb mc:MX} {es rest:List Expr} {ms:MAs} {E:XK} {xc:XCs}
end
end M
set_option Elab.async false
set_option linter.all false
set_option maxRecDepth 100000
set_option maxHeartbeats 4000000
namespace M
open PySem PySem.Spec PyProof.Rows L2
section
variable {prog:Program} {w:World} {A:Around} {E:Value → Shared → Prop} {h:Heap} {g:Array GenState} {d:Drawn} {t:Nat} {os:OsState}
variable {nm q:Str} {C N f:Addr} {bs bm bmB:List Value} {hdct:Bool} {sn:List Str} {sub:List Value} {ab:Bool} {col:Option Bool} {dd:Option Addr} {k0 k1 k2 k3 k5:Option Value} {B newId initId:String}
end
end M
set_option Elab.async false
set_option linter.all false
set_option maxRecDepth 100000
set_option maxHeartbeats 4000000
namespace M
open PySem PySem.Spec PyProof.Rows L2 PySem.Builtin PySem.Builtin.ObjectAttr
section
variable {prog:Program} {w:World} {A:Around} {E:Value → Shared → Prop} {s:Shared} {K:PySem.W.Frag} {x C:Addr} {name:Str} {v:Value}
end
section
variable {prog:Program} {w:World} {A:Around} {E:Value → Shared → Prop} {s:Shared} {K:PySem.W.Frag} {x C f:Addr} {name:Str} {v:Value}
end
end M
set_option Elab.async false
set_option linter.all false
set_option maxRecDepth 100000
set_option maxHeartbeats 4000000
namespace M
open PySem PySem.Spec PyProof.Rows L2
section
variable {X:Cx} {pos p1 p2 p3 p4 p5 p6 p7:Pos} {self at_:Str} {txt:Str} {j:Nat} {D C f:Addr} {nm:Str} {xD:Str}
end
end M
set_option Elab.async false
set_option linter.all false
set_option maxRecDepth 100000
set_option maxHeartbeats 4000000
namespace M
open PySem PySem.Spec PyProof.Rows L2
end M
set_option Elab.async false
set_option linter.all false
set_option maxRecDepth 100000
set_option maxHeartbeats 4000000
namespace M
open PySem PySem.Spec PyProof.Rows L2
section
variable {P:Program} {w:World} {K:PySem.W.Frag} {mg:Str → Option Value} {base:Heap} {N:List Str} {qual:Str} {sc:Scope} {f:Addr} {cdv:Value} {A:Around} {outer:List Env} {s:Shared} {H:Hp} {E:XK}
end
end M
set_option Elab.async false
set_option linter.all false
set_option maxRecDepth 100000
set_option maxHeartbeats 4000000
namespace M
open PySem PySem.Spec PyProof.Rows L2
section
variable {X:Cx} {pins:List (Addr × Obj)} {σ:L2.St} {H:Hp} {s:Shared} {h':Heap} {a:Addr} {C:Value} {dx tr tr':Option Addr} {fs:List Addr}
end
section
variable {X:Cx} {pins:List (Addr × Obj)} {σ:L2.St} {H:Hp} {s:Shared}
end
section
variable {X:Cx} {pins pins':List (Addr × Obj)} {σ:L2.St} {H:Hp} {s:Shared} {xe:Value → Shared → Prop} {a:Addr}
end
end M
set_option Elab.async false
set_option linter.all false
set_option maxRecDepth 100000
set_option maxHeartbeats 4000000
namespace M
open PySem PySem.Spec PyProof.Rows L2
section
variable {X:Cx} {pins pins':List (Addr × Obj)} {σ:L2.St} {H:Hp} {s:Shared} {xe:Value → Shared → Prop} {a:Addr} {f:Str → Option Value}
end
section
variable {X:Cx} {EX:EXT}
end
end M
set_option Elab.async false
set_option linter.all false
set_option maxRecDepth 100000
set_option maxHeartbeats 4000000
namespace M
open PySem PySem.Spec PyProof.Rows L2 PySem.Builtin PySem.Builtin.ObjectAttr
section
variable {prog:Program} {w:World} {A:Around} {E:Value → Shared → Prop} {s:Shared} {K:PySem.W.Frag} {x C:Addr} {name:Str} {v:Value} {ox:Obj} {od:Option Obj}
end
section
variable {X:Cx} {EX:EXT} {e:Expr} {m:MX} {pos:Pos}
end
end M
set_option Elab.async false
set_option linter.all false
set_option maxRecDepth 100000
set_option maxHeartbeats 4000000
namespace M
open PySem PySem.Spec PyProof.Rows L2
section
variable {X:Cx} {EX:EXT} {N G:List Str}
end
section
variable {P:Program} {w:World} {K:PySem.W.Frag} {mg:Str → Option Value} {base:Heap} {xc:XCs}
noncomputable def ClsAt (K:PySem.W.Frag) (mg:Str → Option Value) (x:Str):Prop:=mg x = some (.ref (cA K x))
theorem of_mem {L:List Str} {Q:Str → Prop} (h:∀ x ∈ L,Q x) (C:Str) (hc:L.contains C = true):Q C:=h C (List.contains_iff_mem.mp hc)
end
noncomputable def clsBody:Stmt → List Stmt
  | .ClassDef _ _ _ b .. => b
  | _ => []
end M
set_option Elab.async false
set_option linter.all false
set_option maxRecDepth 100000
set_option maxHeartbeats 4000000
namespace M
open PySem PySem.Spec PyProof.Rows L2
theorem sp_lawM {K:PySem.W.Frag} {φ:Fn} {H:Hp} {a:Addr} {ns:List Int} (hS:SqL K H a (ns.map V.int)) (h:∃ μ,φ [.lst (ns.map .int)] [] = .ok (.bl true) μ):spM K 1 φ [.ref a] H (fun v _ => v = .bl true) (fun _ _ _ => False):=by
  obtain ⟨μ,h⟩:=h
  refine ⟨⟨fun _ => none,[],fun _ => none⟩,[],H,[.lst (ns.map .int)],[],⟨Same.refl H,rfl,fun k a c hk => (by simp at hk),fun b o e => (by cases e),fun b o e => (by cases e),fun k a c hk => (by simp at hk),fun j k a c c' hk => (by simp at hk),⟨fun b o e => (by cases e),fun k a hk => (by simp at hk)⟩⟩,?_,rfl,?_⟩
  · refine reps_cons ?_ reps_nil
    unfold Rep
    exact ⟨a,_,rfl,hS,reps_ints ns⟩
  · rw [h]
    intro v α' F' H' _ _ r
    unfold Rep at r
    exact r
theorem walk_lawM {l:PySem.W.OpenLaw} {q:Program} {loose:List Str} {XP:(Str → Option Value) → Heap → Prop} {YP:World → Heap → Prop} {d:DefRec} {K:Params → PySem.W.Frag} {k:Nat} {x:Str} {φ:Fn} (hn:l.most = some 63) (hdf:d.params.defaults = []) (hr:Room k callerA)
    (hY:∀ (w:World) (h:Heap),YP w h → (K w.params).In h)
    (F:∀ (w:World) (mg:Str → Option Value) (fa:Addr) (h:Heap),(K w.params).In h → h.Ns mainGlobals mg → mg d.name = some (.ref fa) →
      ∃ fd:FuncData,BindsS fd [x] ∧ ∀ base:Heap,FnOk l.prog w (K w.params) mg base CX0 k fa fd [x] (spM (K w.params) 1 φ))
    (hlaw:∀ ns:List Int,ns.length ≤ 63 → ∃ μ,φ [.lst (ns.map .int)] [] = .ok (.bl true) μ) :
    PySem.W.WalkO q loose XP YP l.row.toRowW d [] (fun f vs => PySem.call f vs) :=
  L2.walk_of (n:=63) (k:=k) (x:=x) (CX:=fun _ => CX0) (sp:=fun w => spM (K w.params) 1 φ) hn (by decide) hdf hr hY
    (fun w mg fa h hK hG hm => by
      obtain ⟨fd,hb,hf⟩:=F w mg fa h hK hG hm
      exact ⟨fd,fun s u => .of_eq (hb [u] rfl),fun base _ _ => hf base⟩)
    (fun w H a ns hl _ hS => sp_lawM hS (hlaw ns hl)) fun _ _ _ _ _ z => z
end M
set_option Elab.async false
set_option linter.all false
set_option maxRecDepth 100000
set_option maxHeartbeats 4000000
namespace M
open PySem PySem.Spec PyProof.Rows L2
section
variable {Md:Model} {A:Around} {E:Value → Shared → Prop} {s:Shared} {base:Heap} {env:Env} {outer:List Env} {L e:Addr}
end
section
variable {X:Cx} {pins:List (Addr × Obj)} {σ:L2.St} {H:Hp} {s:Shared} {h h':Heap} {a:Addr} {C:Value} {dx tr:Option Addr} {fs:List Addr} {P:Program} {w:World}
end
section
variable {X:Cx} {E:XK}
end
section
variable {P:Program} {w:World} {K:PySem.W.Frag} {mg:Str → Option Value} {base:Heap} {N:List Str} {qual:Str} {sc:Scope} {f:Addr} {cdv:Value} {A:Around} {outer:List Env} {s:Shared} {H:Hp} {E:XK}
end
end M
set_option Elab.async false
set_option linter.all false
set_option maxRecDepth 100000
set_option maxHeartbeats 4000000
namespace M
open PySem PySem.Spec PyProof.Rows L2
section
variable {P:Program} {w:World} {K:PySem.W.Frag} {mg:Str → Option Value} {base:Heap} {xc:XCs}
end
noncomputable def whGo (t:MB) (n:MSt):Nat → En → Mu → Res Out
  | 0,_,_ => .bad
  | k + 1,ρ,μ => (t ρ μ).bind fun b μ1 => if b = true then (n ρ μ1).bind fun o μ2 => match o with
      | .nx ρ2 => whGo t n k ρ2 μ2
      | .ct ρ2 => whGo t n k ρ2 μ2
      | .bk ρ2 => .ok (.nx ρ2) μ2
      | .rt d => .ok (.rt d) μ2
    else .ok (.nx ρ) μ1
noncomputable def mWhile (k:Nat) (t:MB) (n:MSt):MSt:=fun ρ μ => whGo t n k ρ μ
theorem ms_while {X:Cx} {EX:EXT} {c:Expr} {body:List Stmt} {t:MB} {n:MSt} {pos:Pos} (k:Nat) (hp:PassesOwn (model X.prog X.w) X.A X.env X.xe) (hc:MT X EX c t) (hb:MSs X EX body n):MS X EX (.While c body [] pos) (mWhile k t n):=by
  obtain ⟨tc,pc,sc⟩:=hc
  obtain ⟨tb,pb,sb⟩:=hb
  refine ⟨_,ps_while hp pc pb,fun Z α F H σ ρ μ D R g => ?_⟩
  refine ⟨fun m σ H => ∃ α' F' ρ' μ',RS X.K Z α' F' H σ ρ' μ' ∧ Ext α F α' F' ∧ GS X.K EX Z α F D (whGo t n m ρ' μ'),⟨k,α,F,ρ,μ,R,Ext.refl _ _,g⟩,?_⟩
  rintro m σ1 H1 ⟨α1,F1,ρ1,μ1,R1,e1,g1⟩
  cases m with
  | zero => exact g1.elim
  | succ m =>
    refine sc Z α1 F1 H1 σ1 ρ1 μ1 _ R1 (GB.step (G:=GS X.K EX Z α F D) g1 (fun _ _ h => h) (fun h => h) fun b μ2 α2 F2 H2 R2 e2 g2 => ?_)
    cases b with
    | false =>
      rw [if_neg (by decide)] at g2 ⊢
      exact g2 σ1 α2 F2 H2 (R1.to R2 e2) (e1.trans e2)
    | true =>
      rw [if_pos rfl] at g2 ⊢
      refine ⟨fun σ' H' => ∃ α' F' ρ' μ',RS X.K Z α' F' H' σ' ρ' μ' ∧ Ext α F α' F' ∧ GS X.K EX Z α F D (whGo t n m ρ' μ'),fun σ' H' h => ⟨m,Nat.lt_succ_self m,h⟩,?_⟩
      refine sb Z α2 F2 H2 σ1 ρ1 μ2 _ (R1.to R2 e2) ?_
      cases er:n ρ1 μ2 with
      | bad => rw [er] at g2; exact g2
      | exc x μ3 => rw [er] at g2; exact g2
      | ok o μ3 =>
        rw [er] at g2
        cases o with
        | nx ρ3 => exact fun σ' α' F' H' R' e' => ⟨α',F',ρ3,μ3,R',e1.trans (e2.trans e'),g2⟩
        | ct ρ3 => exact fun σ' α' F' H' R' e' => ⟨α',F',ρ3,μ3,R',e1.trans (e2.trans e'),g2⟩
        | bk ρ3 => exact fun σ' α' F' H' R' e' => g2 σ' α' F' H' R' (e1.trans (e2.trans e'))
        | rt d => exact fun v α' F' H' R' e' r' => g2 v α' F' H' R' (e1.trans (e2.trans e')) r'
end M
set_option Elab.async false
set_option linter.all false
set_option maxRecDepth 100000
set_option maxHeartbeats 4000000
namespace M
open PySem PySem.Spec PyProof.Rows L2
noncomputable def getN {β:Type} (nm:Str):List Str → List β → Option β
  | n :: ns,d :: ds => if n = nm then some d else getN nm ns ds
  | _,_ => none
noncomputable def putN {β:Type} (nm:Str) (v:β):List Str → List β → List Str × List β
  | n :: ns,d :: ds => if n = nm then (n :: ns,v :: ds) else (n :: (putN nm v ns ds).1,d :: (putN nm v ns ds).2)
  | _,_ => ([nm],[v])
theorem getN_zip {nm:Str}:∀ (ns:List Str) (vs:List V),(ns.zip vs).lookup nm = getN nm ns vs
  | [],_ => rfl
  | _ :: _,[] => rfl
  | n :: ns,v :: vs => by
    show List.lookup nm ((n,v) :: ns.zip vs) = _
    rw [List.lookup_cons]
    unfold getN
    by_cases h:n = nm
    · subst h; rw [if_pos rfl]; simp
    · rw [if_neg h,show (nm == n) = false from beq_eq_false_iff_ne.mpr fun z => h z.symm]
      exact getN_zip ns vs
theorem putN_zip {nm:Str} {v:V}:∀ (ns:List Str) (vs:List V),ns.length = vs.length → putF nm v (ns.zip vs) = (putN nm v ns vs).1.zip (putN nm v ns vs).2
  | [],[],_ => rfl
  | [],_ :: _,h => by simp at h
  | _ :: _,[],h => by simp at h
  | n :: ns,w :: vs,h => by
    show (if n = nm then (n,v) :: ns.zip vs else (n,w) :: putF nm v (ns.zip vs)) = _
    unfold putN
    by_cases z:n = nm
    · rw [if_pos z,if_pos z]; rfl
    · rw [if_neg z,if_neg z,putN_zip ns vs (by simpa using h)]; rfl
theorem getN_rep {K:PySem.W.Frag} {F:Hp} {α:List Addr} {nm:Str}:∀ {ns:List Str} {ds:List D} {vs:List V} {d:D},Reps K F α ds vs → getN nm ns ds = some d → ∃ v,getN nm ns vs = some v ∧ Rep K F α d v
  | [],_,_,_,_,h => by cases h
  | _ :: _,[],_,_,_,h => by cases h
  | n :: ns,d :: ds,vs,e,r,h => by
    unfold Reps at r
    obtain ⟨v,vr,rfl,r1,r2⟩:=r
    unfold getN at h ⊢
    split at h
    · rename_i z; cases h; exact ⟨v,by rw [if_pos z],r1⟩
    · rename_i z; rw [if_neg z]; exact getN_rep r2 h
theorem putN_rep {K:PySem.W.Frag} {F:Hp} {α:List Addr} {nm:Str} {d:D} {v:V} (hd:Rep K F α d v):∀ {ns:List Str} {ds:List D} {vs:List V},ns.length = ds.length → Reps K F α ds vs → (putN nm d ns ds).1 = (putN nm v ns vs).1 ∧ Reps K F α (putN nm d ns ds).2 (putN nm v ns vs).2 ∧ (putN nm d ns ds).1.length = (putN nm d ns ds).2.length
  | [],[],vs,_,r => by
    have:vs = []:=List.length_eq_zero_iff.mp r.length.symm
    subst this
    exact ⟨rfl,reps_cons hd reps_nil,rfl⟩
  | [],_ :: _,_,h,_ => by simp at h
  | _ :: _,[],_,h,_ => by simp at h
  | n :: ns,e :: ds,vs,h,r => by
    unfold Reps at r
    obtain ⟨w,vr,rfl,r1,r2⟩:=r
    unfold putN
    by_cases z:n = nm
    · rw [if_pos z,if_pos z]; exact ⟨rfl,reps_cons hd r2,by simpa using h⟩
    · rw [if_neg z,if_neg z]
      obtain ⟨h1,h2,h3⟩:=putN_rep hd (ns:=ns) (by simpa using h) r2
      exact ⟨by rw [h1],reps_cons r1 h2,by simp [h3]⟩
noncomputable def objD (ok:Str → Bool) (d:D) (μ:Mu):Option (Nat × Str × List Str × List D):=match d with
  | .ref k => match μ[k]? with
    | some (.obj c ns ds) => if ok c = true then some (k,c,ns,ds) else none
    | _ => none
  | _ => none
theorem objD_at {K:PySem.W.Frag} {Z:ZS} {α:List Addr} {F H:Hp} {μ:Mu} {ok:Str → Bool} {d:D} {v:V} {k:Nat} {c:Str} {ns:List Str} {ds:List D} (R:RH K Z α F H μ) (p:Rep K F α d v) (h:objD ok d μ = some (k,c,ns,ds)) :
    ∃ a dx vs,v = .ref a ∧ d = .ref k ∧ ok c = true ∧ α[k]? = some a ∧ μ[k]? = some (.obj c ns ds) ∧ F a = none ∧ H a = some (.ins (cA K c) dx (ns.zip vs)) ∧ ns.length = ds.length ∧ Reps K F α ds vs:=by
  cases d with
  | ref j =>
    unfold objD at h
    dsimp only at h
    split at h
    · rename_i c' ns' ds' hj
      split at h
      · rename_i hok
        cases h
        unfold Rep at p
        obtain ⟨a,ha,rfl⟩:=p
        obtain ⟨h1,dx,vs,h2,h3,h4⟩:=R.cell k a _ ha hj
        exact ⟨a,dx,vs,rfl,rfl,hok,ha,hj,h1,h2,h3,h4⟩
      · cases h
    · cases h
  | _ => cases h
section
variable {X:Cx} {EX:EXT} {o e value:Expr} {m mo mv:MX} {pos pos' tpos:Pos}
noncomputable abbrev AtOk (X:Cx) (ok:Str → Bool) (nm:Str):Prop:=∀ c,ok c = true → Cls X.K (cA X.K c) ∧ NoAttr X.K (cA X.K c) nm
noncomputable def mAttr (ok:Str → Bool) (nm:Str) (m:MX):MX:=fun ρ μ => (m ρ μ).bind fun d μ1 => ofO μ1 ((objD ok d μ1).bind fun q => getN nm q.2.2.1 q.2.2.2)
theorem me_attr {ok:Str → Bool} {nm:Str} (hC:AtOk X ok nm) (ha:ME X EX e m) (hb:attributeBase e nm X.env (eval e X.env) = eval e X.env:=by rfl):ME X EX (.Attribute e nm pos) (mAttr ok nm m):=by
  obtain ⟨t,pt,st⟩:=ha
  refine ⟨_,pe_fld pt hb,fun Z α F H σ ρ μ Q R g => ?_⟩
  refine st Z α F H σ ρ μ _ R (GE.step (G:=GE X.K EX Z α F Q) g (fun _ _ h => h) (fun h => h) fun d μ1 v α1 F1 H1 R1 e1 p1 g1 => ?_)
  cases h:objD ok d μ1 with
  | none => rw [h] at g1; exact g1.elim
  | some q =>
    obtain ⟨k,c,ns,ds⟩:=q
    rw [h] at g1
    obtain ⟨a,dx,vs,rfl,rfl,hk,ha,hc,hF,hH,hl,hr⟩:=objD_at R1 p1 h
    cases hg:getN nm ns ds with
    | none => simp only [Option.bind_some,hg] at g1; exact g1.elim
    | some y =>
      simp only [Option.bind_some,hg] at g1
      obtain ⟨u,hu,ru⟩:=getN_rep hr hg
      exact ⟨a,_,dx,_,u,rfl,hH,(hC c hk).1,(hC c hk).2,by rw [getN_zip]; exact hu,g1 u α1 F1 H1 R1 e1 ru⟩
noncomputable def setA (ok:Str → Bool) (nm:Str) (ρ:En) (d v:D) (μ:Mu):Res Out:=match objD ok d μ with
  | some q => if q.2.2.1.length < 900 then .ok (.nx ρ) (μ.set q.1 (.obj q.2.1 (putN nm v q.2.2.1 q.2.2.2).1 (putN nm v q.2.2.1 q.2.2.2).2)) else .bad
  | none => .bad
theorem setA_ok {K:PySem.W.Frag} {Z:ZS} {α:List Addr} {F H:Hp} {μ:Mu} {ok:Str → Bool} {nm:Str} {ρ:En} {d v:D} {x y:V} {G:Res Out → Prop} (hb:¬ G .bad) (R:RH K Z α F H μ) (p:Rep K F α d x) (q:Rep K F α v y) (g:G (setA ok nm ρ d v μ)) :
    ∃ a c dx fs μ',x = .ref a ∧ ok c = true ∧ H a = some (.ins (cA K c) dx fs) ∧ fs.length < 1000 ∧ RH K Z α F (upd H a (.ins (cA K c) dx (putF nm y fs))) μ' ∧ G (.ok (.nx ρ) μ'):=by
  unfold setA at g
  cases h:objD ok d μ with
  | none => rw [h] at g; exact absurd g hb
  | some w =>
    obtain ⟨k,c,ns,ds⟩:=w
    rw [h] at g
    dsimp only at g
    split at g
    · rename_i hn
      obtain ⟨a,dx,vs,rfl,rfl,hk,ha,hc,hF,hH,hl,hr⟩:=objD_at R p h
      obtain ⟨h1,h2,h3⟩:=putN_rep (nm:=nm) q hl hr
      refine ⟨a,c,dx,_,_,rfl,hk,hH,?_,R.setCell (c:=.obj c (putN nm v ns ds).1 (putN nm v ns ds).2) ha hc (by simp) ⟨hF,dx,(putN nm y ns vs).2,by rw [upd_same,putN_zip ns vs (hl.trans hr.length),← h1],h3,h2⟩,g⟩
      rw [List.length_zip]
      omega
    · exact absurd g hb
noncomputable def mSetA (ok:Str → Bool) (nm:Str) (mo mv:MX):MSt:=fun ρ μ => (mv ρ μ).bind fun v μ1 => (mo ρ μ1).bind fun d μ2 => setA ok nm ρ d v μ2
theorem ms_setA {ok:Str → Bool} {nm:Str} (hC:AtOk X ok nm) (ho:ME X EX o mo) (hv:ME X EX value mv) (hs:swapsWith value (some (.Attribute o nm pos')) pos.line X.env = pure false:=by rfl):MS X EX (.Assign [.Attribute o nm pos'] value pos) (mSetA ok nm mo mv):=by
  obtain ⟨to,po,so⟩:=ho
  obtain ⟨tv,pv,sv⟩:=hv
  refine ⟨_,ps_fld po pv hs,fun Z α F H σ ρ μ N R g => ?_⟩
  refine sv Z α F H σ ρ μ _ R (GE.step (G:=GS X.K EX Z α F N) g (fun _ _ h => h) (fun h => h) fun v μ1 y α1 F1 H1 R1 e1 p1 g1 => ?_)
  refine so Z α1 F1 H1 σ ρ μ1 _ (R.to R1 e1) (GE.step (G:=GS X.K EX Z α F N) g1 (fun _ _ h => h) (fun h => h) fun d μ2 x α2 F2 H2 R2 e2 p2 g2 => ?_)
  obtain ⟨a,c,dx,fs,μ',rfl,hk,hH,hl,R3,g3⟩:=setA_ok (G:=GS X.K EX Z α F N) (fun h => h) R2 p2 (p1.mono e2) g2
  exact ⟨a,_,dx,fs,rfl,hH,(hC c hk).1,(hC c hk).2,hl,g3 σ α2 F2 _ ((R.to R2 (e1.trans e2)).to R3 (Ext.refl _ _)) (e1.trans e2)⟩
noncomputable def addI (a b:D):Option D:=match a,b with
  | .int i,.int j => some (.int (i + j))
  | _,_ => none
noncomputable def mAugA (ok:Str → Bool) (nm:Str) (mo mv:MX):MSt:=fun ρ μ => (mo ρ μ).bind fun d μ1 => match (objD ok d μ1).bind fun q => getN nm q.2.2.1 q.2.2.2 with
  | some w => (mv ρ μ1).bind fun y μ2 => match addI w y with
    | some z => setA ok nm ρ d z μ2
    | none => .bad
  | none => .bad
theorem ms_augA {ok:Str → Bool} {nm:Str} (hC:AtOk X ok nm) (hone:∀ c c',ok c = true → ok c' = true → c = c') (ho:ME X EX o mo) (hv:ME X EX value mv):MS X EX (.AugAssign (.Attribute o nm tpos) .Add value pos) (mAugA ok nm mo mv):=by
  obtain ⟨to,po,so⟩:=ho
  obtain ⟨tv,pv,sv⟩:=hv
  refine ⟨_,ps_fldaug po pv in_add,fun Z α F H σ ρ μ N R g => ?_⟩
  refine so Z α F H σ ρ μ _ R (GE.step (G:=GS X.K EX Z α F N) g (fun _ _ h => h) (fun h => h) fun d μ1 x α1 F1 H1 R1 e1 p1 g1 => ?_)
  cases h:objD ok d μ1 with
  | none => rw [h] at g1; exact g1.elim
  | some q =>
    obtain ⟨k,c,ns,ds⟩:=q
    rw [h] at g1
    obtain ⟨a,dx,vs,rfl,rfl,hk,ha,hc,hF,hH,hl,hr⟩:=objD_at R1 p1 h
    cases hg:getN nm ns ds with
    | none => simp only [Option.bind_some,hg] at g1; exact g1.elim
    | some w =>
      simp only [Option.bind_some,hg] at g1
      obtain ⟨u,hu,ru⟩:=getN_rep hr hg
      refine ⟨a,_,dx,_,u,rfl,hH,(hC c hk).1,(hC c hk).2,by rw [getN_zip]; exact hu,?_⟩
      refine sv Z α1 F1 H1 σ ρ μ1 _ (R.to R1 e1) (GE.step (G:=GS X.K EX Z α F N) g1 (fun _ _ h => h) (fun h => h) fun y μ2 v α2 F2 H2 R2 e2 p2 g2 => ?_)
      cases hz:addI w y with
      | none => rw [hz] at g2; exact g2.elim
      | some z =>
        rw [hz] at g2
        have g2:GS X.K EX Z α F N (setA ok nm ρ (.ref k) z μ2):=g2
        cases w with
        | int i =>
          cases y with
          | int j =>
            cases hz
            obtain rfl:u = .int i:=ru
            obtain rfl:v = .int j:=p2
            obtain ⟨a',c',dx',fs',μ',ea,hk',hH',hl',R3,g3⟩:=setA_ok (G:=GS X.K EX Z α F N) (y:=.int (i + j)) (fun h => h) R2 (p1.mono e2) (rep_int _) g2
            cases ea
            obtain rfl:=hone c c' hk hk'
            exact ⟨i,j,rfl,rfl,dx',fs',hH',hl',g3 σ α2 F2 _ ((R.to R2 (e1.trans e2)).to R3 (Ext.refl _ _)) (e1.trans e2)⟩
          | _ => cases hz
        | _ => cases hz
end
theorem RH.extra {K:PySem.W.Frag} {Z:ZS} {α:List Addr} {F H:Hp} {μ:Mu} {p:Addr} (o:HO) (r:RH K Z α F H μ) (hp:H p = none):RH K Z α F (upd H p o) μ:=by
  refine ⟨fun b u e => ?_,r.len,fun k a c ha hc => ?_,fun b u e => ?_,r.zf,r.zc,r.dis,r.ext⟩
  · rw [upd_ne (ne_of_none (r.sub b u e) hp)]; exact r.sub b u e
  · have h:=r.cell k a c ha hc
    exact h.go (Ext.refl _ _) (fun _ => rfl) fun hd => let ⟨_,_,z⟩:=h.live hd; upd_ne (ne_of_none z hp)
  · rw [upd_ne (ne_of_none (r.zs b u e) hp)]; exact r.zs b u e
noncomputable def newD (c:Str) (φ:Fn) (ds:List D) (μ:Mu):Res D:=(noX (φ (.ref μ.length :: ds) (μ ++ [.obj c [] []]))).bind fun r μ2 => match r with
  | .non => .ok (.ref μ.length) μ2
  | _ => .bad
noncomputable def mNew (c:Str) (φ:Fn) (ms:MAs):MX:=fun ρ μ => (ms ρ μ).bind (newD c φ)
noncomputable def MkAt (P:Program) (w:World) (K:PySem.W.Frag) (mg:Str → Option Value) (base:Heap) (x:Str) (k n:Nat) (φ:Fn):Prop :=
  ∃ f fd ps,mg x = some (.ref (cA K x)) ∧ Mk K (cA K x) f ∧ BindsS fd ps ∧ ps.length = n + 1 ∧ FnOk P w K mg base CX0 k f fd ps (spM K (n + 1) φ)
section
variable {X:Cx} {EX:EXT} {e:Expr} {es:List Expr} {ms:MAs} {p pos:Pos}
theorem new_good {Z:ZS} {α:List Addr} {F:Hp} {Q:VK} {α1:List Addr} {F1 H1:Hp} {μ1:Mu} {ds:List D} {vs:List V} {c:Str} {φ:Fn} {n:Nat} (R1:RH X.K Z α1 F1 H1 μ1) (e1:Ext α F α1 F1) (r:Reps X.K F1 α1 ds vs) (hl:ds.length = n) (g:GE X.K EX Z α F Q (newD c φ ds μ1)) :
    ∀ x dx,H1 x = none → H1 dx = none → dx ≠ x → spM X.K (n + 1) φ (.ref x :: vs) (upd (upd H1 dx (.own x)) x (.ins (cA X.K c) dx [])) (fun v H2 => v = .non ∧ Q (.ref x) H2) E0:=by
  intro x dx hx hd ne
  have R2:=(R1.extra (.own x) hd).newCell (p:=x) (o':=.ins (cA X.K c) dx []) (c:=.obj c [] []) (by rw [upd_ne (Ne.symm ne)]; exact hx) ⟨fnone R1 hx,dx,[],upd_same,rfl,reps_nil⟩
  have hrx:Rep X.K F1 (α1 ++ [x]) (.ref μ1.length) (.ref x):=by
    unfold Rep
    exact ⟨x,by rw [← R1.len,List.getElem?_append_right (Nat.le_refl _),Nat.sub_self]; rfl,rfl⟩
  refine ⟨Z,α1 ++ [x],F1,.ref μ1.length :: ds,μ1 ++ [.obj c [] []],R2,reps_cons hrx (r.mono (ext_snoc _ _ _)),by rw [List.length_cons,hl],?_⟩
  unfold newD at g
  cases er:φ (.ref μ1.length :: ds) (μ1 ++ [.obj c [] []]) with
  | bad => rw [er] at g; exact g
  | exc y μ2 => rw [er] at g; exact g.elim
  | ok d μ2 =>
    rw [er] at g
    cases d with
    | non =>
      intro v α' F' H' R' e' r'
      refine ⟨?_,g _ α' F' H' R' (e1.trans ((ext_snoc _ _ _).trans e')) (hrx.mono e')⟩
      unfold Rep at r'
      exact r'
    | _ => exact g.elim
theorem me_new {c:Str} {k n:Nat} {φ:Fn} (mka:MkAt X.prog X.w X.K X.mg X.base c k n φ) (hr:Room (k + 1) X.A) (hg:Gl X c) (ha:MA X EX (e :: es) ms) (hn:(e :: es).length = n) (hdb:(c == ("__debug__":Str)) = false:=by decide)
    (he:starEach (e :: es) X.env = (false,eval e X.env) :: starEach es X.env:=by rfl) (hpl:(backTo pos (starEach es X.env)).any (·.1) = false:=by rfl):ME X EX (.Call (.Name c p) (e :: es) [] pos) (mNew c φ ms):=by
  obtain ⟨f,fd,ps,h1,mk,hb,hl,F⟩:=mka
  obtain ⟨t,pt,st,lt⟩:=ha
  refine ⟨_,pe_make mk F hr hg h1 (.all hb) .nil pass0 pt hdb he hpl,fun Z α G H σ ρ μ Q R g => ?_⟩
  refine st Z α G H σ ρ μ _ R (GA.stepE (G:=GE X.K EX Z α G Q) g (fun _ _ h => h) (fun h => h) fun ds μ1 vs α1 F1 H1 hm1 R1 e1 p1 g1 => ?_)
  intro x dx hx hd ne
  rw [List.append_nil]
  exact new_good R1 e1 p1 ((lt _ _ _ _ hm1).trans hn) g1 x dx hx hd ne
end
end M
set_option Elab.async false
set_option linter.all false
set_option maxRecDepth 100000
set_option maxHeartbeats 4000000
namespace M
open PySem PySem.Spec PyProof.Rows L2
section
variable {P:Program} {w:World} {K:PySem.W.Frag} {mg:Str → Option Value} {base:Heap}
theorem fnOkQ_of {x qual:Str} {st:Stmt} {N ps:List Str} {k j n:Nat} {b:MSt} {f:Addr} {fd:FuncData} (F:Fun K x qual st f fd) (S:FnScope N ps (defScope st)) (hj:N.length - ps.length = j) (hn:ps.length = n)
    (hb:∀ (cdv:Value) (A:Around) (outer:List Env) (s:Shared) (H:Hp) (E:XK),Room k (A.deeper (envOfC qual (defScope st) s.heap.objs.size f cdv)) →
      MSs (cxOf CX0 P w K mg base N qual (defScope st) f cdv A outer s H E).nox NoX (defBody st) b):FnOk P w K mg base CX0 (k + 1) f fd ps (spM K n (fnOf j b)):=by
  subst hn
  exact fn_ok F S hj hb
noncomputable def MkD (K:PySem.W.Frag) (mg:Str → Option Value) (x qual:Str) (st:Stmt) (ps:List Str):Prop:=∃ f fd,mg x = some (.ref (cA K x)) ∧ Mk K (cA K x) f ∧ Fun K "__init__" qual st f fd ∧ BindsS fd ps
theorem mkAt_of {x qual:Str} {st:Stmt} {ps:List Str} {k n:Nat} {φ:Fn} (D:MkD K mg x qual st ps) (hn:ps.length = n + 1) (hb:∀ (f:Addr) (fd:FuncData),Fun K "__init__" qual st f fd → FnOk P w K mg base CX0 k f fd ps (spM K (n + 1) φ)):MkAt P w K mg base x k n φ:=by
  obtain ⟨f,fd,h1,h2,h3,h4⟩:=D
  exact ⟨f,fd,ps,h1,h2,h4,hn,hb f fd h3⟩
end
theorem len_0 {β:Type} {us:List β} (h:us.length = 0):us = []:=List.length_eq_zero_iff.mp h
theorem len_S {β:Type} {us:List β} {n:Nat} (h:us.length = n + 1):∃ a vs,us = a :: vs ∧ vs.length = n:=by
  cases us with
  | nil => cases h
  | cons a vs => exact ⟨a,vs,rfl,Nat.succ.inj h⟩
theorem len_1 {β:Type} {us:List β} (h:us.length = 1):∃ a,us = [a]:=by
  obtain ⟨a,vs,rfl,q⟩:=len_S h
  cases len_0 q
  exact ⟨a,rfl⟩
theorem len_2 {β:Type} {us:List β} (h:us.length = 2):∃ a b,us = [a,b]:=by
  obtain ⟨a,vs,rfl,q⟩:=len_S h
  obtain ⟨b,rfl⟩:=len_1 q
  exact ⟨a,b,rfl⟩
theorem len_3 {β:Type} {us:List β} (h:us.length = 3):∃ a b c,us = [a,b,c]:=by
  obtain ⟨a,vs,rfl,q⟩:=len_S h
  obtain ⟨b,c,rfl⟩:=len_2 q
  exact ⟨a,b,c,rfl⟩
theorem len_4 {β:Type} {us:List β} (h:us.length = 4):∃ a b c d,us = [a,b,c,d]:=by
  obtain ⟨a,vs,rfl,q⟩:=len_S h
  obtain ⟨b,c,d,rfl⟩:=len_3 q
  exact ⟨a,b,c,d,rfl⟩
theorem len_5 {β:Type} {us:List β} (h:us.length = 5):∃ a b c d e,us = [a,b,c,d,e]:=by
  obtain ⟨a,vs,rfl,q⟩:=len_S h
  obtain ⟨b,c,d,e,rfl⟩:=len_4 q
  exact ⟨a,b,c,d,e,rfl⟩
end M
set_option Elab.async false
set_option linter.all false
set_option maxRecDepth 100000
set_option maxHeartbeats 4000000
namespace M
open PySem PySem.Spec PyProof.Rows L2
section
variable {X:Cx} {EX:EXT} {o:Expr} {mo:MX}
end
end M
set_option Elab.async false
set_option linter.all false
set_option maxRecDepth 100000
set_option maxHeartbeats 4000000
namespace M
open PySem PySem.Spec PyProof.Rows L2
theorem fnAt_bad {P:Program} {w:World} {K:PySem.W.Frag} {mg:Str → Option Value} {base:Heap} {x:Str} {st:Stmt} {ps:List Str} {k n:Nat} (D:DefAt K mg x st ps) (hn:ps.length = n):FnAt P w K mg base x k n (fun _ _ => .bad):=by
  refine fnAt_of D hn fun f fd F => ⟨fun vs H Q E h => ?_,fun A outer s H args us vs Q E _ _ _ _ h => ?_⟩
  · obtain ⟨Z,α,F,ds,μ,R,r,hl,g⟩:=h
    rw [← r.length,hl,hn]
  · obtain ⟨Z,α,F,ds,μ,R,r,hl,g⟩:=h
    exact g.elim
section
variable {X:Cx} {EX:EXT} {o a:Expr} {mo m:MX} {ms:MAs}
end
end M
set_option Elab.async false
set_option linter.all false
set_option maxRecDepth 100000
set_option maxHeartbeats 1000000
namespace M
open PySem PySem.Spec PyProof.Rows L2
noncomputable def mBad:MSt:=fun _ _ => .bad
theorem ms_bad {X:Cx} {EX:EXT} {st:Stmt}:MS X EX st mBad:=⟨fun _ _ _ => False,fun _ _ _ _ _ _ h => h.elim,fun Z α F H σ ρ μ N R g => g⟩
section
variable {prog:Program} {w:World} {A:Around} {E:Value → Shared → Prop} {s:Shared}
end
section
variable {X:Cx} {EX:EXT} {a:Expr} {ma:MX} {p1 p2 q1 q2:Pos}
end
end M
set_option Elab.async false
set_option linter.all false
set_option maxRecDepth 100000
set_option maxHeartbeats 1000000
namespace M
open PySem PySem.Spec PyProof.Rows L2
theorem fnC {P:Program} {w:World} {K:PySem.W.Frag} {mg:Str → Option Value} {base:Heap} {x:Str} {st:Stmt} {ps:List Str} {k n j:Nat} {b:MSt} (D:DefAt K mg x st ps) (N G:List Str) (S:FnScope N ps (defScope st)) (hl:locB (defScope st) N = true) (hg:glB (defScope st) G = true) (hj:N.length - ps.length = j) (hn:ps.length = n)
    (hb:∀ (f:Addr) (cdv:Value) (A:Around) (outer:List Env) (s:Shared) (H:Hp) (E:XK),Room k (A.deeper (envOfC x (defScope st) s.heap.objs.size f cdv)) → Ct (cxOf CX0 P w K mg base N x (defScope st) f cdv A outer s H E).nox N G → MSs (cxOf CX0 P w K mg base N x (defScope st) f cdv A outer s H E).nox NoX (defBody st) b) :
    FnAt P w K mg base x (k + 1) n (fnOf j b) :=
  fnAt_of D hn fun f fd F => fnOk_of F S hj hn fun cdv A outer s H E hr => hb f cdv A outer s H E hr (ct_of S.nd (loc_of hl) (gl_of hg) hr)
noncomputable def DFact (K:PySem.W.Frag) (x:Str) (st:Stmt):Prop:=∃ (f:Addr) (oc:Value) (od:Option Addr) (kV doc pm:Value) (an:Option Addr) (cdv ct:Value) (osl:Array (Option Value)),PySem.W.nsIn K mainGlobals x = some (some (.ref f)) ∧ K.lookup f = some ⟨oc,od,.func (PySem.W.fnOf x x (defArgs st) (defBody st) (defScope st) .none kV doc pm an cdv ct),osl⟩ ∧ PySem.W.codeIn K cdv x = true ∧ PySem.W.keepIn K (.ref f) = true
theorem def_of {K:PySem.W.Frag} {mg:Str → Option Value} {h:Heap} {x:Str} {st:Stmt} {ps:List Str} (X:K.In h) (G:h.Ns mainGlobals mg) (d:DFact K x st) (hb:∀ (kV doc pm:Value) (an:Option Addr) (cdv ct:Value),BindsS (PySem.W.fnOf x x (defArgs st) (defBody st) (defScope st) .none kV doc pm an cdv ct) ps):DefAt K mg x st ps:=by
  obtain ⟨f,oc,od,kV,doc,pm,an,cdv,ct,osl,a,l,c,k⟩:=d
  exact def_mk X G a l c k (hb kV doc pm an cdv ct)
theorem dfact {K:PySem.W.Frag} {x:Str} {st:Stmt} {f:Addr} {oc:Value} {od an:Option Addr} {osl:Array (Option Value)} {kV doc pm cdv ct:Value} (a:PySem.W.nsIn K mainGlobals x = some (some (.ref f))) (l:K.lookup f = some ⟨oc,od,.func (PySem.W.fnOf x x (defArgs st) (defBody st) (defScope st) .none kV doc pm an cdv ct),osl⟩)
    (c:PySem.W.codeIn K cdv x = true) (k:PySem.W.keepIn K (.ref f) = true):DFact K x st:=⟨f,oc,od,kV,doc,pm,an,cdv,ct,osl,a,l,c,k⟩
end M
set_option Elab.async false
set_option linter.all false
set_option maxRecDepth 100000
set_option maxHeartbeats 1000000
namespace M
open PySem PySem.Spec PyProof.Rows L2
section
variable {X:Cx} {EX:EXT}
end
end M
set_option Elab.async false
set_option linter.all false
set_option maxRecDepth 100000
set_option maxHeartbeats 1000000
namespace M
open PySem PySem.Spec PyProof.Rows L2
section
variable {K:PySem.W.Frag} {Z:ZS} {F H:Hp} {α:List Addr} {μ:Mu} {k:Nat} {a:Addr} {c:Cell} {d:D} {o:HO}
end
section
variable {X:Cx} {EX:EXT}
variable {a:Expr} {ma:MX} {p1 p2 q1 q2:Pos}
end
end M
set_option Elab.async false
set_option linter.all false
set_option maxRecDepth 100000
set_option maxHeartbeats 1000000
namespace M
open PySem PySem.Spec PyProof.Rows L2 PySem.Builtin PySem.Builtin.ObjectAttr
section
variable {α:Type} {Md:Model} {A:Around} {E:Value → Shared → Prop} {s:Shared}
end
section
variable {prog:Program} {w:World} {A:Around} {E:Value → Shared → Prop} {h:Heap} {g:Array GenState} {d:Drawn} {t:Nat} {os:OsState} {a:Addr} {o:Obj}
end
section
variable {prog:Program} {w:World} {κ:Type} [DecidableEq κ] {knd:KeyKind prog w κ} {A:Around} {E:Value → Shared → Prop} {h h':Heap} {it d l:Addr}
end
section
variable {X:Cx} {EX:EXT}
end
end M
set_option Elab.async false
set_option linter.all false
set_option maxRecDepth 100000
set_option maxHeartbeats 4000000
namespace M
open PySem PySem.Spec PyProof.Rows L2
section
variable {X:Cx} {EX:EXT} {scope:Scope} {T caps:List Str} {ix:List Nat} {tg iter elt:Expr} {ifs:List Expr} {g:MG} {t:MB} {m:MX} {pos:Pos}
end
end M
set_option Elab.async false
set_option linter.all false
set_option maxRecDepth 100000
set_option maxHeartbeats 4000000
namespace M
open PySem PySem.Spec PyProof.Rows L2
section
variable {prog:Program} {w:World} {A:Around} {E:Value → Shared → Prop} {h:Heap} {g:Array GenState} {d:Drawn} {t:Nat} {os:OsState}
variable {nm q:Str} {C N:Addr} {bs bm bmB:List Value} {hdct:Bool} {sn:List Str} {sub:List Value} {ab:Bool} {col:Option Bool} {dd:Option Addr} {k0 k1 k2 k3 k5:Option Value} {B newId initId:String}
end
end M
set_option Elab.async false
set_option linter.all false
set_option maxRecDepth 100000
set_option maxHeartbeats 4000000
namespace M
open PySem PySem.Spec PyProof.Rows L2
noncomputable def isStr:D → Bool
  | .str _ => true
  | _ => false
noncomputable def mMth0 (g:D → Option D) (mo:MX):MX:=fun ρ μ => (mo ρ μ).bind fun d μ1 => if isStr (deref μ1 d) = true then ofO μ1 (g (deref μ1 d)) else .bad
noncomputable def ServesM (K:PySem.W.Frag) (r:V → List V → Hp → VK → Prop) (g:D → GL):Prop:=∀ Z α F H μ d ds c x vs Q,RH K Z α F H μ → Pk K α F H d x → Pks K α F H ds vs → g d ds = some c → (∀ v F' H',RH K Z α F' H' μ → Same F F' → Rep K F' α c v → Q v H') → r x vs H Q
section
variable {X:Cx} {EX:EXT} {o e:Expr} {es:List Expr} {mo:MX} {ms:MAs} {name:Str} {id:String} {r:V → List V → Hp → VK → Prop} {apos cpos:Pos}
theorem me_mth0 {g:D → Option D} (slot:Slot "str" name id) (hty:typeOf (.builtin id) = pure (.type "method_descriptor")) (hm:MtR X id r) (hs:ServesM X.K r (fun d ds => match ds with
    | [] => g d
    | _ => none)) (ho:ME X EX o mo)
    (hbase:attributeBase o name X.env (eval o X.env) = eval o X.env:=by rfl) (hline:(apos.endLine == cpos.line) = true:=by rfl) :
    ME X EX (.Call (.Attribute o name apos) [] [] cpos) (mMth0 g mo):=by
  obtain ⟨to,po,so⟩:=ho
  refine ⟨_,pe_bm0 PySem.F.plainAttrs_str slot hty hm po hbase hline,fun Z α F H σ ρ μ Q R g0 => ?_⟩
  refine so Z α F H σ ρ μ _ R (GE.step (G:=GE X.K EX Z α F Q) g0 (fun _ _ h => h) (fun h => h) fun d μ1 v α1 F1 H1 R1 e1 p1 g1 => ?_)
  by_cases hd:isStr (deref μ1 d) = true
  · rw [if_pos hd] at g1
    refine ⟨?_,?_⟩
    · have k1:=R1.pk p1
      cases hq:deref μ1 d with
      | str z =>
        rw [hq] at k1
        have k1:=pk_str k1
        subst k1
        exact rfl
      | _ => rw [hq] at hd; cases hd
    · cases hc:g (deref μ1 d) with
      | none => rw [hc] at g1; exact g1.elim
      | some c =>
        rw [hc] at g1
        exact hs Z α1 F1 H1 μ1 _ [] c v [] Q R1 (R1.pk p1) rfl hc fun u F' H' R' sf rp => g1 u α1 F' H' R' (e1.trans ⟨sf,fun _ _ h => h⟩) rp
  · rw [if_neg hd] at g1; exact g1.elim
noncomputable def gIsdigit:D → Option D
  | .str x => some (.bl (Txt.isdigit ⟨x.toArray⟩))
  | _ => none
theorem mt_isdigit:MtR X "str.isdigit" (fun x vs H Q => ∃ z,x = .str z ∧ vs = [] ∧ Q (.bl (Txt.isdigit z)) H):=by
  intro pins s σ H x xs v us Q I rx rv h
  obtain ⟨z,rfl,rfl,q⟩:=h
  obtain ⟨t,rfl⟩:=rx
  have hus:=rv.zero
  subst hus
  exact SC.isdigit ⟨.bl _,H,I,rfl,q⟩
theorem me_isdigit (ho:ME X EX o mo) (hbase:attributeBase o "isdigit" X.env (eval o X.env) = eval o X.env:=by rfl) (hline:(apos.endLine == cpos.line) = true:=by rfl) :
    ME X EX (.Call (.Attribute o "isdigit" apos) [] [] cpos) (mMth0 gIsdigit mo):=by
  refine me_mth0 PySem.F.slot_str_isdigit PySem.F.type_str_isdigit mt_isdigit (fun Z α F H μ d ds c x vs Q R hp hq hg k => ?_) ho hbase hline
  cases d with
  | str z =>
    cases ds with
    | nil =>
      have hp:=pk_str hp
      subst hp
      cases hg
      have hv:vs = []:=hq
      subst hv
      exact ⟨_,rfl,rfl,k _ F H R (Same.refl _) (rep_bl _)⟩
    | cons a b => cases hg
  | _ => cases ds <;> cases hg
end
end M
set_option Elab.async false
set_option linter.all false
set_option maxRecDepth 100000
set_option maxHeartbeats 4000000
namespace M
open PySem PySem.Spec PyProof.Rows L2
noncomputable abbrev mkS (x:List Nat):Str:=⟨x.toArray⟩
noncomputable def txtsOf:List D → Option (List (List Nat))
  | [] => some []
  | .str x :: ds => (txtsOf ds).map (x :: ·)
  | _ :: _ => none
noncomputable def gJoin:D → GL:=fun d ds => match d,ds with
  | .str x,[.lst ys] => (txtsOf ys).bind fun ts => if JoinOk (mkS x) (ts.map mkS) = true then some (.str (Txt.join (mkS x) (ts.map mkS)).cps.toList) else none
  | _,_ => none
section
variable {X:Cx} {EX:EXT} {o e:Expr} {es:List Expr} {mo:MX} {ms:MAs} {apos cpos:Pos}
noncomputable def gIntT:GL:=fun ds => match ds with
  | [.str x] => if x.length ≤ 640 then (PySem.intText? (mkS x)).map .int else none
  | _ => none
theorem call_intT:CallR X (.type "int") (fun xs H Q => ∃ z n,xs = [.str z] ∧ z.length ≤ 640 ∧ PySem.intText? z = some n ∧ Q (.int n) H):=by
  intro pins s σ H xs us Q I r h
  obtain ⟨z,n,rfl,hl,hn,q⟩:=h
  obtain ⟨u,rfl,rx⟩:=vals1 r
  obtain ⟨t,rfl⟩:=rx
  exact PySem.W.KIN.call_text hn hl ⟨.int n,H,I.tok _,⟨_,rfl⟩,q⟩
theorem cm_intT:CallM X (.type "int") gIntT:=by
  refine ⟨_,call_intT,fun Z α F H μ ds c vs Q R hp hg k => ?_⟩
  match ds,hg with
  | [.str x],hg =>
    obtain ⟨v,rfl,h1⟩:=pks1 hp
    rw [pk_str h1]
    simp only [gIntT] at hg
    split at hg
    · rename_i hl
      obtain ⟨n,hn,rfl⟩:=Option.map_eq_some_iff.mp hg
      exact ⟨_,n,rfl,by simpa [Str.length] using hl,hn,k _ F H R (Same.refl _) (rep_int _)⟩
    · cases hg
noncomputable def gStrC:GL:=fun ds => match ds with
  | [.int i] => if i.natAbs.log2 < 1920 then some (.str (Str.ofString (toString i)).cps.toList) else none
  | [.str x] => some (.str x)
  | _ => none
theorem call_strC:CallR X (.type "str") (fun xs H Q => (∃ i,xs = [.int i] ∧ i.natAbs.log2 < 1920 ∧ Q (.str (toString i)) H) ∨ ∃ z,xs = [.str z] ∧ Q (.str z) H):=by
  intro pins s σ H xs us Q I r h
  rcases h with ⟨i,rfl,hi,q⟩ | ⟨z,rfl,q⟩
  · exact call_str_int pins s σ H _ us Q I r ⟨i,rfl,hi,q⟩
  · obtain ⟨u,rfl,rx⟩:=vals1 r
    obtain ⟨t,rfl⟩:=rx
    exact PySem.P.str_of_str ⟨.str z,H,I,⟨_,rfl⟩,q⟩
theorem cm_str:CallM X (.type "str") gStrC:=by
  refine ⟨_,call_strC,fun Z α F H μ ds c vs Q R hp hg k => ?_⟩
  match ds,hg with
  | [.int i],hg =>
    obtain ⟨v,rfl,h1⟩:=pks1 hp
    rw [pk_int h1]
    simp only [gStrC] at hg
    split at hg
    · rename_i hl
      cases hg
      exact .inl ⟨i,rfl,hl,k _ F H R (Same.refl _) (rep_str _)⟩
    · cases hg
  | [.str x],hg =>
    obtain ⟨v,rfl,h1⟩:=pks1 hp
    rw [pk_str h1]
    cases hg
    exact .inr ⟨_,rfl,k _ F H R (Same.refl _) (rep_str _)⟩
end
end M
set_option Elab.async false
set_option linter.all false
set_option maxRecDepth 100000
set_option maxHeartbeats 4000000
namespace M
open PySem PySem.Spec PyProof.Rows L2
section
variable {X:Cx} {EX:EXT} {o a:Expr} {mo m:MX} {ms:MAs}
end
end M
set_option Elab.async false
set_option linter.all false
set_option maxRecDepth 100000
set_option maxHeartbeats 4000000
namespace M
open PySem PySem.Spec PyProof.Rows L2
section
variable {X:Cx} {EX:EXT} {e:Expr} {m:MX} {pos:Pos}
end
end M
set_option Elab.async false
set_option linter.all false
set_option maxRecDepth 100000
set_option maxHeartbeats 4000000
namespace M
open PySem PySem.Spec PyProof.Rows L2
section
variable {K:PySem.W.Frag} {Z:ZS} {F H:Hp} {α:List Addr} {μ:Mu} {j:Nat} {a:Addr} {ds:List D} {vs:List V}
end
section
variable {X:Cx} {EX:EXT} {scope:Scope} {T caps:List Str} {ix:List Nat} {tg iter elt:Expr} {ifs:List Expr} {g:MG} {t:MB} {m mo:MX} {pos:Pos}
end
end M
set_option Elab.async false
set_option linter.all false
set_option maxRecDepth 100000
set_option maxHeartbeats 4000000
namespace M
open PySem PySem.Spec PyProof.Rows L2
noncomputable def objAt (c m:Str) (d:D) (μ:Mu):Bool:=match d with
  | .ref k => match μ[k]? with
    | some (.obj C ns _) => decide (C = c ∧ m ∉ ns)
    | _ => false
  | _ => false
theorem look_zip {m:Str}:∀ {ns:List Str} {vs:List V},m ∉ ns → (ns.zip vs).lookup m = none
  | [],_,_ => rfl
  | _ :: _,[],_ => rfl
  | n :: ns,v :: vs,h => by
    rw [List.zip_cons_cons,List.lookup_cons,show (m == n) = false from beq_eq_false_iff_ne.mpr (fun z => h (by rw [z]; exact List.mem_cons_self))]
    exact look_zip fun z => h (List.mem_cons_of_mem _ z)
theorem obj_of {K:PySem.W.Frag} {Z:ZS} {α:List Addr} {F H:Hp} {μ:Mu} {c m:Str} {d:D} {v:V} (R:RH K Z α F H μ) (p:Rep K F α d v) (h:objAt c m d μ = true):∃ a dx fs,v = .ref a ∧ H a = some (.ins (cA K c) dx fs) ∧ fs.lookup m = none:=by
  cases d with
  | ref k =>
    unfold Rep at p
    obtain ⟨a,ha,rfl⟩:=p
    cases hc:μ[k]? with
    | none => simp only [objAt,hc] at h; cases h
    | some cl =>
      cases cl with
      | obj C ns ds =>
        simp only [objAt,hc,decide_eq_true_eq] at h
        obtain ⟨rfl,hn⟩:=h
        obtain ⟨_,dx,vs,h1,_,_⟩:=R.cell k a _ ha hc
        exact ⟨a,dx,_,rfl,h1,look_zip hn⟩
      | _ => simp only [objAt,hc] at h; cases h
  | _ => cases h
noncomputable def mMe (c m:Str) (φ:Fn) (mo:MX) (ms:MAs):MX:=fun ρ μ => (mo ρ μ).bind fun d μ1 => if objAt c m d μ1 = true then (ms ρ μ1).bind fun ds μ2 => noX (φ (d :: ds) μ2) else .bad
noncomputable def MthAt (P:Program) (w:World) (K:PySem.W.Frag) (mg:Str → Option Value) (base:Heap) (c m:Str) (k n:Nat) (φ:Fn):Prop :=
  ∃ f fd ps,Cls K (cA K c) ∧ Meth K (cA K c) m f ∧ BindsS fd ps ∧ ps.length = n + 1 ∧ FnOk P w K mg base CX0 k f fd ps (spM K (n + 1) φ)
noncomputable def MtD (K:PySem.W.Frag) (c m qual:Str) (st:Stmt) (ps:List Str):Prop:=∃ f fd,Cls K (cA K c) ∧ Meth K (cA K c) m f ∧ Fun K m qual st f fd ∧ BindsS fd ps
section
variable {P:Program} {w:World} {K:PySem.W.Frag} {mg:Str → Option Value} {base:Heap} {xc:XCs}
theorem mthAt_of {c m qual:Str} {st:Stmt} {ps:List Str} {k n:Nat} {φ:Fn} (D:MtD K c m qual st ps) (hn:ps.length = n + 1) (hb:∀ (f:Addr) (fd:FuncData),Fun K m qual st f fd → FnOk P w K mg base CX0 k f fd ps (spM K (n + 1) φ)):MthAt P w K mg base c m k n φ:=by
  obtain ⟨f,fd,h1,h2,h3,h4⟩:=D
  exact ⟨f,fd,ps,h1,h2,h4,hn,hb f fd h3⟩
end
section
variable {X:Cx} {EX:EXT} {o e:Expr} {es:List Expr} {mo:MX} {ms:MAs} {c m:Str} {k n:Nat} {φ:Fn} {apos pos:Pos} {xc:XCs} {E:XK} {pl:Sem Bool}
theorem me_meth (F:MthAt X.prog X.w X.K X.mg X.base c m k n φ) (hr:Room k X.A) (ho:ME X EX o mo) (ha:MA X EX (e :: es) ms) (hl:(e :: es).length = n)
    (hst:starEach (e :: es) X.env = (false,eval e X.env) :: starEach es X.env:=by rfl) (hpl:(backTo pos (starEach es X.env)).any (·.1) = false:=by rfl)
    (ht:eval (.Call (.Attribute o m apos) (e :: es) [] pos) X.env = (do
      let ov ← eval o X.env
      standAt apos.atName
      let (f,first) ← holding [ov] (getMethod ov m pl)
      callWith pos f first (backTo pos (starEach (e :: es) X.env)) (backToKw pos (keywordEach [] X.env))):=by rfl) :
    ME X EX (.Call (.Attribute o m apos) (e :: es) [] pos) (mMe c m φ mo ms):=by
  obtain ⟨f,fd,ps,c1,m1,b1,l1,F1⟩:=F
  obtain ⟨to,po,so⟩:=ho
  obtain ⟨t,pt,st,lt⟩:=ha
  refine ⟨_,pe_meth (pl:=pl) po c1 m1 F1 hr (.all b1) .nil pass0 pt hst hpl ht,fun Z α G H σ ρ μ Q R g => ?_⟩
  refine so Z α G H σ ρ μ _ R (GE.step (G:=GE X.K EX Z α G Q) g (fun _ _ h => h) (fun h => h) fun d μ1 v α1 F1 H1 R1 e1 p1 g1 => ?_)
  by_cases hd:objAt c m d μ1 = true
  · rw [if_pos hd] at g1
    obtain ⟨a,dx,fs,rfl,h2,h3⟩:=obj_of R1 p1 hd
    refine ⟨a,dx,fs,rfl,h2,h3,st Z α1 F1 H1 σ ρ μ1 _ (R.to R1 e1) ?_⟩
    cases hy:ms ρ μ1 with
    | exc x μ2 => rw [hy] at g1; exact g1
    | bad => rw [hy] at g1; exact g1
    | ok ds μ2 =>
      rw [hy] at g1
      intro vs α2 F2 H2 R2 e2 p2
      rw [List.append_nil]
      exact ⟨Z,α2,F2,d :: ds,μ2,R2,reps_cons (p1.mono e2) p2,by rw [List.length_cons,lt _ _ _ _ hy,hl],GE.noX (GE.ext (e1.trans e2) g1)⟩
  · rw [if_neg hd] at g1; exact g1.elim
theorem me_meth0 (F:MthAt X.prog X.w X.K X.mg X.base c m k 0 φ) (hr:Room k X.A) (ho:ME X EX o mo)
    (ht:eval (.Call (.Attribute o m apos) [] [] pos) X.env = (do
      let ov ← eval o X.env
      standAt apos.atName
      let (f,first) ← holding [ov] (getMethod ov m pl)
      callWith pos f first (backTo pos (starEach [] X.env)) (backToKw pos (keywordEach [] X.env))):=by rfl) :
    ME X EX (.Call (.Attribute o m apos) [] [] pos) (mMe c m φ mo mNil):=by
  obtain ⟨f,fd,ps,c1,m1,b1,l1,F1⟩:=F
  obtain ⟨to,po,so⟩:=ho
  refine ⟨_,pe_meth0 (pl:=pl) po c1 m1 F1 hr (.all b1) .nil pass0 ht,fun Z α G H σ ρ μ Q R g => ?_⟩
  refine so Z α G H σ ρ μ _ R (GE.step (G:=GE X.K EX Z α G Q) g (fun _ _ h => h) (fun h => h) fun d μ1 v α1 F1 H1 R1 e1 p1 g1 => ?_)
  by_cases hd:objAt c m d μ1 = true
  · rw [if_pos hd] at g1
    obtain ⟨a,dx,fs,rfl,h2,h3⟩:=obj_of R1 p1 hd
    exact ⟨a,dx,fs,rfl,h2,h3,Z,α1,F1,[d],μ1,R1,reps_cons p1 reps_nil,rfl,GE.noX (GE.ext e1 g1)⟩
  · rw [if_neg hd] at g1; exact g1.elim
noncomputable def mAug (i:Nat) (mv:MX):MSt:=fun ρ μ => match ρ[i]? with
  | some (some (.int a)) => (mv ρ μ).bind fun y μ1 => match y with
    | .int b => .ok (.nx (ρ.set i (some (.int (a + b))))) μ1
    | _ => .bad
  | _ => .bad
theorem ms_aug {i:Nat} {x:Str} {pos':Pos} {v:Expr} {mv:MX} (hN:X.nd) (hi:X.N[i]? = some x) (hx:Loc X.env.scope x) (hf:X.fn x = true ∨ X.env.scope.names.lookup x = some .local) (hv:ME X EX v mv):MS X EX (.AugAssign (.Name x pos') .Add v pos) (mAug i mv):=by
  obtain ⟨tv,pv,sv⟩:=hv
  refine ⟨_,ps_aug hN hi hx pv in_add hf,fun Z α F H σ ρ μ N R g => ?_⟩
  unfold mAug at g
  split at g
  · rename_i a ha
    obtain ⟨u,hu,ru⟩:=R.sl i _ ha
    obtain rfl:u = .int a:=ru
    refine ⟨_,hu,sv Z α F H σ ρ μ _ R (GE.step (G:=GS X.K EX Z α F N) g (fun _ _ h => h) (fun h => h) fun y μ1 w α1 F1 H1 R1 e1 p1 g1 => ?_)⟩
    cases y with
    | int b =>
      obtain rfl:w = .int b:=p1
      exact ⟨a,b,rfl,rfl,g1 _ α1 F1 H1 ((R.to R1 e1).set i (rep_int _)) e1⟩
    | _ => exact g1.elim
  · exact g.elim
end
end M
set_option Elab.async false
set_option linter.all false
set_option maxRecDepth 100000
set_option maxHeartbeats 4000000
namespace M
open PySem PySem.Spec PyProof.Rows L2
section
variable {X:Cx} {EX:EXT}
end
end M
set_option Elab.async false
set_option linter.all false
set_option maxRecDepth 100000
set_option maxHeartbeats 4000000
namespace M
open PySem PySem.Spec PyProof.Rows L2
section
variable {prog:Program} {w:World} {A:Around} {E:Value → Shared → Prop} {s:Shared}
theorem hash_none {Q:Int → Shared → Prop} (h:Q 0xFCA86420 { s with toks:=s.toks + 1 }):wpAny (model prog w) A (pyHash .none) Q E s:=by
  show wpAny _ _ (pyHashByItsType .none) Q E s
  unfold pyHashByItsType
  have hv:[Value.none].any Value.onHeap = false:=rfl
  refine wpAny_bind ?_
  rw [cRoomFor,if_neg (by rw [hv]; exact Bool.false_ne_true)]; refine wpAny_pure ?_
  refine wpAny_bind (wpAny_specialOf (typeIs_none s) F.slot_NoneType_hash.lookup ?_)
  show wpAny _ _ (if (some (Value.builtin "NoneType.__hash__") == some Value.none) = true then _ else _) Q E s
  rw [if_neg (by rw [beq_builtin_none]; exact Bool.false_ne_true)]
  refine wpAny_bind (wpAny_specialOf (typeIs_none s) F.slot_NoneType_hash.lookup ?_)
  show wpAny _ _ (callSpecialIfBoundUnlessNone? .none "__hash__" _ >>= _) Q E s
  refine wpAny_bind (wpAny_callSpecialIfBoundUnlessNone?_slot (typeIs_none s) F.slot_NoneType_hash
    (wpAny_call_entry F.slot_NoneType_hash (typeIs_none s) F.entry_NoneType_hash
      (show wpAny _ _ (do ret (← mkInt 0xFCA86420)) _ _ s from wpAny_ret_mkInt ?_) (F.args_NoneType_hash_1 _)))
  show wpAny _ _ (if (decide (-(2:Int) ^ 63 ≤ 0xFCA86420) && decide ((0xFCA86420:Int) < 2 ^ 63)) = true then _ else _) Q E _
  rw [if_pos (by decide)]
  exact wpAny_pure h
noncomputable def nIs:Option Key → Value → Bool
  | none,v => (v matches .none)
  | some k,v => keyIs k v
theorem nIs_none {v:Value} (h:nIs none v = true):v = .none:=by
  cases v <;> first | rfl | cases h
theorem key_none {k:Key}:keyIs k .none = false:=by
  cases h:keyIs k .none with
  | false => rfl
  | true => rcases keyIs_shape h with ⟨i,t,_,e⟩ | ⟨x,t,_,e⟩ <;> cases e
noncomputable def nKind (prog:Program) (w:World):PySem.KeyKind prog w (Option Key) where
  is:=nIs
  hash:=fun o => match o with
    | none => 0xFCA86420
    | some k => keyH w k
  inj:=fun v a b ha hb => by
    cases a with
    | none =>
      have e:=nIs_none ha
      subst e
      cases b with
      | none => rfl
      | some k => rw [show nIs (some k) .none = false from key_none] at hb; cases hb
    | some k =>
      cases b with
      | none =>
        have e:=nIs_none hb
        subst e
        rw [show nIs (some k) .none = false from key_none] at ha; cases ha
      | some k' => rw [(mixKind prog w).inj v k k' ha hb]
  byValue:=fun k v h => by
    cases k with
    | none => have e:=nIs_none h; subst e; rfl
    | some k => exact (mixKind prog w).byValue k v h
  pyHash:=fun {A E s k v Q} hv h => by
    cases k with
    | none => have e:=nIs_none hv; subst e; exact hash_none h
    | some k => exact (mixKind prog w).pyHash hv h
  eqBool:=fun {A E s a b u v Q} hu hv h => by
    cases a with
    | none =>
      have e:=nIs_none hu
      subst e
      cases b with
      | none =>
        have e:=nIs_none hv
        subst e
        unfold eqBool
        simp only [beq_self_eq_true,if_true]
        exact wpAny_bind (wpAny_rule (wpAny_pure (by simpa using h)))
      | some k =>
        rcases keyIs_shape hv with ⟨i,t,rfl,rfl⟩ | ⟨x,t,rfl,rfl⟩
        · exact SeqAt.EqAt.none_int _ _ _ _ _ _ (by simpa using h)
        · exact SeqAt.EqAt.none_str _ _ _ _ _ _ (by simpa using h)
    | some k =>
      cases b with
      | none =>
        have e:=nIs_none hv
        subst e
        rcases keyIs_shape hu with ⟨i,t,rfl,rfl⟩ | ⟨x,t,rfl,rfl⟩
        · exact SeqAt.EqAt.int_none _ _ _ _ _ _ (by simpa using h)
        · exact SeqAt.EqAt.str_none _ _ _ _ _ _ (by simpa using h)
      | some k' =>
        refine (mixKind prog w).eqBool hu hv ?_
        have:decide (some k = some k') = decide (k = k'):=by
          by_cases z:k = k'
          · subst z; simp
          · rw [decide_eq_false z,decide_eq_false (fun y => z (Option.some.inj y))]
        rw [this] at h
        exact h
  «strs»:=fun k x t v h => by
    cases k with
    | none => cases nIs_none h
    | some k => exact (mixKind prog w).strs k x t v h
theorem map_none {P:Program} {h:Heap} {q:Addr} {f:Key → Option Value} (m:h.MapOf (mixKind P w) q f):h.MapOf (nKind P w) q (fun o => o.bind f):=by
  obtain ⟨o,es,ep,ho,hx,hd,hk,hf⟩:=m
  refine ⟨o,es,ep,ho,hx,hd,fun e he => let ⟨k,a,b⟩:=hk e he; ⟨some k,a,b⟩,fun k => ?_⟩
  cases k with
  | some k => exact hf k
  | none =>
    show (es.find? fun e => nIs none e.key).map (·.val) = none
    rw [Option.map_eq_none_iff,Array.find?_eq_none]
    intro e he z
    obtain ⟨k,a,_⟩:=hk e he
    rw [nIs_none z] at a
    rw [show (mixKind P w).is k .none = false from key_none] at a
    cases a
end
noncomputable def gDInN (neg:Bool):G2:=fun b a => match b with
  | .non => match a with
    | .dic _ _ => some (.bl neg)
    | _ => none
  | _ => gDIn neg b a
section
variable {X:Cx} {EX:EXT} {a:Expr} {ma:MX} {x:Str} {ks:List DK} {ds:List D} {pos p:Pos}
noncomputable def tCInN (neg:Bool) (kvs:List (Key × V)) (ta:TE):TE:=fun σ H Q => ta σ H fun y H1 => (∃ k,y = kV k ∧ Q (.bl (if neg then !(valV kvs k).isSome else (valV kvs k).isSome)) H1) ∨ (y = .non ∧ Q (.bl neg) H1)
theorem good_cinN {neg:Bool} {ta:TE} {vs:List V} (h5:ks.length = ds.length) (h6:∀ F α,Reps X.K F α ds vs) (sa:Good X EX ta ma):Good X EX (tCInN neg ((ks.map dk).zip vs) ta) (mBin (gDInN neg) ma (mC (.dic ks ds))):=by
  intro Z α F H σ ρ μ Q R g
  refine sa Z α F H σ ρ μ _ R (GE.step (G:=GE X.K EX Z α F Q) (show GE X.K EX Z α F Q ((ma ρ μ).bind fun d μ1 => ofO μ1 (gDInN neg (deref μ1 d) (deref μ1 (.dic ks ds)))) from g) (fun _ _ h => h) (fun h => h) fun d μ1 v α1 F1 H1 R1 e1 p1 g1 => ?_)
  have pk:=R1.pk p1
  cases hq:deref μ1 d with
  | non =>
    rw [hq] at g1 pk
    obtain rfl:v = .non:=by unfold Pk Rep at pk; exact pk
    exact .inr ⟨rfl,g1 _ α1 F1 H1 R1 e1 (rep_bl _)⟩
  | _ =>
    left
    rw [hq] at g1
    simp only [deref_dic,gDInN,gDIn] at g1
    first
      | exact g1.elim
      | (have hy:=key_pk (by rw [hq] at pk; exact pk) (show keyD _ = some _ from rfl)
         refine ⟨_,hy,?_⟩
         rcases look_val (h6 F1 α1) h5 with ⟨d',v',l1,l2,l3⟩ | ⟨l1,l2⟩
         · simp only [keyD,Option.map_some,ofO_some] at g1
           rw [l1] at g1
           rw [l2]
           exact g1 _ α1 F1 H1 R1 e1 (rep_bl _)
         · simp only [keyD,Option.map_some,ofO_some] at g1
           rw [l1] at g1
           rw [l2]
           exact g1 _ α1 F1 H1 R1 e1 (rep_bl _))
theorem pc_cinN {ta:TE} {q:Addr} {us:List (Key × Value)} {vs:List V} (h1:X.mg x = some (.ref q)) (h2:(q == sysModules) = false) (h3:∀ (P:Program) (h:Heap),X.K.In h → h.DictOf (mixKind P X.w) q us) (h4:KV ((ks.map dk).zip vs) us) (hg:Gl X x) (hd:(x == ("__debug__":Str)) = false)
    (pa:PE X a ta):PC X .In a (.Name x p) (tCInN false ((ks.map dk).zip vs) ta):=by
  intro pins s σ H Q I h
  refine thn (pa pins s σ H _ I h) fun iv s1 ⟨y,H1,I1,ry,q1⟩ => ld_glob I1 hg h1 ?_ hd
  have dd:=h3 X.prog _ I1.kIn
  rcases q1 with ⟨k,ey,q1⟩ | ⟨ey,q1⟩
  · subst ey
    refine wpAny_in_of (kV_is ry) h2 dd.mapOf ?_
    rw [← (h4.val k).isSome_eq]
    exact ⟨.bl (valV ((ks.map dk).zip vs) k).isSome,H1,I1.tok _,rfl,q1⟩
  · subst ey
    obtain rfl:iv = .none:=ry
    exact wpAny_in_of (knd:=nKind X.prog X.w) (k:=none) rfl h2 (map_none dd.mapOf) ⟨.bl false,H1,I1.tok _,rfl,q1⟩
theorem pc_cninN {ta:TE} {q:Addr} {us:List (Key × Value)} {vs:List V} (h1:X.mg x = some (.ref q)) (h2:(q == sysModules) = false) (h3:∀ (P:Program) (h:Heap),X.K.In h → h.DictOf (mixKind P X.w) q us) (h4:KV ((ks.map dk).zip vs) us) (hg:Gl X x) (hd:(x == ("__debug__":Str)) = false)
    (pa:PE X a ta):PC X .NotIn a (.Name x p) (tCInN true ((ks.map dk).zip vs) ta):=by
  intro pins s σ H Q I h
  refine thn (pa pins s σ H _ I h) fun iv s1 ⟨y,H1,I1,ry,q1⟩ => ld_glob I1 hg h1 ?_ hd
  have dd:=h3 X.prog _ I1.kIn
  rcases q1 with ⟨k,ey,q1⟩ | ⟨ey,q1⟩
  · subst ey
    refine wpAny_notIn_of (kV_is ry) h2 dd.mapOf ?_
    rw [← (h4.val k).isSome_eq]
    exact ⟨.bl (!(valV ((ks.map dk).zip vs) k).isSome),H1,I1.tok _,rfl,q1⟩
  · subst ey
    obtain rfl:iv = .none:=ry
    exact wpAny_notIn_of (knd:=nKind X.prog X.w) (k:=none) rfl h2 (map_none dd.mapOf) ⟨.bl true,H1,I1.tok _,rfl,q1⟩
theorem mt_cdinN (c:DictAt X.w X.K X.mg x ks ds) (hg:Gl X x) (ha:ME X EX a ma) (hd:(x == ("__debug__":Str)) = false:=by decide):MT X EX (.Compare a [.In] [.Name x p] pos) (mTest (mBin (gDInN false) ma (mC (.dic ks ds)))):=by
  obtain ⟨q,us,vs,h1,h2,h3,h4,h5,h6⟩:=c
  obtain ⟨ta,pa,sa⟩:=ha
  exact ⟨_,pt_cmp (pc_cinN h1 h2 h3 h4 hg hd pa) rfl,good_test (good_cinN h5 h6 sa)⟩
theorem mt_cdnotinN (c:DictAt X.w X.K X.mg x ks ds) (hg:Gl X x) (ha:ME X EX a ma) (hd:(x == ("__debug__":Str)) = false:=by decide):MT X EX (.Compare a [.NotIn] [.Name x p] pos) (mTest (mBin (gDInN true) ma (mC (.dic ks ds)))):=by
  obtain ⟨q,us,vs,h1,h2,h3,h4,h5,h6⟩:=c
  obtain ⟨ta,pa,sa⟩:=ha
  exact ⟨_,pt_cmp (pc_cninN h1 h2 h3 h4 hg hd pa) rfl,good_test (good_cinN h5 h6 sa)⟩
end
end M
set_option Elab.async false
set_option linter.all false
set_option maxRecDepth 100000
set_option maxHeartbeats 4000000
namespace M
open PySem PySem.Spec PyProof.Rows L2
section
variable {X:Cx} {EX:EXT} {o a:Expr} {mo m ma:MX} {ms:MAs} {apos cpos pos p2:Pos}
noncomputable def gIsalpha:D → Option D
  | .str x => some (.bl (Txt.isalpha ⟨x.toArray⟩))
  | _ => none
theorem mt_isalpha:MtR X "str.isalpha" (fun x vs H Q => ∃ z,x = .str z ∧ vs = [] ∧ Q (.bl (Txt.isalpha z)) H):=by
  intro pins s σ H x xs v us Q I rx rv h
  obtain ⟨z,rfl,rfl,q⟩:=h
  obtain ⟨t,rfl⟩:=rx
  have hus:=rv.zero
  subst hus
  exact SC.isalpha ⟨.bl _,H,I,rfl,q⟩
theorem me_isalpha (ho:ME X EX o mo) (hbase:attributeBase o "isalpha" X.env (eval o X.env) = eval o X.env:=by rfl) (hline:(apos.endLine == cpos.line) = true:=by rfl) :
    ME X EX (.Call (.Attribute o "isalpha" apos) [] [] cpos) (mMth0 gIsalpha mo):=by
  refine me_mth0 PySem.F.slot_str_isalpha PySem.F.type_str_isalpha mt_isalpha (fun Z α F H μ d ds c x vs Q R hp hq hg k => ?_) ho hbase hline
  cases d with
  | str z =>
    cases ds with
    | nil =>
      have hp:=pk_str hp
      subst hp
      cases hg
      have hv:vs = []:=hq
      subst hv
      exact ⟨_,rfl,rfl,k _ F H R (Same.refl _) (rep_bl _)⟩
    | cons a b => cases hg
  | _ => cases ds <;> cases hg
theorem sl_str:SlR X (fun x lo hi H Q => ∃ z,x = .str z ∧ z.length ≤ sizeLine ∧ Q (.str (Txt.slice z lo hi)) H):=by
  intro pins s σ H x v vl vu lo hi sl Q I rx hs pl pu h
  obtain ⟨z,rfl,hz,q⟩:=h
  obtain ⟨t,rfl⟩:=rx
  refine ⟨"str",_,F.slot_str_getitem.lookup,typeIs_str _ _ _,?_⟩
  have fin:∀ (lo hi:Option Int),Q (.str (Txt.slice z lo hi)) H → (Txt.slice z lo hi).length ≤ sizeLine ∧ ∀ t' k,EP X pins σ Q (.str (Txt.slice z lo hi) t') { s with toks:=k }:=fun lo hi q =>
    ⟨Nat.le_trans (Txt.slice_le z _ _) hz,fun t' k => ⟨.str _,H,I.tok _,⟨_,rfl⟩,q⟩⟩
  cases pl with
  | none => cases pu with
    | none => exact wpAny_getItem_str_slice (l:=none) (u:=none) (st:=none) hs rfl (post_val_or_str (fin _ _ q))
    | int j u => exact wpAny_getItem_str_slice (l:=none) (u:=some (j,u)) (st:=none) hs rfl (post_val_or_str (fin _ _ q))
  | int i t2 => cases pu with
    | none => exact wpAny_getItem_str_slice (l:=some (i,t2)) (u:=none) (st:=none) hs rfl (post_val_or_str (fin _ _ q))
    | int j u => exact wpAny_getItem_str_slice (l:=some (i,t2)) (u:=some (j,u)) (st:=none) hs rfl (post_val_or_str (fin _ _ q))
noncomputable def gSlT (d:D) (lo hi:Option Int):Option D:=match d with
  | .str x => if x.length ≤ 16777215 then some (.str (Txt.slice (mkS x) lo hi).cps.toList) else none
  | _ => none
noncomputable def mSlT (m:MX) (lo hi:MOp):MX:=fun ρ μ => (m ρ μ).bind fun d μ1 => (lo ρ μ1).bind fun l μ2 => (hi ρ μ2).bind fun h μ3 => ofO μ3 (gSlT (deref μ3 d) l h)
theorem me_sliceT {lo hi:Option Expr} {l h:MOp} (ha:ME X EX a ma) (hl:MPt X EX lo l) (hh:MPt X EX hi h):ME X EX (.Subscript a (.Slice lo hi none p2) pos) (mSlT ma l h):=by
  obtain ⟨ta,pa,sa⟩:=ha
  obtain ⟨tl,pl,sl⟩:=hl
  obtain ⟨th,ph,sh⟩:=hh
  refine ⟨_,pe_slice sl_str pa pl ph,fun Z α F H σ ρ μ Q R g => ?_⟩
  refine sa Z α F H σ ρ μ _ R (GE.step (G:=GE X.K EX Z α F Q) g (fun _ _ h => h) (fun h => h) fun d μ1 v α1 F1 H1 R1 e1 p1 g1 => ?_)
  refine sl Z α1 F1 H1 σ ρ μ1 _ (R.to R1 e1) (GO.step (G:=GE X.K EX Z α F Q) g1 (fun _ _ h => h) (fun h => h) fun l μ2 α2 F2 H2 R2 e2 g2 => ?_)
  refine sh Z α2 F2 H2 σ ρ μ2 _ (R.to R2 (e1.trans e2)) (GO.step (G:=GE X.K EX Z α F Q) g2 (fun _ _ h => h) (fun h => h) fun h μ3 α3 F3 H3 R3 e3 g3 => ?_)
  have p3:=R3.pk ((p1.mono e2).mono e3)
  cases hd:deref μ3 d with
  | str x =>
    rw [hd] at p3 g3
    have p3:=pk_str p3
    subst p3
    simp only [gSlT] at g3
    split at g3
    · rename_i hx
      exact ⟨_,rfl,by rw [sizeLine_eq]; simp only [Str.length,List.size_toArray]; omega,g3 _ α3 F3 H3 R3 (e1.trans (e2.trans e3)) (rep_str _)⟩
    · exact g3.elim
  | _ => rw [hd] at g3; exact g3.elim
end
end M
set_option Elab.async false
set_option linter.all false
set_option maxRecDepth 100000
set_option maxHeartbeats 4000000
namespace M
open PySem PySem.Spec PyProof.Rows L2
section
variable {X:Cx} {EX:EXT} {scope:Scope} {T caps:List Str} {ix:List Nat} {tg o elt:Expr} {ifs:List Expr} {g:MG} {t:MB} {m mo:MX} {p q pos:Pos} {to:TE}
end
end M
set_option Elab.async false
set_option linter.all false
set_option maxRecDepth 100000
set_option maxHeartbeats 4000000
namespace M
open PySem PySem.Spec PyProof.Rows L2
section
variable {P:Program} {w:World} {K:PySem.W.Frag} {mg:Str → Option Value} {base:Heap} {xc:XCs}
theorem fnM {x qual:Str} {st:Stmt} {N ps:List Str} {k j n:Nat} {b:MSt} {f:Addr} {fd:FuncData} (F:Fun K x qual st f fd) (G:List Str) (S:FnScope N ps (defScope st)) (hl:locB (defScope st) N = true) (hg:glB (defScope st) G = true) (hj:N.length - ps.length = j) (hn:ps.length = n)
    (hb:∀ (cdv:Value) (A:Around) (outer:List Env) (s:Shared) (H:Hp) (E:XK),Room k (A.deeper (envOfC qual (defScope st) s.heap.objs.size f cdv)) → Ct (cxOf CX0 P w K mg base N qual (defScope st) f cdv A outer s H E).nox N G → MSs (cxOf CX0 P w K mg base N qual (defScope st) f cdv A outer s H E).nox NoX (defBody st) b) :
    FnOk P w K mg base CX0 (k + 1) f fd ps (spM K n (fnOf j b)) :=
  fnOkQ_of F S hj hn fun cdv A outer s H E hr => hb cdv A outer s H E hr (ct_of S.nd (loc_of hl) (gl_of hg) hr)
end
section
variable {X:Cx} {EX:EXT} {N G:List Str}
theorem sag (C:Ct X N G) (i:Nat) {x:Str} {pos pos':Pos} {v:Expr} {mv:MX} (h:N[i]? = some x) (hv:ME X EX v mv) (hk:X.kn = none:=by rfl):MS X EX (.AugAssign (.Name x pos') .Add v pos) (mAug i mv):=ms_aug ⟨C.ndX,hk⟩ (C.at h) (C.loc x (mem_at h)).1 (.inl (C.fn x)) hv
end
end M
set_option Elab.async false
set_option linter.all false
set_option maxRecDepth 100000
set_option maxHeartbeats 4000000
namespace M
open PySem PySem.Spec PyProof.Rows L2
noncomputable def entV (pr:Params) (x:List Nat × Nat × Value × V):DictEntry:=⟨PyData.keyHash pr ⟨x.1.toArray⟩,.str ⟨x.1.toArray⟩ x.2.1,x.2.2.1⟩
theorem mem_entV {w:World} {xs:List (List Nat × Nat × Value × V)} {e:DictEntry} (h:e ∈ xs.map (entV w.params)) (P:Program):∃ k,(mixKind P w).is k e.key = true ∧ e.hash = (mixKind P w).hash k:=by
  obtain ⟨x,_,rfl⟩:=List.mem_map.mp h
  exact ⟨.inr ⟨x.1.toArray⟩,kV_is (P:=P) (w:=w) (k:=.inr ⟨x.1.toArray⟩) (u:=.str ⟨x.1.toArray⟩ x.2.1) ⟨x.2.1,rfl⟩,rfl⟩
theorem pairs_entV {w:World} (P:Program):∀ xs:List (List Nat × Nat × Value × V),Pairs (mixKind P w) (xs.map (entV w.params)) (xs.map fun x => ((Sum.inr ⟨x.1.toArray⟩:Key),x.2.2.1))
  | [] => .nil
  | x :: xs => .cons (kV_is (P:=P) (w:=w) (k:=.inr ⟨x.1.toArray⟩) (u:=.str ⟨x.1.toArray⟩ x.2.1) ⟨x.2.1,rfl⟩) rfl (pairs_entV P xs)
theorem kv_entV:∀ xs:List (List Nat × Nat × Value × V),(∀ x ∈ xs,RelV x.2.2.2 x.2.2.1) → KV (((xs.map fun x => (.inr x.1:DK)).map dk).zip (xs.map fun x => x.2.2.2)) (xs.map fun x => ((Sum.inr ⟨x.1.toArray⟩:Key),x.2.2.1))
  | [],_ => .nil
  | x :: xs,h => .cons ⟨rfl,(List.forall_mem_cons.mp h).1⟩ (kv_entV xs (List.forall_mem_cons.mp h).2)
theorem nodup_entV:∀ {xs:List (List Nat × Nat × Value × V)},(xs.map (·.1)).Nodup → ((xs.map fun x => ((Sum.inr ⟨x.1.toArray⟩:Key),x.2.2.1)).map (·.1)).Nodup
  | [],_ => List.nodup_nil
  | x :: xs,h => by
    rw [List.map_cons,List.nodup_cons] at h
    rw [List.map_cons,List.map_cons,List.nodup_cons]
    refine ⟨fun z => h.1 ?_,nodup_entV h.2⟩
    rw [List.map_map] at z
    obtain ⟨y,hy,e⟩:=List.mem_map.mp z
    have e2:(⟨y.1.toArray⟩:Str) = ⟨x.1.toArray⟩:=Sum.inr.inj e
    have e3:y.1.toArray = x.1.toArray:=by injection e2
    have e4:y.1 = x.1:=by simpa using congrArg Array.toList e3
    exact List.mem_map.mpr ⟨y,hy,e4⟩
theorem dict_mkV {w:World} {K:PySem.W.Frag} {mg:Str → Option Value} {h:Heap} {x:Str} {p:Addr} {ep:Nat} {ds:List D} (xs:List (List Nat × Nat × Value × V)) (KX:K.In h) (G:h.Ns mainGlobals mg)
    (a:PySem.W.nsIn K mainGlobals x = some (some (.ref p))) (l:K.lookup p = some ⟨.type "dict",none,.dict (xs.map (entV w.params)).toArray ep,#[]⟩) (hp:(p == sysModules) = false) (nd:(xs.map (·.1)).Nodup)
    (hl:xs.length = ds.length) (hv:∀ x ∈ xs,RelV x.2.2.2 x.2.2.1) (hr:∀ F α,Reps K F α ds (xs.map fun x => x.2.2.2)):DictAt w K mg x (xs.map fun x => .inr x.1) ds:=by
  refine ⟨p,_,_,PySem.W.mg_of KX G a,hp,fun P h' k' => ?_,kv_entV xs hv,by simpa using hl,hr⟩
  exact ⟨_,_,_,k' p _ l,⟨rfl,rfl,rfl⟩,rfl,fun e he => mem_entV (by simpa using he) P,by simpa using pairs_entV P xs,nodup_entV nd⟩
end M
set_option Elab.async false
set_option linter.all false
set_option maxRecDepth 100000
set_option maxHeartbeats 4000000
namespace M
open PySem PySem.Spec PyProof.Rows L2
section
variable {X:Cx}
noncomputable def gInT:G2:=fun a b => match a,b with
  | .str x,.str y => some (.bl (!(Builtin.Str.occurrences (mkS y) (mkS x) 0 (mkS y).length 1).isEmpty))
  | _,_ => none
theorem op_inT:OpR X (compareOp .In) (fun x y H Q => ∃ a b,x = .str a ∧ y = .str b ∧ Q (.bl (!(Builtin.Str.occurrences b a 0 b.length 1).isEmpty)) H):=by
  intro pins s σ H x y u v Q I rx ry h
  obtain ⟨a,b,rfl,rfl,q⟩:=h
  obtain ⟨t,rfl⟩:=rx
  obtain ⟨t2,rfl⟩:=ry
  exact P.in_str ⟨.bl _,H,I,rfl,q⟩
theorem om_inT:OpM X (compareOp .In) gInT:=by
  refine ⟨_,op_inT,fun Z α F H μ a b c x y Q R ha hb hg k => ?_⟩
  cases a with
  | str i =>
    cases b with
    | str j =>
      have ha:=pk_str ha
      have hb:=pk_str hb
      cases hg
      exact ⟨_,_,ha,hb,k _ F H R (Same.refl _) (rep_bl _)⟩
    | _ => cases hg
  | _ => cases hg
end
end M
set_option Elab.async false
set_option linter.all false
set_option maxRecDepth 100000
set_option maxHeartbeats 4000000
namespace M
open PySem PySem.Spec PyProof.Rows L2
inductive CPs (X:Cx) (pos:Pos):List (Sem Value × Sem Value) → List (Str × Str) → Prop
  | nil:CPs X pos [] []
  | cons {x y:Str} {p q:Pos} {ps:List (Sem Value × Sem Value)} {kvs:List (Str × Str)}:CPs X pos ps kvs → CPs X pos ((eval (.Constant (.str x) 0 p) X.env,do let v ← eval (.Constant (.str y) 0 q) X.env; standAt pos; pure v) :: ps) ((x,y) :: kvs)
inductive CPe:List (Option Expr) → List Expr → List (Str × Str) → Prop
  | nil:CPe [] [] []
  | cons {x y:Str} {cs ds:List Nat} {p q:Pos} {ks:List (Option Expr)} {vs:List Expr} {kvs:List (Str × Str)}:x = ⟨cs.toArray⟩ → y = ⟨ds.toArray⟩ → CPe ks vs kvs → CPe (some (.Constant (.str x) 0 p) :: ks) (.Constant (.str y) 0 q :: vs) ((⟨cs.toArray⟩,⟨ds.toArray⟩) :: kvs)
theorem CPe.ps {X:Cx} {pos:Pos} {ks:List (Option Expr)} {vs:List Expr} {kvs:List (Str × Str)} (h:CPe ks vs kvs):∃ pairs,CPs X pos pairs kvs ∧ (evalEachOpt ks X.env).zip ((evalEach vs X.env).map fun v => do let x ← v; standAt pos; pure x) = (pairs.map fun p => (some p.1,p.2)) ∧ pairs.length = kvs.length:=by
  induction h with
  | nil => exact ⟨[],.nil,rfl,rfl⟩
  | @cons x y cs ds p q ks vs kvs hx hy _ ih =>
    obtain ⟨ps,h1,h2,h3⟩:=ih
    subst hx hy
    refine ⟨(eval (.Constant (.str ⟨cs.toArray⟩) 0 p) X.env,do let v ← eval (.Constant (.str ⟨ds.toArray⟩) 0 q) X.env; standAt pos; pure v) :: ps,.cons h1,?_,by rw [List.length_cons,List.length_cons,h3]⟩
    rw [List.map_cons,← h2]
    rfl
noncomputable abbrev kvT (kvs:List (Str × Str)):List (Key × V):=kvs.map fun kv => (.inr kv.1,.str kv.2)
section
variable {X:Cx} {EX:EXT} {pos:Pos} {pins:List (Addr × Obj)} {σ:L2.St} {H:Hp} {a:Addr}
theorem long_loop {ps:List (Sem Value × Sem Value)} {kvs:List (Str × Str)} (h:CPs X pos ps kvs):∀ (acc:List (Key × V)) (s:Shared) (Q:PUnit → Shared → Prop),Inv X pins σ (upd H a (.dK acc)) s → acc.length + kvs.length ≤ 1000 → (∀ s',Inv X pins σ (upd H a (.dK (mergeK acc (kvT kvs)))) s' → Q PUnit.unit s') →
    wpAny (model X.prog X.w) X.A (forIn ps PUnit.unit fun (x:Sem Value × Sem Value) (_:PUnit) => (do let kv ← x.1; let vv ← holding [kv] x.2; holding [kv,vv] (dictSet a kv vv); pure (ForInStep.yield PUnit.unit):Sem (ForInStep PUnit))) Q X.xe s:=by
  induction h with
  | nil =>
    intro acc s Q I _ hQ
    rw [List.forIn_nil]
    exact wpAny_pure (hQ s I)
  | @cons x y p q ps kvs _ ih =>
    intro acc s Q I hl hQ
    rw [List.length_cons] at hl
    rw [List.forIn_cons]
    refine wpAny_bind (wpAny_bind (thn (pe_str (X:=X) (x:=x) (j:=0) (pos:=p) pins s σ _ (fun v H1 => v = .str x ∧ H1 = upd H a (.dK acc)) I ⟨rfl,rfl⟩) fun u s1 ⟨v,H1,I1,r1,hv,hH⟩ => ?_))
    subst hv hH
    refine wpAny_bind (wpAny_holding (wpAny_bind (thn (pe_str (X:=X) (x:=y) (j:=0) (pos:=q) pins s1 σ _ (fun v H1 => v = .str y ∧ H1 = upd H a (.dK acc)) I1 ⟨rfl,rfl⟩) fun u2 s2 ⟨v2,H2,I2,r2,hv2,hH2⟩ => wpAny_bind (wpAny_standAt (wpAny_pure ?_)))))
    subst hv2 hH2
    obtain ⟨z,hd,vs0,r0,dd⟩:=dk_of I2.hok upd_same
    refine wpAny_bind (wpAny_holding (wpAny_dictSet_pairs (knd:=mixKind X.prog X.w) (k:=.inr x) (kV_is (k:=.inr x) r1) dd (fun h' dd' hs => wpAny_pure ?_) (by have:=r0.length; rw [sizeLine_eq]; omega)))
    have he:∃ q,h'.get? a = some q:=let ⟨q,_,_,hq,_⟩:=dd'; ⟨q,hq⟩
    have rk:KV (mergeK acc [((.inr x:Key),V.str y)]) (merged vs0 [((.inr x:Key),u2)]):=KV.merge (.cons ⟨rfl,r2⟩ .nil) r0
    have I3:=d_write (t':=s2.toks + 1) I2 (by rw [upd_same]; exact True.intro) hs he (dk_new (kvs:=mergeK acc [((.inr x:Key),V.str y)]) (by have:=length_mergeK [((.inr x:Key),V.str y)] acc; rw [sizeLine_eq]; simp at this; omega) hd rk dd')
    rw [upd_upd] at I3
    exact ih _ _ Q I3 (by have:=length_mergeK [((.inr x:Key),V.str y)] acc; simp at this; omega) fun s' I' => hQ s' I'
theorem pe_dispL {keys:List (Option Expr)} {values:List Expr} {pairs:List (Sem Value × Sem Value)} {kvs:List (Str × Str)} (hc:CPs X pos pairs kvs) (hs:(evalEachOpt keys X.env).zip ((evalEach values X.env).map fun v => do let x ← v; standAt pos; pure x) = pairs.map fun p => (some p.1,p.2)) (h1:pairs.length = 16) (h2:kvs.length = 16) :
    PE X (.Dict keys values pos) (fun σ H Q => ∀ p,H p = none → Q (.ref p) (upd H p (.dK (mergeK [] (kvT kvs))))):=by
  intro pins s σ H Q I q
  have hn:=I.hok.fresh (Nat.le_refl s.heap.objs.size)
  have I1:=I.laid (a:=s.heap.objs.size) (o:=.dK []) (h':=s.heap.push { cls:=.type "dict",data:=.dict #[] }) (t':=s.toks) (fun _ _ q => Heap.get?_push_of_some _ q) (Nat.le_refl _) (dk_empty s.heap I.big)
  rw [arm_eval_Dict,hs,dictDisplay_pairs pairs (by intro z; rw [z] at h1; cases h1) (by omega)]
  refine wpAny_bind (wpAny_standAt (wpAny_bind ?_))
  unfold subDict
  refine wpAny_bind (wpAny_alloc ?_)
  refine wpAny_bind (wpAny_holding ?_)
  rw [if_neg (by omega)]
  refine wpAny_bind (wpAny_rule ?_)
  refine wpAny_bind (wpAny_mono (long_loop (H:=H) (a:=s.heap.objs.size) hc [] _ (fun _ s' => EP X pins σ Q (.ref s.heap.objs.size) s') I1 (by simp; omega) fun s' I' => ⟨.ref _,_,I',rfl,q _ hn⟩) (fun _ s' hq => wpAny_pure (wpAny_pure (wpAny_pure hq))) fun _ _ e => e)
theorem reps_strs {K:PySem.W.Frag} {F:Hp} {α:List Addr}:∀ ys:List (List Nat),Reps K F α (ys.map .str) (ys.map fun y => V.str ⟨y.toArray⟩)
  | [] => reps_nil
  | y :: ys => reps_cons (rep_str y) (reps_strs ys)
theorem me_dicL {keys:List (Option Expr)} {values:List Expr} (xs:List (List Nat × List Nat)) (he:CPe keys values (xs.map fun x => ((⟨x.1.toArray⟩:Str),(⟨x.2.toArray⟩:Str)))) (nd:(xs.map (·.1)).Nodup) (h2:xs.length = 16) :
    ME X EX (.Dict keys values pos) (mC (.dic (xs.map fun x => .inr x.1) (xs.map fun x => .str x.2))):=by
  obtain ⟨pairs,hc,hs,h1⟩:=he.ps (X:=X) (pos:=pos)
  rw [List.length_map] at h1
  refine ⟨_,pe_dispL hc hs (h1.trans h2) (by rw [List.length_map]; exact h2),fun Z α F H σ ρ μ Q R g => ?_⟩
  intro p hp
  have hz:Z.z p = none:=by
    cases e:Z.z p with
    | none => rfl
    | some u => rw [R.hp.zs _ _ e] at hp; cases hp
  have hkv:kvT (xs.map fun x => ((⟨x.1.toArray⟩:Str),(⟨x.2.toArray⟩:Str))) = ((xs.map fun x => (.inr x.1:DK)).map dk).zip ((xs.map (·.2)).map fun y => V.str ⟨y.toArray⟩):=by
    unfold kvT
    clear nd h2 hc g he h1
    induction xs with
    | nil => rfl
    | cons x r ih => simp only [List.map_cons,List.zip_cons_cons,ih]; rfl
  have nd1:(xs.map fun x => (.inr x.1:DK)).Nodup:=by
    have:(xs.map fun x => (.inr x.1:DK)) = (xs.map (·.1)).map Sum.inr:=by rw [List.map_map]; rfl
    rw [this]
    exact List.Pairwise.map _ (fun a b h e => h (Sum.inr.inj e)) nd
  have nd2:((((xs.map fun x => (.inr x.1:DK)).map dk).zip ((xs.map (·.2)).map fun y => V.str ⟨y.toArray⟩)).map (·.1)).Nodup:=by
    rw [List.map_fst_zip (by simp)]
    exact nodup_dk nd1
  rw [hkv,merge_new _ [] (by simpa using nd2),List.nil_append]
  obtain ⟨R2,s2⟩:=(R.hp.hold (.dK []) hp).unhold (.dK (((xs.map fun x => (.inr x.1:DK)).map dk).zip ((xs.map (·.2)).map fun y => V.str ⟨y.toArray⟩))) hz
  rw [upd_upd] at R2
  refine g _ α _ _ R2 ⟨s2,fun _ _ h => h⟩ ?_
  unfold Rep
  refine ⟨p,(xs.map (·.2)).map fun y => V.str ⟨y.toArray⟩,rfl,upd_same,by simp,?_⟩
  have:=reps_strs (K:=X.K) (F:=upd F p (.dK (((xs.map fun x => (.inr x.1:DK)).map dk).zip ((xs.map (·.2)).map fun y => V.str ⟨y.toArray⟩)))) (α:=α) (xs.map (·.2))
  rw [show (xs.map fun x => D.str x.2) = (xs.map (·.2)).map D.str by rw [List.map_map]; rfl]
  exact this
end
end M
set_option Elab.async false
set_option linter.all false
set_option maxRecDepth 100000
set_option maxHeartbeats 4000000
local macro_rules | `(tactic| walk_at "bs") => `(tactic| (rename_i us hl; first | (have e := M.len_0 hl; subst e; rfl) | (obtain ⟨_, e⟩ := M.len_1 hl; subst e; rfl) | (obtain ⟨_, _, e⟩ := M.len_2 hl; subst e; rfl) | (obtain ⟨_, _, _, e⟩ := M.len_3 hl; subst e; rfl) | (obtain ⟨_, _, _, _, e⟩ := M.len_4 hl; subst e; rfl) | (obtain ⟨_, _, _, _, _, e⟩ := M.len_5 hl; subst e; rfl)))
local macro_rules | `(tactic| walk_at "dm") => `(tactic| (refine' M.dfact ?a ?l ?c ?k; (case a => k_is); (case l => k_is); (case c => k_is); (case k => k_is)))
namespace K10
open PySem PySem.Spec PyProof.Rows L2 M
noncomputable def top (i:Nat):Stmt:=PySem.Challenge.pw_netsieve_k10_trees.main.body.getD i (.Pass ⟨0,0,0,0⟩)
noncomputable abbrev s_cell:Stmt:=top 37
noncomputable abbrev s_mix:Stmt:=top 38
noncomputable abbrev s_op:Stmt:=top 42
noncomputable abbrev s_number:Stmt:=top 46
noncomputable abbrev s_truth:Stmt:=top 47
noncomputable abbrev s_text:Stmt:=top 51
noncomputable abbrev s_sign:Stmt:=top 48
noncomputable abbrev s_told:Stmt:=top 49
noncomputable abbrev s_inner:Stmt:=top 50
noncomputable abbrev s_p_Reader__init__:Stmt:=(clsBody (top 24)).getD 0 (.Pass ⟨0,0,0,0⟩)
noncomputable abbrev s_p_end_of_figures:Stmt:=top 14
noncomputable abbrev s_p_end_of_letters:Stmt:=top 15
noncomputable abbrev s_p_end_of_word:Stmt:=top 13
noncomputable abbrev s_p_is_whole:Stmt:=top 5
noncomputable abbrev s_p_is_number:Stmt:=top 6
noncomputable abbrev s_p_number_of:Stmt:=top 17
noncomputable abbrev s_p_word_of:Stmt:=top 16
noncomputable abbrev s_p_words_of:Stmt:=top 12
noncomputable abbrev s_m_Reader_ahead:Stmt:=(clsBody (top 24)).getD 1 (.Pass ⟨0,0,0,0⟩)
noncomputable abbrev s_m_Reader_step_over:Stmt:=(clsBody (top 24)).getD 2 (.Pass ⟨0,0,0,0⟩)
noncomputable abbrev s_m_Reader_refuse:Stmt:=(clsBody (top 24)).getD 6 (.Pass ⟨0,0,0,0⟩)
noncomputable abbrev s_m_Reader_step_into:Stmt:=(clsBody (top 24)).getD 3 (.Pass ⟨0,0,0,0⟩)
noncomputable abbrev s_m_Reader_expect:Stmt:=(clsBody (top 24)).getD 4 (.Pass ⟨0,0,0,0⟩)
noncomputable abbrev s_p_read_sum:Stmt:=top 31
noncomputable abbrev s_p_read_product:Stmt:=top 32
noncomputable abbrev s_p_read_plain:Stmt:=top 33
noncomputable abbrev s_p_read_load:Stmt:=top 34
noncomputable abbrev s_p_read_bracket:Stmt:=top 35
noncomputable abbrev s_p_read_comparison:Stmt:=top 30
noncomputable abbrev s_p_read_filter:Stmt:=top 26
noncomputable abbrev s_p_read_tests:Stmt:=top 27
noncomputable abbrev s_p_read_test:Stmt:=top 28
noncomputable abbrev s_p_read_so:Stmt:=top 29
noncomputable abbrev s_m_Reader_expect_end:Stmt:=(clsBody (top 24)).getD 5 (.Pass ⟨0,0,0,0⟩)
noncomputable abbrev s_p_read:Stmt:=top 25
noncomputable abbrev s_law:Stmt:=top 52
noncomputable abbrev oC_Reader:Str → Bool:=fun c => (["Reader"]:List Str).contains c
noncomputable def w_not:List Nat:=[110,111,116]
theorem w_not_eq:(Str.ofString "not") = ⟨w_not.toArray⟩:=by decide +kernel
noncomputable def w_both:List Nat:=[98,111,116,104]
theorem w_both_eq:(Str.ofString "both") = ⟨w_both.toArray⟩:=by decide +kernel
noncomputable def w_either:List Nat:=[101,105,116,104,101,114]
theorem w_either_eq:(Str.ofString "either") = ⟨w_either.toArray⟩:=by decide +kernel
noncomputable def w_truth:List Nat:=[116,114,117,116,104]
theorem w_truth_eq:(Str.ofString "truth") = ⟨w_truth.toArray⟩:=by decide +kernel
noncomputable def w_same:List Nat:=[115,97,109,101]
theorem w_same_eq:(Str.ofString "same") = ⟨w_same.toArray⟩:=by decide +kernel
noncomputable def w_unlike:List Nat:=[117,110,108,105,107,101]
theorem w_unlike_eq:(Str.ofString "unlike") = ⟨w_unlike.toArray⟩:=by decide +kernel
noncomputable def w_below:List Nat:=[98,101,108,111,119]
theorem w_below_eq:(Str.ofString "below") = ⟨w_below.toArray⟩:=by decide +kernel
noncomputable def w_above:List Nat:=[97,98,111,118,101]
theorem w_above_eq:(Str.ofString "above") = ⟨w_above.toArray⟩:=by decide +kernel
noncomputable def w_most:List Nat:=[109,111,115,116]
theorem w_most_eq:(Str.ofString "most") = ⟨w_most.toArray⟩:=by decide +kernel
noncomputable def w_least:List Nat:=[108,101,97,115,116]
theorem w_least_eq:(Str.ofString "least") = ⟨w_least.toArray⟩:=by decide +kernel
noncomputable def w_len:List Nat:=[108,101,110]
theorem w_len_eq:(Str.ofString "len") = ⟨w_len.toArray⟩:=by decide +kernel
noncomputable def w_number:List Nat:=[110,117,109,98,101,114]
theorem w_number_eq:(Str.ofString "number") = ⟨w_number.toArray⟩:=by decide +kernel
noncomputable def w_load:List Nat:=[108,111,97,100]
theorem w_load_eq:(Str.ofString "load") = ⟨w_load.toArray⟩:=by decide +kernel
noncomputable def w_plus:List Nat:=[112,108,117,115]
theorem w_plus_eq:(Str.ofString "plus") = ⟨w_plus.toArray⟩:=by decide +kernel
noncomputable def w_minus:List Nat:=[109,105,110,117,115]
theorem w_minus_eq:(Str.ofString "minus") = ⟨w_minus.toArray⟩:=by decide +kernel
noncomputable def w_times:List Nat:=[116,105,109,101,115]
theorem w_times_eq:(Str.ofString "times") = ⟨w_times.toArray⟩:=by decide +kernel
noncomputable def w_over:List Nat:=[111,118,101,114]
theorem w_over_eq:(Str.ofString "over") = ⟨w_over.toArray⟩:=by decide +kernel
noncomputable def w_rest:List Nat:=[114,101,115,116]
theorem w_rest_eq:(Str.ofString "rest") = ⟨w_rest.toArray⟩:=by decide +kernel
noncomputable def w_and:List Nat:=[97,110,100]
theorem w_and_eq:(Str.ofString "and") = ⟨w_and.toArray⟩:=by decide +kernel
noncomputable def w_or:List Nat:=[111,114]
theorem w_or_eq:(Str.ofString "or") = ⟨w_or.toArray⟩:=by decide +kernel
noncomputable def w_xor:List Nat:=[120,111,114]
theorem w_xor_eq:(Str.ofString "xor") = ⟨w_xor.toArray⟩:=by decide +kernel
noncomputable def w_left:List Nat:=[108,101,102,116]
theorem w_left_eq:(Str.ofString "left") = ⟨w_left.toArray⟩:=by decide +kernel
noncomputable def w_right:List Nat:=[114,105,103,104,116]
theorem w_right_eq:(Str.ofString "right") = ⟨w_right.toArray⟩:=by decide +kernel
noncomputable def w_abcdefghijklmnopqrstuvwxyz:List Nat:=[97,98,99,100,101,102,103,104,105,106,107,108,109,110,111,112,113,114,115,116,117,118,119,120,121,122]
theorem w_abcdefghijklmnopqrstuvwxyz_eq:(Str.ofString "abcdefghijklmnopqrstuvwxyz") = ⟨w_abcdefghijklmnopqrstuvwxyz.toArray⟩:=by decide +kernel
noncomputable def w24:List Nat:=[32]
theorem w24_eq:(Str.ofString " ") = ⟨w24.toArray⟩:=by decide +kernel
noncomputable def w25:List Nat:=[]
theorem w25_eq:(Str.ofString "") = ⟨w25.toArray⟩:=by decide +kernel
noncomputable def w_0123456789:List Nat:=[48,49,50,51,52,53,54,55,56,57]
theorem w_0123456789_eq:(Str.ofString "0123456789") = ⟨w_0123456789.toArray⟩:=by decide +kernel
noncomputable def w_0:List Nat:=[48]
theorem w_0_eq:(Str.ofString "0") = ⟨w_0.toArray⟩:=by decide +kernel
noncomputable def w28:List Nat:=[32,32]
theorem w28_eq:(Str.ofString "  ") = ⟨w28.toArray⟩:=by decide +kernel
noncomputable def w29:List Nat:=[60,62,33,61]
theorem w29_eq:(Str.ofString "<>!=") = ⟨w29.toArray⟩:=by decide +kernel
noncomputable def w_false:List Nat:=[102,97,108,115,101]
theorem w_false_eq:(Str.ofString "false") = ⟨w_false.toArray⟩:=by decide +kernel
noncomputable def w_true:List Nat:=[116,114,117,101]
theorem w_true_eq:(Str.ofString "true") = ⟨w_true.toArray⟩:=by decide +kernel
noncomputable def w_byte:List Nat:=[98,121,116,101]
theorem w_byte_eq:(Str.ofString "byte") = ⟨w_byte.toArray⟩:=by decide +kernel
noncomputable def w_half:List Nat:=[104,97,108,102]
theorem w_half_eq:(Str.ofString "half") = ⟨w_half.toArray⟩:=by decide +kernel
noncomputable def w_word:List Nat:=[119,111,114,100]
theorem w_word_eq:(Str.ofString "word") = ⟨w_word.toArray⟩:=by decide +kernel
noncomputable def w35:List Nat:=[91]
theorem w35_eq:(Str.ofString "[") = ⟨w35.toArray⟩:=by decide +kernel
noncomputable def w36:List Nat:=[93]
theorem w36_eq:(Str.ofString "]") = ⟨w36.toArray⟩:=by decide +kernel
noncomputable def w37:List Nat:=[61]
theorem w37_eq:(Str.ofString "=") = ⟨w37.toArray⟩:=by decide +kernel
noncomputable def w38:List Nat:=[33,61]
theorem w38_eq:(Str.ofString "!=") = ⟨w38.toArray⟩:=by decide +kernel
noncomputable def w39:List Nat:=[60]
theorem w39_eq:(Str.ofString "<") = ⟨w39.toArray⟩:=by decide +kernel
noncomputable def w40:List Nat:=[62]
theorem w40_eq:(Str.ofString ">") = ⟨w40.toArray⟩:=by decide +kernel
noncomputable def w41:List Nat:=[60,61]
theorem w41_eq:(Str.ofString "<=") = ⟨w41.toArray⟩:=by decide +kernel
noncomputable def w42:List Nat:=[62,61]
theorem w42_eq:(Str.ofString ">=") = ⟨w42.toArray⟩:=by decide +kernel
noncomputable def w43:List Nat:=[43]
theorem w43_eq:(Str.ofString "+") = ⟨w43.toArray⟩:=by decide +kernel
noncomputable def w44:List Nat:=[45]
theorem w44_eq:(Str.ofString "-") = ⟨w44.toArray⟩:=by decide +kernel
noncomputable def w45:List Nat:=[42]
theorem w45_eq:(Str.ofString "*") = ⟨w45.toArray⟩:=by decide +kernel
noncomputable def w46:List Nat:=[47]
theorem w46_eq:(Str.ofString "/") = ⟨w46.toArray⟩:=by decide +kernel
noncomputable def w47:List Nat:=[38]
theorem w47_eq:(Str.ofString "&") = ⟨w47.toArray⟩:=by decide +kernel
noncomputable def w48:List Nat:=[124]
theorem w48_eq:(Str.ofString "|") = ⟨w48.toArray⟩:=by decide +kernel
noncomputable def w49:List Nat:=[94]
theorem w49_eq:(Str.ofString "^") = ⟨w49.toArray⟩:=by decide +kernel
noncomputable def w50:List Nat:=[60,60]
theorem w50_eq:(Str.ofString "<<") = ⟨w50.toArray⟩:=by decide +kernel
noncomputable def w51:List Nat:=[62,62]
theorem w51_eq:(Str.ofString ">>") = ⟨w51.toArray⟩:=by decide +kernel
noncomputable def w_so:List Nat:=[115,111]
theorem w_so_eq:(Str.ofString "so") = ⟨w_so.toArray⟩:=by decide +kernel
noncomputable def w53:List Nat:=[40]
theorem w53_eq:(Str.ofString "(") = ⟨w53.toArray⟩:=by decide +kernel
noncomputable def w54:List Nat:=[41]
theorem w54_eq:(Str.ofString ")") = ⟨w54.toArray⟩:=by decide +kernel
noncomputable def c_LONG_SIGNS:D:=(.tup [(.str w50),(.str w51),(.str w41),(.str w42),(.str w38)])
noncomputable def c_MOST_FIGURES:D:=(.int 10)
noncomputable def c_ROUND:D:=(.int 4294967296)
noncomputable def c_NAMES:D:=(.tup [(.str w_and),(.str w_or),(.str w_not),(.str w_so),(.str w_len),(.str w_byte),(.str w_half),(.str w_word),(.str w_rest),(.str w_true),(.str w_false)])
noncomputable def c_SIGNS:D:=(.tup [(.str w39),(.str w40),(.str w37),(.str w43),(.str w44),(.str w45),(.str w46),(.str w47),(.str w48),(.str w49),(.str w53),(.str w54),(.str w35),(.str w36)])
noncomputable def c_MOST_WITHIN:D:=(.int 12)
noncomputable def ks_SUM_OPS:List DK:=[.inr w43,.inr w44,.inr w48,.inr w49]
noncomputable def ds_SUM_OPS:List D:=[(.str w_plus),(.str w_minus),(.str w_or),(.str w_xor)]
noncomputable def ks_PRODUCT_OPS:List DK:=[.inr w45,.inr w46,.inr w_rest,.inr w47,.inr w50,.inr w51]
noncomputable def ds_PRODUCT_OPS:List D:=[(.str w_times),(.str w_over),(.str w_rest),(.str w_and),(.str w_left),(.str w_right)]
noncomputable def ks_LOAD_SIZES:List DK:=[.inr w_byte,.inr w_half,.inr w_word]
noncomputable def ds_LOAD_SIZES:List D:=[(.int 1),(.int 2),(.int 4)]
noncomputable def ks_COMPARISONS:List DK:=[.inr w37,.inr w38,.inr w39,.inr w40,.inr w41,.inr w42]
noncomputable def ds_COMPARISONS:List D:=[(.str w_same),(.str w_unlike),(.str w_below),(.str w_above),(.str w_most),(.str w_least)]
noncomputable def b_cell:MSt:=(mSeq (mIte (mTru (mVar 0))
    (mRet (mBin gIdx (mVar 0) (mBin gMod (mVar 1) (mCallB gLen (mCons (mVar 0) mNil)))))
    mSkip)
    (mRet (mC (.int 0))))
noncomputable def f_cell:Fn:=fnOf 0 b_cell
noncomputable def b_mix:MSt:=(mSeq (mSet 2 (mBin gMod (mBin gAdd (mCall f_cell (mCons (mVar 0) (mCons (mVar 1) mNil))) (mBin gMul (mC (.int 104729)) (mBin gAdd (mVar 1) (mC (.int 1))))) (mC (.int 4294967291))))
    (mSeq (mSet 2 (mBin gMod (mBin gMul (mVar 2) (mC (.int 48271))) (mC (.int 4294967279))))
    (mRet (mBin gMod (mBin gAdd (mBin gMul (mBin gDiv (mVar 2) (mC (.int 64))) (mC (.int 69621))) (mVar 2)) (mC (.int 4294967231))))))
noncomputable def f_mix:Fn:=fnOf 1 b_mix
noncomputable def b_op:MSt:=(mRet (mBin gIdx (mLst (mCons (mC (.str w_plus)) (mCons (mC (.str w_minus)) (mCons (mC (.str w_times)) (mCons (mC (.str w_over)) (mCons (mC (.str w_rest)) (mCons (mC (.str w_and)) (mCons (mC (.str w_or)) (mCons (mC (.str w_xor)) (mCons (mC (.str w_left)) (mCons (mC (.str w_right)) mNil))))))))))) (mBin gMod (mVar 0) (mC (.int 10)))))
noncomputable def f_op:Fn:=fnOf 0 b_op
noncomputable def b_number (R:Nat → Fn):MSt:=(mSeq (mSet 3 (mCall f_mix (mCons (mVar 0) (mCons (mVar 1) mNil))))
    (mSeq (mIte (mOr (mTest (mBin gEq (mVar 2) (mC (.int 0)))) (mTest (mBin gLt (mBin gMod (mVar 3) (mC (.int 5))) (mC (.int 2)))))
    (mSeq (mSet 4 (mBin gIdx (mLst (mCons (mC (.int 0)) (mCons (mC (.int 1)) (mCons (mC (.int 2)) (mCons (mC (.int 7)) (mCons (mC (.int 12)) (mCons (mC (.int 20)) (mCons (mC (.int 33)) (mCons (mC (.int 255)) (mCons (mC (.int 4294967295)) (mCons (mBin gMod (mVar 3) (mC (.int 4294967296))) mNil))))))))))) (mBin gMod (mBin gDiv (mVar 3) (mC (.int 5))) (mC (.int 10)))))
    (mRet (mBin gIdx (mLst (mCons (mTup (mCons (mC (.str w_len)) mNil)) (mCons (mTup (mCons (mC (.str w_number)) (mCons (mVar 4) mNil))) (mCons (mTup (mCons (mC (.str w_number)) (mCons (mVar 4) mNil))) mNil)))) (mBin gMod (mBin gDiv (mVar 3) (mC (.int 50))) (mC (.int 3))))))
    mSkip)
    (mSeq (mIte (mTest (mBin gEq (mBin gMod (mVar 3) (mC (.int 5))) (mC (.int 2))))
    (mRet (mTup (mCons (mC (.str w_load)) (mCons (mBin gIdx (mLst (mCons (mC (.int 1)) (mCons (mC (.int 2)) (mCons (mC (.int 4)) mNil)))) (mBin gMod (mBin gDiv (mVar 3) (mC (.int 5))) (mC (.int 3)))) (mCons (mCall (R 0) (mCons (mVar 0) (mCons (mBin gAdd (mBin gMul (mC (.int 3)) (mVar 1)) (mC (.int 1))) (mCons (mBin gSub (mVar 2) (mC (.int 1))) mNil)))) mNil)))))
    mSkip)
    (mSeq (mSet 5 (mCall (R 0) (mCons (mVar 0) (mCons (mBin gAdd (mBin gMul (mC (.int 3)) (mVar 1)) (mC (.int 1))) (mCons (mBin gSub (mVar 2) (mC (.int 1))) mNil)))))
    (mRet (mTup (mCons (mCall f_op (mCons (mBin gDiv (mVar 3) (mC (.int 5))) mNil)) (mCons (mVar 5) (mCons (mCall (R 0) (mCons (mVar 0) (mCons (mBin gAdd (mBin gMul (mC (.int 3)) (mVar 1)) (mC (.int 2))) (mCons (mBin gSub (mVar 2) (mC (.int 1))) mNil)))) mNil)))))))))
noncomputable def rc_number:Nat → Nat → Fn
  | 0 => fun _ _ _ => .bad
  | k + 1 => fun i => match i with
    | _ => fnOf 3 (b_number (rc_number k))
noncomputable def f_number:Fn:=rc_number 6 0
noncomputable def b_truth (R:Nat → Fn):MSt:=(mSeq (mSet 3 (mCall f_mix (mCons (mVar 0) (mCons (mVar 1) mNil))))
    (mSeq (mIte (mAnd (mTest (mBin gGt (mVar 2) (mC (.int 0)))) (mTest (mBin gLt (mBin gMod (mVar 3) (mC (.int 5))) (mC (.int 3)))))
    (mSeq (mSet 4 (mCall (R 0) (mCons (mVar 0) (mCons (mBin gAdd (mBin gMul (mC (.int 2)) (mVar 1)) (mC (.int 1))) (mCons (mBin gSub (mVar 2) (mC (.int 1))) mNil)))))
    (mSeq (mIte (mTest (mBin gEq (mBin gMod (mVar 3) (mC (.int 5))) (mC (.int 0))))
    (mRet (mTup (mCons (mC (.str w_not)) (mCons (mVar 4) mNil))))
    mSkip)
    (mRet (mTup (mCons (mBin gIdx (mLst (mCons (mC (.str w_both)) (mCons (mC (.str w_either)) mNil))) (mBin gSub (mBin gMod (mVar 3) (mC (.int 5))) (mC (.int 1)))) (mCons (mVar 4) (mCons (mCall (R 0) (mCons (mVar 0) (mCons (mBin gAdd (mBin gMul (mC (.int 2)) (mVar 1)) (mC (.int 2))) (mCons (mBin gSub (mVar 2) (mC (.int 1))) mNil)))) mNil)))))))
    mSkip)
    (mSeq (mIte (mTest (mBin gEq (mBin gMod (mBin gDiv (mVar 3) (mC (.int 5))) (mC (.int 7))) (mC (.int 0))))
    (mRet (mTup (mCons (mC (.str w_truth)) (mCons (mBin gEq (mBin gMod (mBin gDiv (mVar 3) (mC (.int 35))) (mC (.int 2))) (mC (.int 0))) mNil))))
    mSkip)
    (mSeq (mSet 5 (mBin gIdx (mLst (mCons (mC (.str w_same)) (mCons (mC (.str w_unlike)) (mCons (mC (.str w_below)) (mCons (mC (.str w_above)) (mCons (mC (.str w_most)) (mCons (mC (.str w_least)) mNil))))))) (mBin gMod (mBin gDiv (mVar 3) (mC (.int 35))) (mC (.int 6)))))
    (mRet (mTup (mCons (mVar 5) (mCons (mCall f_number (mCons (mVar 0) (mCons (mBin gAdd (mBin gMul (mC (.int 5)) (mVar 1)) (mC (.int 3))) (mCons (mC (.int 2)) mNil)))) (mCons (mCall f_number (mCons (mVar 0) (mCons (mBin gAdd (mBin gMul (mC (.int 5)) (mVar 1)) (mC (.int 4))) (mCons (mC (.int 1)) mNil)))) mNil)))))))))
noncomputable def rc_truth:Nat → Nat → Fn
  | 0 => fun _ _ _ => .bad
  | k + 1 => fun i => match i with
    | _ => fnOf 3 (b_truth (rc_truth k))
noncomputable def f_truth:Fn:=rc_truth 6 0
noncomputable def l_text_1:MSt:=(mSeq (mSet 6 (mCall f_mix (mCons (mVar 0) (mCons (mBin gAdd (mVar 1) (mVar 5)) mNil))))
    (mSeq (mSet 7 (mBin gIdx (mVar 2) (mVar 5)))
    (mSeq (mIte (mAnd (mTest (mBin gInT (mBin gIdx (mVar 7) (mC (.int 0))) (mC (.str w_0123456789)))) (mAnd (mTest (mBin gLt (mCallB gLen (mCons (mVar 7) mNil)) (mC (.int 10)))) (mTest (mBin gEq (mBin gMod (mBin gDiv (mVar 6) (mC (.int 3))) (mC (.int 4))) (mC (.int 0))))))
    (mSet 7 (mBin gAdd (mC (.str w_0)) (mVar 7)))
    mSkip)
    (mSeq (mSet 8 (mBin gIdx (mVar 7) (mNeg (mC (.int 1)))))
    (mSeq (mSet 9 (mBin gIdx (mBin gIdx (mBin gAdd (mSl (mVar 2) (mPart (mBin gAdd (mVar 5) (mC (.int 1)))) mNoP) (mLst (mCons (mC (.str w24)) mNil))) (mC (.int 0))) (mC (.int 0))))
    (mSeq (mSet 10 (mOrV (mAndV (mBin gInT (mVar 8) (mVar 3)) (mBin gInT (mVar 9) (mVar 3))) (mAndV (mBin gInT (mVar 8) (mC (.str w_0123456789))) (mBin gInT (mVar 9) (mC (.str w_0123456789))))))
    (mSet 4 (mBin gAdd (mBin gAdd (mVar 4) (mVar 7)) (mBin gIdx (mLst (mCons (mC (.str w24)) (mCons (mC (.str w28)) (mCons (mIf (mOr (mTru (mVar 10)) (mTest (mBin gInT (mVar 8) (mC (.str w29))))) (mC (.str w24)) (mC (.str w25))) mNil)))) (mBin gMod (mVar 6) (mC (.int 3))))))))))))
noncomputable def b_text:MSt:=(mSeq (mSet 3 (mC (.str w_abcdefghijklmnopqrstuvwxyz)))
    (mSeq (mSet 4 (mBin gIdx (mLst (mCons (mC (.str w24)) (mCons (mC (.str w25)) mNil))) (mBin gMod (mCall f_mix (mCons (mVar 0) (mCons (mVar 1) mNil))) (mC (.int 2)))))
    (mSeq (mFor (gN 5) (mRange1 (mCallB gLen (mCons (mVar 2) mNil))) l_text_1)
    (mRet (mVar 4)))))
noncomputable def f_text:Fn:=fnOf 8 b_text
noncomputable def b_sign:MSt:=(mSeq (mSet 1 (mC (.dic ([(w_same,w37),(w_unlike,w38),(w_below,w39),(w_above,w40),(w_most,w41),(w_least,w42),(w_plus,w43),(w_minus,w44),(w_times,w45),(w_over,w46),(w_rest,w_rest),(w_and,w47),(w_or,w48),(w_xor,w49),(w_left,w50),(w_right,w51)].map fun x => .inr x.1) ([(w_same,w37),(w_unlike,w38),(w_below,w39),(w_above,w40),(w_most,w41),(w_least,w42),(w_plus,w43),(w_minus,w44),(w_times,w45),(w_over,w46),(w_rest,w_rest),(w_and,w47),(w_or,w48),(w_xor,w49),(w_left,w50),(w_right,w51)].map fun x => .str x.2))))
    (mRet (mBin gDGet (mVar 1) (mVar 0))))
noncomputable def f_sign:Fn:=fnOf 1 b_sign
noncomputable def b_told (R:Nat → Fn):MSt:=(mSeq (mSet 1 (mBin gIdx (mVar 0) (mC (.int 0))))
    (mSeq (mIte (mTest (mBin gEq (mVar 1) (mC (.str w_number))))
    (mRet (mLst (mCons (mCallB gStrC (mCons (mBin gIdx (mVar 0) (mC (.int 1))) mNil)) mNil)))
    mSkip)
    (mSeq (mIte (mTest (mBin gEq (mVar 1) (mC (.str w_len))))
    (mRet (mLst (mCons (mC (.str w_len)) mNil)))
    mSkip)
    (mSeq (mIte (mTest (mBin gEq (mVar 1) (mC (.str w_truth))))
    (mRet (mLst (mCons (mBin gIdx (mLst (mCons (mC (.str w_false)) (mCons (mC (.str w_true)) mNil))) (mCallB gIntC (mCons (mBin gIdx (mVar 0) (mC (.int 1))) mNil))) mNil)))
    mSkip)
    (mSeq (mIte (mTest (mBin gEq (mVar 1) (mC (.str w_load))))
    (mRet (mBin gAdd (mBin gAdd (mLst (mCons (mBin gIdx (mLst (mCons (mC (.str w25)) (mCons (mC (.str w_byte)) (mCons (mC (.str w_half)) (mCons (mC (.str w25)) (mCons (mC (.str w_word)) mNil)))))) (mBin gIdx (mVar 0) (mC (.int 1)))) (mCons (mC (.str w35)) mNil))) (mCall (R 0) (mCons (mBin gIdx (mVar 0) (mC (.int 2))) mNil))) (mLst (mCons (mC (.str w36)) mNil))))
    mSkip)
    (mSeq (mIte (mTest (mBin gEq (mVar 1) (mC (.str w_not))))
    (mRet (mBin gAdd (mLst (mCons (mC (.str w_not)) mNil)) (mCall (R 1) (mCons (mBin gIdx (mVar 0) (mC (.int 1))) (mCons (mTup (mCons (mC (.str w_both)) (mCons (mC (.str w_either)) mNil))) mNil)))))
    mSkip)
    (mSeq (mIte (mTest (mBin gIn (mVar 1) (mTup (mCons (mC (.str w_both)) (mCons (mC (.str w_either)) mNil)))))
    (mSeq (mSet 2 (mIf (mTest (mBin gEq (mVar 1) (mC (.str w_both)))) (mTup (mCons (mC (.str w_either)) mNil)) (mTup mNil)))
    (mSeq (mSet 3 (mBin gIdx (mLst (mCons (mLst (mCons (mC (.str w_or)) mNil)) (mCons (mLst (mCons (mC (.str w_and)) mNil)) mNil))) (mCallB gIntC (mCons (mBin gEq (mVar 1) (mC (.str w_both))) mNil))))
    (mSeq (mSet 4 (mCall (R 1) (mCons (mBin gIdx (mVar 0) (mC (.int 2))) (mCons (mBin gAdd (mVar 2) (mTup (mCons (mVar 1) mNil))) mNil))))
    (mRet (mBin gAdd (mBin gAdd (mCall (R 1) (mCons (mBin gIdx (mVar 0) (mC (.int 1))) (mCons (mVar 2) mNil))) (mVar 3)) (mVar 4))))))
    mSkip)
    (mSeq (mSet 5 (mTup (mCons (mC (.str w_plus)) (mCons (mC (.str w_minus)) (mCons (mC (.str w_or)) (mCons (mC (.str w_xor)) mNil))))))
    (mSeq (mSet 6 (mTup (mCons (mC (.str w_times)) (mCons (mC (.str w_over)) (mCons (mC (.str w_rest)) (mCons (mC (.str w_and)) (mCons (mC (.str w_left)) (mCons (mC (.str w_right)) mNil))))))))
    (mSeq (mIte (mTest (mBin gIn (mVar 1) (mVar 6)))
    (mSeq (mSet 4 (mCall (R 1) (mCons (mBin gIdx (mVar 0) (mC (.int 2))) (mCons (mBin gAdd (mVar 5) (mVar 6)) mNil))))
    (mRet (mBin gAdd (mBin gAdd (mCall (R 1) (mCons (mBin gIdx (mVar 0) (mC (.int 1))) (mCons (mVar 5) mNil))) (mLst (mCons (mCall f_sign (mCons (mVar 1) mNil)) mNil))) (mVar 4))))
    mSkip)
    (mSeq (mIte (mTest (mBin gIn (mVar 1) (mVar 5)))
    (mRet (mBin gAdd (mBin gAdd (mCall (R 1) (mCons (mBin gIdx (mVar 0) (mC (.int 1))) (mCons (mTup mNil) mNil))) (mLst (mCons (mCall f_sign (mCons (mVar 1) mNil)) mNil))) (mCall (R 1) (mCons (mBin gIdx (mVar 0) (mC (.int 2))) (mCons (mVar 5) mNil)))))
    mSkip)
    (mRet (mBin gAdd (mBin gAdd (mCall (R 0) (mCons (mBin gIdx (mVar 0) (mC (.int 1))) mNil)) (mLst (mCons (mCall f_sign (mCons (mVar 1) mNil)) mNil))) (mCall (R 0) (mCons (mBin gIdx (mVar 0) (mC (.int 2))) mNil)))))))))))))))
noncomputable def b_inner (R:Nat → Fn):MSt:=(mSeq (mIte (mTest (mBin gNotIn (mBin gIdx (mVar 0) (mC (.int 0))) (mVar 1)))
    (mRet (mCall (R 0) (mCons (mVar 0) mNil)))
    mSkip)
    (mSeq (mIte (mTest (mBin gIn (mBin gIdx (mVar 0) (mC (.int 0))) (mTup (mCons (mC (.str w_both)) (mCons (mC (.str w_either)) mNil)))))
    (mRet (mBin gAdd (mBin gAdd (mLst (mCons (mC (.str w_so)) (mCons (mC (.str w53)) mNil))) (mCall (R 0) (mCons (mVar 0) mNil))) (mLst (mCons (mC (.str w54)) mNil))))
    mSkip)
    (mRet (mBin gAdd (mBin gAdd (mLst (mCons (mC (.str w53)) mNil)) (mCall (R 0) (mCons (mVar 0) mNil))) (mLst (mCons (mC (.str w54)) mNil))))))
noncomputable def rc_told:Nat → Nat → Fn
  | 0 => fun _ _ _ => .bad
  | k + 1 => fun i => match i with
    | 0 => fnOf 6 (b_told (rc_told k))
    | _ => fnOf 0 (b_inner (rc_told k))
noncomputable def f_told:Fn:=rc_told 30 0
noncomputable def b_p_Reader__init__:MSt:=(mSeq (mSetA oC_Reader "words" (mVar 0) (mVar 1))
    (mSetA oC_Reader "place" (mVar 0) (mC (.int 0))))
noncomputable def f_p_Reader__init__:Fn:=fnOf 0 b_p_Reader__init__
noncomputable def l_p_end_of_figures_1:MSt:=(mAug 2 (mC (.int 1)))
noncomputable def b_p_end_of_figures:MSt:=(mSeq (mSet 2 (mVar 1))
    (mSeq (mWhile 400 (mAnd (mTest (mBin gLt (mVar 2) (mCallB gLen (mCons (mVar 0) mNil)))) (mTru (mMth0 gIsdigit (mBin gIdx (mVar 0) (mVar 2))))) l_p_end_of_figures_1)
    (mRet (mVar 2))))
noncomputable def f_p_end_of_figures:Fn:=fnOf 1 b_p_end_of_figures
noncomputable def l_p_end_of_letters_1:MSt:=(mAug 2 (mC (.int 1)))
noncomputable def b_p_end_of_letters:MSt:=(mSeq (mSet 2 (mVar 1))
    (mSeq (mWhile 400 (mAnd (mTest (mBin gLt (mVar 2) (mCallB gLen (mCons (mVar 0) mNil)))) (mTru (mMth0 gIsalpha (mBin gIdx (mVar 0) (mVar 2))))) l_p_end_of_letters_1)
    (mRet (mVar 2))))
noncomputable def f_p_end_of_letters:Fn:=fnOf 1 b_p_end_of_letters
noncomputable def b_p_end_of_word:MSt:=(mSeq (mIte (mTru (mMth0 gIsdigit (mBin gIdx (mVar 0) (mVar 1))))
    (mRet (mCall f_p_end_of_figures (mCons (mVar 0) (mCons (mVar 1) mNil))))
    mSkip)
    (mSeq (mIte (mTru (mMth0 gIsalpha (mBin gIdx (mVar 0) (mVar 1))))
    (mRet (mCall f_p_end_of_letters (mCons (mVar 0) (mCons (mVar 1) mNil))))
    mSkip)
    (mSeq (mIte (mTest (mBin gIn (mSlT (mVar 0) (mPart (mVar 1)) (mPart (mBin gAdd (mVar 1) (mC (.int 2))))) (mC c_LONG_SIGNS)))
    (mRet (mBin gAdd (mVar 1) (mC (.int 2))))
    mSkip)
    (mRet (mBin gAdd (mVar 1) (mC (.int 1)))))))
noncomputable def f_p_end_of_word:Fn:=fnOf 0 b_p_end_of_word
noncomputable def b_p_is_whole:MSt:=(mRet (mAndV (mIsI .int (mVar 0)) (mNotV (mIsI .bool (mVar 0)))))
noncomputable def f_p_is_whole:Fn:=fnOf 0 b_p_is_whole
noncomputable def b_p_is_number:MSt:=(mRet (mAndV (mCall f_p_is_whole (mCons (mVar 0) mNil)) (mChain gLe gLt (mC (.int 0)) (mVar 0) (mC c_ROUND))))
noncomputable def f_p_is_number:Fn:=fnOf 0 b_p_is_number
noncomputable def b_p_number_of:MSt:=(mSeq (mIte (mTest (mBin gGt (mCallB gLen (mCons (mVar 0) mNil)) (mC c_MOST_FIGURES)))
    (mRet (mC .non))
    mSkip)
    (mSeq (mSet 1 (mCallB gIntT (mCons (mVar 0) mNil)))
    (mRet (mIf (mTru (mCall f_p_is_number (mCons (mVar 1) mNil))) (mVar 1) (mC .non)))))
noncomputable def f_p_number_of:Fn:=fnOf 1 b_p_number_of
noncomputable def b_p_word_of:MSt:=(mSeq (mIte (mTru (mMth0 gIsdigit (mBin gIdx (mVar 0) (mC (.int 0)))))
    (mRet (mCall f_p_number_of (mCons (mVar 0) mNil)))
    mSkip)
    (mSeq (mIte (mOr (mTest (mBin gIn (mVar 0) (mC c_NAMES))) (mOr (mTest (mBin gIn (mVar 0) (mC c_LONG_SIGNS))) (mTest (mBin gIn (mVar 0) (mC c_SIGNS)))))
    (mRet (mVar 0))
    mSkip)
    (mRet (mC .non))))
noncomputable def f_p_word_of:Fn:=fnOf 0 b_p_word_of
noncomputable def l_p_words_of_1:MSt:=(mSeq (mSet 3 (mCall f_p_end_of_word (mCons (mVar 0) (mCons (mVar 2) mNil))))
    (mSeq (mIte (mTest (mBin gNe (mBin gIdx (mVar 0) (mVar 2)) (mC (.str w24))))
    (mDrop (mAppend (mVar 1) (mCall f_p_word_of (mCons (mSlT (mVar 0) (mPart (mVar 2)) (mPart (mVar 3))) mNil))))
    mSkip)
    (mSet 2 (mVar 3))))
noncomputable def b_p_words_of:MSt:=(mSeq (mSet 1 (mLstC mNil))
    (mSeq (mSet 2 (mC (.int 0)))
    (mSeq (mWhile 400 (mTest (mBin gLt (mVar 2) (mCallB gLen (mCons (mVar 0) mNil)))) l_p_words_of_1)
    (mRet (mVar 1)))))
noncomputable def f_p_words_of:Fn:=fnOf 3 b_p_words_of
noncomputable def b_m_Reader_ahead:MSt:=(mRet (mIf (mTest (mBin gLt (mAttr oC_Reader "place" (mVar 0)) (mCallB gLen (mCons (mAttr oC_Reader "words" (mVar 0)) mNil)))) (mBin gIdx (mAttr oC_Reader "words" (mVar 0)) (mAttr oC_Reader "place" (mVar 0))) (mC .non)))
noncomputable def f_m_Reader_ahead:Fn:=fnOf 0 b_m_Reader_ahead
noncomputable def b_m_Reader_step_over:MSt:=(mAugA oC_Reader "place" (mVar 0) (mC (.int 1)))
noncomputable def f_m_Reader_step_over:Fn:=fnOf 0 b_m_Reader_step_over
noncomputable def b_m_Reader_refuse:MSt:=mBad
noncomputable def f_m_Reader_refuse:Fn:=fnOf 0 b_m_Reader_refuse
noncomputable def b_m_Reader_step_into:MSt:=(mSeq (mIte (mTest (mBin gGe (mVar 1) (mC c_MOST_WITHIN)))
    (mDrop (mMe "Reader" "refuse" f_m_Reader_refuse (mVar 0) mNil))
    mSkip)
    (mAugA oC_Reader "place" (mVar 0) (mC (.int 1))))
noncomputable def f_m_Reader_step_into:Fn:=fnOf 0 b_m_Reader_step_into
noncomputable def b_m_Reader_expect:MSt:=(mSeq (mIte (mTest (mBin gNe (mMe "Reader" "ahead" f_m_Reader_ahead (mVar 0) mNil) (mVar 1)))
    (mDrop (mMe "Reader" "refuse" f_m_Reader_refuse (mVar 0) mNil))
    mSkip)
    (mAugA oC_Reader "place" (mVar 0) (mC (.int 1))))
noncomputable def f_m_Reader_expect:Fn:=fnOf 0 b_m_Reader_expect
noncomputable def l_p_read_sum_1 (R:Nat → Fn):MSt:=(mSeq (mSet 3 (mBin gDGet (mC (.dic ks_SUM_OPS ds_SUM_OPS)) (mMe "Reader" "ahead" f_m_Reader_ahead (mVar 0) mNil)))
    (mSeq (mDrop (mMe "Reader" "step_over" f_m_Reader_step_over (mVar 0) mNil))
    (mSet 2 (mTup (mCons (mVar 3) (mCons (mVar 2) (mCons (mCall (R 1) (mCons (mVar 0) (mCons (mVar 1) mNil))) mNil)))))))
noncomputable def b_p_read_sum (R:Nat → Fn):MSt:=(mSeq (mSet 2 (mCall (R 1) (mCons (mVar 0) (mCons (mVar 1) mNil))))
    (mSeq (mWhile 100 (mTest (mBin (gDInN false) (mMe "Reader" "ahead" f_m_Reader_ahead (mVar 0) mNil) (mC (.dic ks_SUM_OPS ds_SUM_OPS)))) (l_p_read_sum_1 R))
    (mRet (mVar 2))))
noncomputable def l_p_read_product_1 (R:Nat → Fn):MSt:=(mSeq (mSet 3 (mBin gDGet (mC (.dic ks_PRODUCT_OPS ds_PRODUCT_OPS)) (mMe "Reader" "ahead" f_m_Reader_ahead (mVar 0) mNil)))
    (mSeq (mDrop (mMe "Reader" "step_over" f_m_Reader_step_over (mVar 0) mNil))
    (mSet 2 (mTup (mCons (mVar 3) (mCons (mVar 2) (mCons (mCall (R 2) (mCons (mVar 0) (mCons (mVar 1) mNil))) mNil)))))))
noncomputable def b_p_read_product (R:Nat → Fn):MSt:=(mSeq (mSet 2 (mCall (R 2) (mCons (mVar 0) (mCons (mVar 1) mNil))))
    (mSeq (mWhile 100 (mTest (mBin (gDInN false) (mMe "Reader" "ahead" f_m_Reader_ahead (mVar 0) mNil) (mC (.dic ks_PRODUCT_OPS ds_PRODUCT_OPS)))) (l_p_read_product_1 R))
    (mRet (mVar 2))))
noncomputable def b_p_read_plain (R:Nat → Fn):MSt:=(mSeq (mSet 2 (mMe "Reader" "ahead" f_m_Reader_ahead (mVar 0) mNil))
    (mSeq (mIte (mTest (mBin (gDInN false) (mVar 2) (mC (.dic ks_LOAD_SIZES ds_LOAD_SIZES))))
    (mRet (mCall (R 3) (mCons (mVar 0) (mCons (mVar 1) mNil))))
    mSkip)
    (mSeq (mIte (mTest (mBin gEq (mVar 2) (mC (.str w53))))
    (mRet (mCall (R 4) (mCons (mVar 0) (mCons (mVar 1) mNil))))
    mSkip)
    (mSeq (mIte (mTest (mBin gEq (mVar 2) (mC (.str w_len))))
    (mSeq (mDrop (mMe "Reader" "step_over" f_m_Reader_step_over (mVar 0) mNil))
    (mRet (mTup (mCons (mC (.str w_len)) mNil))))
    mSkip)
    (mSeq (mIte (mNot (mTru (mIsI .int (mVar 2))))
    (mDrop (mMe "Reader" "refuse" f_m_Reader_refuse (mVar 0) mNil))
    mSkip)
    (mSeq (mDrop (mMe "Reader" "step_over" f_m_Reader_step_over (mVar 0) mNil))
    (mRet (mTup (mCons (mC (.str w_number)) (mCons (mVar 2) mNil))))))))))
noncomputable def b_p_read_load (R:Nat → Fn):MSt:=(mSeq (mSet 2 (mBin gDGet (mC (.dic ks_LOAD_SIZES ds_LOAD_SIZES)) (mMe "Reader" "ahead" f_m_Reader_ahead (mVar 0) mNil)))
    (mSeq (mDrop (mMe "Reader" "step_into" f_m_Reader_step_into (mVar 0) (mCons (mVar 1) mNil)))
    (mSeq (mDrop (mMe "Reader" "expect" f_m_Reader_expect (mVar 0) (mCons (mC (.str w35)) mNil)))
    (mSeq (mSet 3 (mCall (R 0) (mCons (mVar 0) (mCons (mBin gAdd (mVar 1) (mC (.int 1))) mNil))))
    (mSeq (mDrop (mMe "Reader" "expect" f_m_Reader_expect (mVar 0) (mCons (mC (.str w36)) mNil)))
    (mRet (mTup (mCons (mC (.str w_load)) (mCons (mVar 2) (mCons (mVar 3) mNil))))))))))
noncomputable def b_p_read_bracket (R:Nat → Fn):MSt:=(mSeq (mDrop (mMe "Reader" "step_into" f_m_Reader_step_into (mVar 0) (mCons (mVar 1) mNil)))
    (mSeq (mSet 2 (mCall (R 0) (mCons (mVar 0) (mCons (mBin gAdd (mVar 1) (mC (.int 1))) mNil))))
    (mSeq (mDrop (mMe "Reader" "expect" f_m_Reader_expect (mVar 0) (mCons (mC (.str w54)) mNil)))
    (mRet (mVar 2)))))
noncomputable def rc_p_read_sum:Nat → Nat → Fn
  | 0 => fun _ _ _ => .bad
  | k + 1 => fun i => match i with
    | 0 => fnOf 2 (b_p_read_sum (rc_p_read_sum k))
    | 1 => fnOf 2 (b_p_read_product (rc_p_read_sum k))
    | 2 => fnOf 1 (b_p_read_plain (rc_p_read_sum k))
    | 3 => fnOf 2 (b_p_read_load (rc_p_read_sum k))
    | _ => fnOf 1 (b_p_read_bracket (rc_p_read_sum k))
noncomputable def f_p_read_sum:Fn:=rc_p_read_sum 64 0
noncomputable def b_p_read_comparison:MSt:=(mSeq (mSet 2 (mCall f_p_read_sum (mCons (mVar 0) (mCons (mVar 1) mNil))))
    (mSeq (mSet 3 (mMe "Reader" "ahead" f_m_Reader_ahead (mVar 0) mNil))
    (mSeq (mIte (mTest (mBin (gDInN true) (mVar 3) (mC (.dic ks_COMPARISONS ds_COMPARISONS))))
    (mDrop (mMe "Reader" "refuse" f_m_Reader_refuse (mVar 0) mNil))
    mSkip)
    (mSeq (mDrop (mMe "Reader" "step_over" f_m_Reader_step_over (mVar 0) mNil))
    (mRet (mTup (mCons (mBin gDGet (mC (.dic ks_COMPARISONS ds_COMPARISONS)) (mVar 3)) (mCons (mVar 2) (mCons (mCall f_p_read_sum (mCons (mVar 0) (mCons (mVar 1) mNil))) mNil)))))))))
noncomputable def f_p_read_comparison:Fn:=fnOf 2 b_p_read_comparison
noncomputable def l_p_read_filter_1 (R:Nat → Fn):MSt:=(mSeq (mDrop (mMe "Reader" "step_over" f_m_Reader_step_over (mVar 0) mNil))
    (mSet 2 (mTup (mCons (mC (.str w_either)) (mCons (mVar 2) (mCons (mCall (R 1) (mCons (mVar 0) (mCons (mVar 1) mNil))) mNil))))))
noncomputable def b_p_read_filter (R:Nat → Fn):MSt:=(mSeq (mSet 2 (mCall (R 1) (mCons (mVar 0) (mCons (mVar 1) mNil))))
    (mSeq (mWhile 100 (mTest (mBin gEq (mMe "Reader" "ahead" f_m_Reader_ahead (mVar 0) mNil) (mC (.str w_or)))) (l_p_read_filter_1 R))
    (mRet (mVar 2))))
noncomputable def l_p_read_tests_1 (R:Nat → Fn):MSt:=(mSeq (mDrop (mMe "Reader" "step_over" f_m_Reader_step_over (mVar 0) mNil))
    (mSet 2 (mTup (mCons (mC (.str w_both)) (mCons (mVar 2) (mCons (mCall (R 2) (mCons (mVar 0) (mCons (mVar 1) mNil))) mNil))))))
noncomputable def b_p_read_tests (R:Nat → Fn):MSt:=(mSeq (mSet 2 (mCall (R 2) (mCons (mVar 0) (mCons (mVar 1) mNil))))
    (mSeq (mWhile 100 (mTest (mBin gEq (mMe "Reader" "ahead" f_m_Reader_ahead (mVar 0) mNil) (mC (.str w_and)))) (l_p_read_tests_1 R))
    (mRet (mVar 2))))
noncomputable def b_p_read_test (R:Nat → Fn):MSt:=(mSeq (mSet 2 (mMe "Reader" "ahead" f_m_Reader_ahead (mVar 0) mNil))
    (mSeq (mIte (mOr (mTest (mBin gEq (mVar 2) (mC (.str w_true)))) (mTest (mBin gEq (mVar 2) (mC (.str w_false)))))
    (mSeq (mDrop (mMe "Reader" "step_over" f_m_Reader_step_over (mVar 0) mNil))
    (mRet (mTup (mCons (mC (.str w_truth)) (mCons (mBin gEq (mVar 2) (mC (.str w_true))) mNil)))))
    mSkip)
    (mSeq (mIte (mTest (mBin gEq (mVar 2) (mC (.str w_not))))
    (mSeq (mDrop (mMe "Reader" "step_into" f_m_Reader_step_into (mVar 0) (mCons (mVar 1) mNil)))
    (mRet (mTup (mCons (mC (.str w_not)) (mCons (mCall (R 2) (mCons (mVar 0) (mCons (mBin gAdd (mVar 1) (mC (.int 1))) mNil))) mNil)))))
    mSkip)
    (mSeq (mIte (mTest (mBin gEq (mVar 2) (mC (.str w_so))))
    (mRet (mCall (R 3) (mCons (mVar 0) (mCons (mVar 1) mNil))))
    mSkip)
    (mRet (mCall f_p_read_comparison (mCons (mVar 0) (mCons (mVar 1) mNil))))))))
noncomputable def b_p_read_so (R:Nat → Fn):MSt:=(mSeq (mDrop (mMe "Reader" "step_into" f_m_Reader_step_into (mVar 0) (mCons (mVar 1) mNil)))
    (mSeq (mDrop (mMe "Reader" "expect" f_m_Reader_expect (mVar 0) (mCons (mC (.str w53)) mNil)))
    (mSeq (mSet 2 (mCall (R 0) (mCons (mVar 0) (mCons (mBin gAdd (mVar 1) (mC (.int 1))) mNil))))
    (mSeq (mDrop (mMe "Reader" "expect" f_m_Reader_expect (mVar 0) (mCons (mC (.str w54)) mNil)))
    (mRet (mVar 2))))))
noncomputable def rc_p_read_filter:Nat → Nat → Fn
  | 0 => fun _ _ _ => .bad
  | k + 1 => fun i => match i with
    | 0 => fnOf 1 (b_p_read_filter (rc_p_read_filter k))
    | 1 => fnOf 1 (b_p_read_tests (rc_p_read_filter k))
    | 2 => fnOf 1 (b_p_read_test (rc_p_read_filter k))
    | _ => fnOf 1 (b_p_read_so (rc_p_read_filter k))
noncomputable def f_p_read_filter:Fn:=rc_p_read_filter 64 0
noncomputable def b_m_Reader_expect_end:MSt:=(mIte (mTest (mBin gLt (mAttr oC_Reader "place" (mVar 0)) (mCallB gLen (mCons (mAttr oC_Reader "words" (mVar 0)) mNil))))
    (mDrop (mMe "Reader" "refuse" f_m_Reader_refuse (mVar 0) mNil))
    mSkip)
noncomputable def f_m_Reader_expect_end:Fn:=fnOf 0 b_m_Reader_expect_end
noncomputable def b_p_read:MSt:=(mSeq (mSet 1 (mNew "Reader" f_p_Reader__init__ (mCons (mCall f_p_words_of (mCons (mVar 0) mNil)) mNil)))
    (mSeq (mSet 2 (mCall f_p_read_filter (mCons (mVar 1) (mCons (mC (.int 0)) mNil))))
    (mSeq (mDrop (mMe "Reader" "expect_end" f_m_Reader_expect_end (mVar 1) mNil))
    (mRet (mVar 2)))))
noncomputable def f_p_read:Fn:=fnOf 2 b_p_read
noncomputable def b_law:MSt:=(mSeq (mSet 1 (mCall f_truth (mCons (mVar 0) (mCons (mC (.int 0)) (mCons (mBin gAdd (mC (.int 2)) (mBin gMod (mCall f_mix (mCons (mVar 0) (mCons (mC (.int 60)) mNil))) (mC (.int 2)))) mNil)))))
    (mSeq (mSet 2 (mCall f_text (mCons (mVar 0) (mCons (mC (.int 20)) (mCons (mCall f_told (mCons (mVar 1) mNil)) mNil)))))
    (mSeq (mIte (mTest (mBin gGt (mCallB gLen (mCons (mVar 2) mNil)) (mC (.int 300))))
    (mSeq (mSet 1 (mCall f_truth (mCons (mVar 0) (mCons (mC (.int 0)) (mCons (mC (.int 0)) mNil)))))
    (mSet 2 (mCall f_text (mCons (mVar 0) (mCons (mC (.int 20)) (mCons (mCall f_told (mCons (mVar 1) mNil)) mNil))))))
    mSkip)
    (mSeq (mSet 3 (mCall f_p_read (mCons (mVar 2) mNil)))
    (mRet (mAndV (mIsI .tuple (mVar 3)) (mBin gEq (mVar 3) (mVar 1))))))))
noncomputable def f_law:Fn:=fnOf 3 b_law
structure Tx (w:World) (K:PySem.W.Frag) (mg:Str → Option Value):Prop where
  n_len:mg "len" = none
  n_range:mg "range" = none
  n_str:mg "str" = none
  n_int:mg "int" = none
  n_isinstance:mg "isinstance" = none
  n_bool:mg "bool" = none
  n_tuple:mg "tuple" = none
  c_LONG_SIGNS:ConstAt K mg "LONG_SIGNS" c_LONG_SIGNS
  c_MOST_FIGURES:ConstAt K mg "MOST_FIGURES" c_MOST_FIGURES
  c_ROUND:ConstAt K mg "ROUND" c_ROUND
  c_NAMES:ConstAt K mg "NAMES" c_NAMES
  c_SIGNS:ConstAt K mg "SIGNS" c_SIGNS
  c_MOST_WITHIN:ConstAt K mg "MOST_WITHIN" c_MOST_WITHIN
  c_SUM_OPS:DictAt w K mg "SUM_OPS" ks_SUM_OPS ds_SUM_OPS
  c_PRODUCT_OPS:DictAt w K mg "PRODUCT_OPS" ks_PRODUCT_OPS ds_PRODUCT_OPS
  c_LOAD_SIZES:DictAt w K mg "LOAD_SIZES" ks_LOAD_SIZES ds_LOAD_SIZES
  c_COMPARISONS:DictAt w K mg "COMPARISONS" ks_COMPARISONS ds_COMPARISONS
  m_Reader:ClsAt K mg "Reader"
  o_Reader:Cls K (cA K "Reader")
  na_Reader_words:NoAttr K (cA K "Reader") "words"
  na_Reader_place:NoAttr K (cA K "Reader") "place"
  d_p_Reader__init__:MkD K mg "Reader" "Reader.__init__" s_p_Reader__init__ ["self","words"]
  d_m_Reader_ahead:MtD K "Reader" "ahead" "Reader.ahead" s_m_Reader_ahead ["self"]
  d_m_Reader_step_over:MtD K "Reader" "step_over" "Reader.step_over" s_m_Reader_step_over ["self"]
  d_m_Reader_refuse:MtD K "Reader" "refuse" "Reader.refuse" s_m_Reader_refuse ["self"]
  d_m_Reader_step_into:MtD K "Reader" "step_into" "Reader.step_into" s_m_Reader_step_into ["self","within"]
  d_m_Reader_expect:MtD K "Reader" "expect" "Reader.expect" s_m_Reader_expect ["self","word"]
  d_m_Reader_expect_end:MtD K "Reader" "expect_end" "Reader.expect_end" s_m_Reader_expect_end ["self"]
  d_cell:DefAt K mg "_law_cell" s_cell ["_law_script","_law_k_here"]
  d_mix:DefAt K mg "_law_mix" s_mix ["_law_script","_law_k_here"]
  d_op:DefAt K mg "_law_op" s_op ["_law_number_here"]
  d_number:DefAt K mg "_law_number" s_number ["_law_script","_law_base","_law_deep"]
  d_truth:DefAt K mg "_law_truth" s_truth ["_law_script","_law_base","_law_deep"]
  d_text:DefAt K mg "_law_text" s_text ["_law_script","_law_base","_law_words"]
  d_sign:DefAt K mg "_law_sign" s_sign ["_law_word"]
  d_told:DefAt K mg "_law_told" s_told ["_law_tree"]
  d_inner:DefAt K mg "_law_inner" s_inner ["_law_tree","_law_kinds"]
  d_p_end_of_figures:DefAt K mg "end_of_figures" s_p_end_of_figures ["text","place"]
  d_p_end_of_letters:DefAt K mg "end_of_letters" s_p_end_of_letters ["text","place"]
  d_p_end_of_word:DefAt K mg "end_of_word" s_p_end_of_word ["text","place"]
  d_p_is_whole:DefAt K mg "is_whole" s_p_is_whole ["thing"]
  d_p_is_number:DefAt K mg "is_number" s_p_is_number ["thing"]
  d_p_number_of:DefAt K mg "number_of" s_p_number_of ["figures"]
  d_p_word_of:DefAt K mg "word_of" s_p_word_of ["piece"]
  d_p_words_of:DefAt K mg "words_of" s_p_words_of ["text"]
  d_p_read_sum:DefAt K mg "read_sum" s_p_read_sum ["reader","within"]
  d_p_read_product:DefAt K mg "read_product" s_p_read_product ["reader","within"]
  d_p_read_plain:DefAt K mg "read_plain" s_p_read_plain ["reader","within"]
  d_p_read_load:DefAt K mg "read_load" s_p_read_load ["reader","within"]
  d_p_read_bracket:DefAt K mg "read_bracket" s_p_read_bracket ["reader","within"]
  d_p_read_comparison:DefAt K mg "read_comparison" s_p_read_comparison ["reader","within"]
  d_p_read_filter:DefAt K mg "read_filter" s_p_read_filter ["reader","within"]
  d_p_read_tests:DefAt K mg "read_tests" s_p_read_tests ["reader","within"]
  d_p_read_test:DefAt K mg "read_test" s_p_read_test ["reader","within"]
  d_p_read_so:DefAt K mg "read_so" s_p_read_so ["reader","within"]
  d_p_read:DefAt K mg "read" s_p_read ["text"]
  d_law:DefAt K mg "law" s_law ["_law_script"]
section
variable {P:Program} {w:World} {K:PySem.W.Frag} {mg:Str → Option Value} {base:Heap}
theorem ok_cell (T:Tx w K mg):FnAt P w K mg base "_law_cell" 1 2 f_cell:=fnC T.d_cell ["_law_script","_law_k_here"] ["len"] ⟨rfl,rfl,rfl,by decide +kernel,rfl,by decide +kernel,by decide +kernel⟩ (by decide +kernel) (by decide +kernel) rfl rfl fun _ _ _ _ _ _ _ hr C => (mss_cons (ms_if (mt_truth (sv C 0 rfl) (fun _ => rfl))
    (mss_one (ms_ret (me_idx (sv C 0 rfl) (me_bin om_mod (sv C 1 rfl) (me_callB cm_len (C.g 0 rfl) T.n_len PySem.boot_len (ma_cons (sv C 0 rfl) ma_nil rfl))) (fun _ _ => rfl))))
    mss_nil)
    (mss_one (ms_ret me_int)))
theorem ok_mix (T:Tx w K mg):FnAt P w K mg base "_law_mix" 2 2 f_mix:=fnC T.d_mix ["_law_script","_law_k_here","_law_number_here"] ["_law_cell"] ⟨rfl,rfl,rfl,by decide +kernel,rfl,by decide +kernel,by decide +kernel⟩ (by decide +kernel) (by decide +kernel) rfl rfl fun _ _ _ _ _ _ _ hr C => (mss_cons (sa C 2 rfl (me_bin om_mod (me_bin om_add (me_fn (ok_cell T) (hr.mono (by decide)) (C.g 0 rfl) (ma_cons (sv C 0 rfl) (ma_cons (sv C 1 rfl) ma_nil rfl) rfl) rfl) (me_bin om_mul me_int (me_bin om_add (sv C 1 rfl) me_int))) me_int))
    (mss_cons (sa C 2 rfl (me_bin om_mod (me_bin om_mul (sv C 2 rfl) me_int) me_int))
    (mss_one (ms_ret (me_bin om_mod (me_bin om_add (me_bin om_mul (me_bin om_div (sv C 2 rfl) me_int) me_int) (sv C 2 rfl)) me_int)))))
theorem ok_op (T:Tx w K mg):FnAt P w K mg base "_law_op" 1 1 f_op:=fnC T.d_op ["_law_number_here"] [] ⟨rfl,rfl,rfl,by decide +kernel,rfl,by decide +kernel,by decide +kernel⟩ (by decide +kernel) (by decide +kernel) rfl rfl fun _ _ _ _ _ _ _ hr C => (mss_one (ms_ret (me_idx (me_lst (ma_cons (me_str w_plus_eq) (ma_cons (me_str w_minus_eq) (ma_cons (me_str w_times_eq) (ma_cons (me_str w_over_eq) (ma_cons (me_str w_rest_eq) (ma_cons (me_str w_and_eq) (ma_cons (me_str w_or_eq) (ma_cons (me_str w_xor_eq) (ma_cons (me_str w_left_eq) (ma_cons (me_str w_right_eq) ma_nil rfl) rfl) rfl) rfl) rfl) rfl) rfl) rfl) rfl) rfl)) (me_bin om_mod (sv C 0 rfl) me_int) (fun _ _ => rfl))))
theorem okg_number (T:Tx w K mg):∀ k,FnAt P w K mg base "_law_number" (3 + k) 3 (rc_number k 0):=by
  intro k
  induction k with
  | zero => exact fnAt_bad T.d_number rfl
  | succ k ih =>
    have ih0:=ih
    refine ?_
    · show FnAt P w K mg base "_law_number" (3 + k + 1) 3 (fnOf 3 (b_number (rc_number k)))
      exact fnC T.d_number ["_law_script","_law_base","_law_deep","_law_number_here","_law_k_here","_law_one"] ["_law_mix","_law_number","_law_op"] ⟨rfl,rfl,rfl,by decide +kernel,rfl,by decide +kernel,by decide +kernel⟩ (by decide +kernel) (by decide +kernel) rfl rfl fun _ _ _ _ _ _ _ hr C => (mss_cons (sa C 3 rfl (me_fn (ok_mix T) (hr.mono (by omega)) (C.g 0 rfl) (ma_cons (sv C 0 rfl) (ma_cons (sv C 1 rfl) ma_nil rfl) rfl) rfl))
    (mss_cons (ms_if (mw_or (mt_cmp (om_eq C.un) (sv C 2 rfl) me_int (nomark _)) (mw_or1 (mt_cmp om_lt (me_bin om_mod (sv C 3 rfl) me_int) me_int (nomark _)))).t
    (mss_cons (sa C 4 rfl (me_idx (me_lst (ma_cons me_int (ma_cons me_int (ma_cons me_int (ma_cons me_int (ma_cons me_int (ma_cons me_int (ma_cons me_int (ma_cons me_int (ma_cons me_int (ma_cons (me_bin om_mod (sv C 3 rfl) me_int) ma_nil rfl) rfl) rfl) rfl) rfl) rfl) rfl) rfl) rfl) rfl)) (me_bin om_mod (me_bin om_div (sv C 3 rfl) me_int) me_int) (fun _ _ => rfl)))
    (mss_one (ms_ret (me_idx (me_lst (ma_cons (me_tup (ma_cons (me_str w_len_eq) ma_nil rfl)) (ma_cons (me_tup (ma_cons (me_str w_number_eq) (ma_cons (sv C 4 rfl) ma_nil rfl) rfl)) (ma_cons (me_tup (ma_cons (me_str w_number_eq) (ma_cons (sv C 4 rfl) ma_nil rfl) rfl)) ma_nil rfl) rfl) rfl)) (me_bin om_mod (me_bin om_div (sv C 3 rfl) me_int) me_int) (fun _ _ => rfl)))))
    mss_nil)
    (mss_cons (ms_if (mt_cmp (om_eq C.un) (me_bin om_mod (sv C 3 rfl) me_int) me_int (nomark _))
    (mss_one (ms_ret (me_tup (ma_cons (me_str w_load_eq) (ma_cons (me_idx (me_lst (ma_cons me_int (ma_cons me_int (ma_cons me_int ma_nil rfl) rfl) rfl)) (me_bin om_mod (me_bin om_div (sv C 3 rfl) me_int) me_int) (fun _ _ => rfl)) (ma_cons (me_fn ih0 (hr.mono (by omega)) (C.g 1 rfl) (ma_cons (sv C 0 rfl) (ma_cons (me_bin om_add (me_bin om_mul me_int (sv C 1 rfl)) me_int) (ma_cons (me_bin om_sub (sv C 2 rfl) me_int) ma_nil rfl) rfl) rfl) rfl) ma_nil rfl) rfl) rfl))))
    mss_nil)
    (mss_cons (sa C 5 rfl (me_fn ih0 (hr.mono (by omega)) (C.g 1 rfl) (ma_cons (sv C 0 rfl) (ma_cons (me_bin om_add (me_bin om_mul me_int (sv C 1 rfl)) me_int) (ma_cons (me_bin om_sub (sv C 2 rfl) me_int) ma_nil rfl) rfl) rfl) rfl))
    (mss_one (ms_ret (me_tup (ma_cons (me_fn (ok_op T) (hr.mono (by omega)) (C.g 2 rfl) (ma_cons (me_bin om_div (sv C 3 rfl) me_int) ma_nil rfl) rfl) (ma_cons (sv C 5 rfl) (ma_cons (me_fn ih0 (hr.mono (by omega)) (C.g 1 rfl) (ma_cons (sv C 0 rfl) (ma_cons (me_bin om_add (me_bin om_mul me_int (sv C 1 rfl)) me_int) (ma_cons (me_bin om_sub (sv C 2 rfl) me_int) ma_nil rfl) rfl) rfl) rfl) ma_nil rfl) rfl) rfl))))))))
theorem ok_number (T:Tx w K mg):FnAt P w K mg base "_law_number" 9 3 f_number:=(okg_number T 6)
theorem okg_truth (T:Tx w K mg):∀ k,FnAt P w K mg base "_law_truth" (10 + k) 3 (rc_truth k 0):=by
  intro k
  induction k with
  | zero => exact fnAt_bad T.d_truth rfl
  | succ k ih =>
    have ih0:=ih
    refine ?_
    · show FnAt P w K mg base "_law_truth" (10 + k + 1) 3 (fnOf 3 (b_truth (rc_truth k)))
      exact fnC T.d_truth ["_law_script","_law_base","_law_deep","_law_number_here","_law_one","_law_test"] ["_law_mix","_law_truth","_law_number"] ⟨rfl,rfl,rfl,by decide +kernel,rfl,by decide +kernel,by decide +kernel⟩ (by decide +kernel) (by decide +kernel) rfl rfl fun _ _ _ _ _ _ _ hr C => (mss_cons (sa C 3 rfl (me_fn (ok_mix T) (hr.mono (by omega)) (C.g 0 rfl) (ma_cons (sv C 0 rfl) (ma_cons (sv C 1 rfl) ma_nil rfl) rfl) rfl))
    (mss_cons (ms_if (mw_and (mt_cmp om_gt (sv C 2 rfl) me_int (nomark _)) (mw_and1 (mt_cmp om_lt (me_bin om_mod (sv C 3 rfl) me_int) me_int (nomark _)))).t
    (mss_cons (sa C 4 rfl (me_fn ih0 (hr.mono (by omega)) (C.g 1 rfl) (ma_cons (sv C 0 rfl) (ma_cons (me_bin om_add (me_bin om_mul me_int (sv C 1 rfl)) me_int) (ma_cons (me_bin om_sub (sv C 2 rfl) me_int) ma_nil rfl) rfl) rfl) rfl))
    (mss_cons (ms_if (mt_cmp (om_eq C.un) (me_bin om_mod (sv C 3 rfl) me_int) me_int (nomark _))
    (mss_one (ms_ret (me_tup (ma_cons (me_str w_not_eq) (ma_cons (sv C 4 rfl) ma_nil rfl) rfl))))
    mss_nil)
    (mss_one (ms_ret (me_tup (ma_cons (me_idx (me_lst (ma_cons (me_str w_both_eq) (ma_cons (me_str w_either_eq) ma_nil rfl) rfl)) (me_bin om_sub (me_bin om_mod (sv C 3 rfl) me_int) me_int) (fun _ _ => rfl)) (ma_cons (sv C 4 rfl) (ma_cons (me_fn ih0 (hr.mono (by omega)) (C.g 1 rfl) (ma_cons (sv C 0 rfl) (ma_cons (me_bin om_add (me_bin om_mul me_int (sv C 1 rfl)) me_int) (ma_cons (me_bin om_sub (sv C 2 rfl) me_int) ma_nil rfl) rfl) rfl) rfl) ma_nil rfl) rfl) rfl))))))
    mss_nil)
    (mss_cons (ms_if (mt_cmp (om_eq C.un) (me_bin om_mod (me_bin om_div (sv C 3 rfl) me_int) me_int) me_int (nomark _))
    (mss_one (ms_ret (me_tup (ma_cons (me_str w_truth_eq) (ma_cons (me_cmp (om_eq C.un) (me_bin om_mod (me_bin om_div (sv C 3 rfl) me_int) me_int) me_int (nomark _)) ma_nil rfl) rfl))))
    mss_nil)
    (mss_cons (sa C 5 rfl (me_idx (me_lst (ma_cons (me_str w_same_eq) (ma_cons (me_str w_unlike_eq) (ma_cons (me_str w_below_eq) (ma_cons (me_str w_above_eq) (ma_cons (me_str w_most_eq) (ma_cons (me_str w_least_eq) ma_nil rfl) rfl) rfl) rfl) rfl) rfl)) (me_bin om_mod (me_bin om_div (sv C 3 rfl) me_int) me_int) (fun _ _ => rfl)))
    (mss_one (ms_ret (me_tup (ma_cons (sv C 5 rfl) (ma_cons (me_fn (ok_number T) (hr.mono (by omega)) (C.g 2 rfl) (ma_cons (sv C 0 rfl) (ma_cons (me_bin om_add (me_bin om_mul me_int (sv C 1 rfl)) me_int) (ma_cons me_int ma_nil rfl) rfl) rfl) rfl) (ma_cons (me_fn (ok_number T) (hr.mono (by omega)) (C.g 2 rfl) (ma_cons (sv C 0 rfl) (ma_cons (me_bin om_add (me_bin om_mul me_int (sv C 1 rfl)) me_int) (ma_cons me_int ma_nil rfl) rfl) rfl) rfl) ma_nil rfl) rfl) rfl))))))))
theorem ok_truth (T:Tx w K mg):FnAt P w K mg base "_law_truth" 16 3 f_truth:=(okg_truth T 6)
theorem ok_text (T:Tx w K mg):FnAt P w K mg base "_law_text" 3 3 f_text:=fnC T.d_text ["_law_script","_law_base","_law_words","_law_letters","_law_found","_law_k_here","_law_number_here","_law_word","_law_last","_law_after","_law_runs"] ["_law_mix","len","range"] ⟨rfl,rfl,rfl,by decide +kernel,rfl,by decide +kernel,by decide +kernel⟩ (by decide +kernel) (by decide +kernel) rfl rfl fun _ _ _ _ _ _ _ hr C => (mss_cons (sa C 3 rfl (me_str w_abcdefghijklmnopqrstuvwxyz_eq))
    (mss_cons (sa C 4 rfl (me_idx (me_lst (ma_cons (me_str w24_eq) (ma_cons (me_str w25_eq) ma_nil rfl) rfl)) (me_bin om_mod (me_fn (ok_mix T) (hr.mono (by decide)) (C.g 0 rfl) (ma_cons (sv C 0 rfl) (ma_cons (sv C 1 rfl) ma_nil rfl) rfl) rfl) me_int) (fun _ _ => rfl)))
    (mss_cons (ms_for PassesOwn.never C.calm (mi_range1 (C.g 2 rfl) T.n_range (me_callB cm_len (C.g 1 rfl) T.n_len PySem.boot_len (ma_cons (sv C 2 rfl) ma_nil rfl))) (st C 5 rfl)
    (mss_cons (sa C 6 rfl (me_fn (ok_mix T) (hr.mono (by decide)) (C.g 0 rfl) (ma_cons (sv C 0 rfl) (ma_cons (me_bin om_add (sv C 1 rfl) (sv C 5 rfl)) ma_nil rfl) rfl) rfl))
    (mss_cons (sa C 7 rfl (me_idx (sv C 2 rfl) (sv C 5 rfl) (fun _ _ => rfl)))
    (mss_cons (ms_if (mw_and (mt_cmp om_inT (me_idx (sv C 7 rfl) me_int (fun _ _ => rfl)) (me_str w_0123456789_eq) rfl) (mw_and (mt_cmp om_lt (me_callB cm_len (C.g 1 rfl) T.n_len PySem.boot_len (ma_cons (sv C 7 rfl) ma_nil rfl)) me_int (nomark _)) (mw_and1 (mt_cmp (om_eq C.un) (me_bin om_mod (me_bin om_div (sv C 6 rfl) me_int) me_int) me_int (nomark _))))).t
    (mss_one (sa C 7 rfl (me_bin om_add (me_str w_0_eq) (sv C 7 rfl))))
    mss_nil)
    (mss_cons (sa C 8 rfl (me_idx (sv C 7 rfl) (me_neg me_int) (fun _ _ => rfl)))
    (mss_cons (sa C 9 rfl (me_idx (me_idx (me_bin om_add (me_slice (sv C 2 rfl) (mp_some (me_bin om_add (sv C 5 rfl) me_int)) mp_none) (me_lst (ma_cons (me_str w24_eq) ma_nil rfl))) me_int (fun _ _ => rfl)) me_int (fun _ _ => rfl)))
    (mss_cons (sa C 10 rfl (me_or (me_and (me_cmp om_inT (sv C 8 rfl) (sv C 3 rfl) rfl) (me_one (me_cmp om_inT (sv C 9 rfl) (sv C 3 rfl) rfl))) (me_one (me_and (me_cmp om_inT (sv C 8 rfl) (me_str w_0123456789_eq) rfl) (me_one (me_cmp om_inT (sv C 9 rfl) (me_str w_0123456789_eq) rfl))))))
    (mss_one (sa C 4 rfl (me_bin om_add (me_bin om_add (sv C 4 rfl) (sv C 7 rfl)) (me_idx (me_lst (ma_cons (me_str w24_eq) (ma_cons (me_str w28_eq) (ma_cons (me_if (mw_or (mt_truth (sv C 10 rfl) (fun _ => rfl)) (mw_or1 (mt_cmp om_inT (sv C 8 rfl) (me_str w29_eq) rfl))).t (me_str w24_eq) (me_str w25_eq)) ma_nil rfl) rfl) rfl)) (me_bin om_mod (sv C 6 rfl) me_int) (fun _ _ => rfl))))))))))))
    (mss_one (ms_ret (sv C 4 rfl))))))
theorem ok_sign (T:Tx w K mg):FnAt P w K mg base "_law_sign" 1 1 f_sign:=fnC T.d_sign ["_law_word","_law_signs"] [] ⟨rfl,rfl,rfl,by decide +kernel,rfl,by decide +kernel,by decide +kernel⟩ (by decide +kernel) (by decide +kernel) rfl rfl fun _ _ _ _ _ _ _ hr C => (mss_cons (sa C 1 rfl (me_dicL [(w_same,w37),(w_unlike,w38),(w_below,w39),(w_above,w40),(w_most,w41),(w_least,w42),(w_plus,w43),(w_minus,w44),(w_times,w45),(w_over,w46),(w_rest,w_rest),(w_and,w47),(w_or,w48),(w_xor,w49),(w_left,w50),(w_right,w51)] (.cons w_same_eq w37_eq (.cons w_unlike_eq w38_eq (.cons w_below_eq w39_eq (.cons w_above_eq w40_eq (.cons w_most_eq w41_eq (.cons w_least_eq w42_eq (.cons w_plus_eq w43_eq (.cons w_minus_eq w44_eq (.cons w_times_eq w45_eq (.cons w_over_eq w46_eq (.cons w_rest_eq w_rest_eq (.cons w_and_eq w47_eq (.cons w_or_eq w48_eq (.cons w_xor_eq w49_eq (.cons w_left_eq w50_eq (.cons w_right_eq w51_eq .nil)))))))))))))))) (by decide) rfl))
    (mss_one (ms_ret (me_dget C.un (sv C 1 rfl) (sv C 0 rfl) (fun _ _ => rfl)))))
theorem okg_told (T:Tx w K mg):∀ k,FnAt P w K mg base "_law_told" (2 + k) 1 (rc_told k 0) ∧ FnAt P w K mg base "_law_inner" (2 + k) 2 (rc_told k 1):=by
  intro k
  induction k with
  | zero => exact ⟨fnAt_bad T.d_told rfl,fnAt_bad T.d_inner rfl⟩
  | succ k ih =>
    obtain ⟨ih0,ih1⟩:=ih
    refine ⟨?_,?_⟩
    · show FnAt P w K mg base "_law_told" (2 + k + 1) 1 (fnOf 6 (b_told (rc_told k)))
      exact fnC T.d_told ["_law_tree","_law_kind","_law_kinds","_law_words","_law_behind","_law_loose","_law_tight"] ["str","int","_law_told","_law_inner","_law_sign"] ⟨rfl,rfl,rfl,by decide +kernel,rfl,by decide +kernel,by decide +kernel⟩ (by decide +kernel) (by decide +kernel) rfl rfl fun _ _ _ _ _ _ _ hr C => (mss_cons (sa C 1 rfl (me_idx (sv C 0 rfl) me_int (fun _ _ => rfl)))
    (mss_cons (ms_if (mt_cmp (om_eq C.un) (sv C 1 rfl) (me_str w_number_eq) (nomark _))
    (mss_one (ms_ret (me_lst (ma_cons (me_callTy cm_str (C.g 0 rfl) T.n_str M.boot_str (ma_cons (me_idx (sv C 0 rfl) me_int (fun _ _ => rfl)) ma_nil rfl)) ma_nil rfl))))
    mss_nil)
    (mss_cons (ms_if (mt_cmp (om_eq C.un) (sv C 1 rfl) (me_str w_len_eq) (nomark _))
    (mss_one (ms_ret (me_lst (ma_cons (me_str w_len_eq) ma_nil rfl))))
    mss_nil)
    (mss_cons (ms_if (mt_cmp (om_eq C.un) (sv C 1 rfl) (me_str w_truth_eq) (nomark _))
    (mss_one (ms_ret (me_lst (ma_cons (me_idx (me_lst (ma_cons (me_str w_false_eq) (ma_cons (me_str w_true_eq) ma_nil rfl) rfl)) (me_callTy cm_int (C.g 1 rfl) T.n_int PyProof.Rows.boot_int (ma_cons (me_idx (sv C 0 rfl) me_int (fun _ _ => rfl)) ma_nil rfl)) (fun _ _ => rfl)) ma_nil rfl))))
    mss_nil)
    (mss_cons (ms_if (mt_cmp (om_eq C.un) (sv C 1 rfl) (me_str w_load_eq) (nomark _))
    (mss_one (ms_ret (me_bin om_add (me_bin om_add (me_lst (ma_cons (me_idx (me_lst (ma_cons (me_str w25_eq) (ma_cons (me_str w_byte_eq) (ma_cons (me_str w_half_eq) (ma_cons (me_str w25_eq) (ma_cons (me_str w_word_eq) ma_nil rfl) rfl) rfl) rfl) rfl)) (me_idx (sv C 0 rfl) me_int (fun _ _ => rfl)) (fun _ _ => rfl)) (ma_cons (me_str w35_eq) ma_nil rfl) rfl)) (me_fn ih0 (hr.mono (by omega)) (C.g 2 rfl) (ma_cons (me_idx (sv C 0 rfl) me_int (fun _ _ => rfl)) ma_nil rfl) rfl)) (me_lst (ma_cons (me_str w36_eq) ma_nil rfl)))))
    mss_nil)
    (mss_cons (ms_if (mt_cmp (om_eq C.un) (sv C 1 rfl) (me_str w_not_eq) (nomark _))
    (mss_one (ms_ret (me_bin om_add (me_lst (ma_cons (me_str w_not_eq) ma_nil rfl)) (me_fn ih1 (hr.mono (by omega)) (C.g 3 rfl) (ma_cons (me_idx (sv C 0 rfl) me_int (fun _ _ => rfl)) (ma_cons (me_tup (ma_cons (me_str w_both_eq) (ma_cons (me_str w_either_eq) ma_nil rfl) rfl)) ma_nil rfl) rfl) rfl))))
    mss_nil)
    (mss_cons (ms_if (mt_cmp (om_in C.un) (sv C 1 rfl) (me_tup (ma_cons (me_str w_both_eq) (ma_cons (me_str w_either_eq) ma_nil rfl) rfl)) rfl)
    (mss_cons (sa C 2 rfl (me_if (mt_cmp (om_eq C.un) (sv C 1 rfl) (me_str w_both_eq) (nomark _)) (me_tup (ma_cons (me_str w_either_eq) ma_nil rfl)) (me_tup ma_nil)))
    (mss_cons (sa C 3 rfl (me_idx (me_lst (ma_cons (me_lst (ma_cons (me_str w_or_eq) ma_nil rfl)) (ma_cons (me_lst (ma_cons (me_str w_and_eq) ma_nil rfl)) ma_nil rfl) rfl)) (me_callTy cm_int (C.g 1 rfl) T.n_int PyProof.Rows.boot_int (ma_cons (me_cmp (om_eq C.un) (sv C 1 rfl) (me_str w_both_eq) (nomark _)) ma_nil rfl)) (fun _ _ => rfl)))
    (mss_cons (sa C 4 rfl (me_fn ih1 (hr.mono (by omega)) (C.g 3 rfl) (ma_cons (me_idx (sv C 0 rfl) me_int (fun _ _ => rfl)) (ma_cons (me_bin om_add (sv C 2 rfl) (me_tup (ma_cons (sv C 1 rfl) ma_nil rfl))) ma_nil rfl) rfl) rfl))
    (mss_one (ms_ret (me_bin om_add (me_bin om_add (me_fn ih1 (hr.mono (by omega)) (C.g 3 rfl) (ma_cons (me_idx (sv C 0 rfl) me_int (fun _ _ => rfl)) (ma_cons (sv C 2 rfl) ma_nil rfl) rfl) rfl) (sv C 3 rfl)) (sv C 4 rfl)))))))
    mss_nil)
    (mss_cons (sa C 5 rfl (me_tup (ma_cons (me_str w_plus_eq) (ma_cons (me_str w_minus_eq) (ma_cons (me_str w_or_eq) (ma_cons (me_str w_xor_eq) ma_nil rfl) rfl) rfl) rfl)))
    (mss_cons (sa C 6 rfl (me_tup (ma_cons (me_str w_times_eq) (ma_cons (me_str w_over_eq) (ma_cons (me_str w_rest_eq) (ma_cons (me_str w_and_eq) (ma_cons (me_str w_left_eq) (ma_cons (me_str w_right_eq) ma_nil rfl) rfl) rfl) rfl) rfl) rfl)))
    (mss_cons (ms_if (mt_cmp (om_in C.un) (sv C 1 rfl) (sv C 6 rfl) rfl)
    (mss_cons (sa C 4 rfl (me_fn ih1 (hr.mono (by omega)) (C.g 3 rfl) (ma_cons (me_idx (sv C 0 rfl) me_int (fun _ _ => rfl)) (ma_cons (me_bin om_add (sv C 5 rfl) (sv C 6 rfl)) ma_nil rfl) rfl) rfl))
    (mss_one (ms_ret (me_bin om_add (me_bin om_add (me_fn ih1 (hr.mono (by omega)) (C.g 3 rfl) (ma_cons (me_idx (sv C 0 rfl) me_int (fun _ _ => rfl)) (ma_cons (sv C 5 rfl) ma_nil rfl) rfl) rfl) (me_lst (ma_cons (me_fn (ok_sign T) (hr.mono (by omega)) (C.g 4 rfl) (ma_cons (sv C 1 rfl) ma_nil rfl) rfl) ma_nil rfl))) (sv C 4 rfl)))))
    mss_nil)
    (mss_cons (ms_if (mt_cmp (om_in C.un) (sv C 1 rfl) (sv C 5 rfl) rfl)
    (mss_one (ms_ret (me_bin om_add (me_bin om_add (me_fn ih1 (hr.mono (by omega)) (C.g 3 rfl) (ma_cons (me_idx (sv C 0 rfl) me_int (fun _ _ => rfl)) (ma_cons (me_tup ma_nil) ma_nil rfl) rfl) rfl) (me_lst (ma_cons (me_fn (ok_sign T) (hr.mono (by omega)) (C.g 4 rfl) (ma_cons (sv C 1 rfl) ma_nil rfl) rfl) ma_nil rfl))) (me_fn ih1 (hr.mono (by omega)) (C.g 3 rfl) (ma_cons (me_idx (sv C 0 rfl) me_int (fun _ _ => rfl)) (ma_cons (sv C 5 rfl) ma_nil rfl) rfl) rfl))))
    mss_nil)
    (mss_one (ms_ret (me_bin om_add (me_bin om_add (me_fn ih0 (hr.mono (by omega)) (C.g 2 rfl) (ma_cons (me_idx (sv C 0 rfl) me_int (fun _ _ => rfl)) ma_nil rfl) rfl) (me_lst (ma_cons (me_fn (ok_sign T) (hr.mono (by omega)) (C.g 4 rfl) (ma_cons (sv C 1 rfl) ma_nil rfl) rfl) ma_nil rfl))) (me_fn ih0 (hr.mono (by omega)) (C.g 2 rfl) (ma_cons (me_idx (sv C 0 rfl) me_int (fun _ _ => rfl)) ma_nil rfl) rfl)))))))))))))))
    · show FnAt P w K mg base "_law_inner" (2 + k + 1) 2 (fnOf 0 (b_inner (rc_told k)))
      exact fnC T.d_inner ["_law_tree","_law_kinds"] ["_law_told"] ⟨rfl,rfl,rfl,by decide +kernel,rfl,by decide +kernel,by decide +kernel⟩ (by decide +kernel) (by decide +kernel) rfl rfl fun _ _ _ _ _ _ _ hr C => (mss_cons (ms_if (mt_cmp (om_notIn C.un) (me_idx (sv C 0 rfl) me_int (fun _ _ => rfl)) (sv C 1 rfl) rfl)
    (mss_one (ms_ret (me_fn ih0 (hr.mono (by omega)) (C.g 0 rfl) (ma_cons (sv C 0 rfl) ma_nil rfl) rfl)))
    mss_nil)
    (mss_cons (ms_if (mt_cmp (om_in C.un) (me_idx (sv C 0 rfl) me_int (fun _ _ => rfl)) (me_tup (ma_cons (me_str w_both_eq) (ma_cons (me_str w_either_eq) ma_nil rfl) rfl)) rfl)
    (mss_one (ms_ret (me_bin om_add (me_bin om_add (me_lst (ma_cons (me_str w_so_eq) (ma_cons (me_str w53_eq) ma_nil rfl) rfl)) (me_fn ih0 (hr.mono (by omega)) (C.g 0 rfl) (ma_cons (sv C 0 rfl) ma_nil rfl) rfl)) (me_lst (ma_cons (me_str w54_eq) ma_nil rfl)))))
    mss_nil)
    (mss_one (ms_ret (me_bin om_add (me_bin om_add (me_lst (ma_cons (me_str w53_eq) ma_nil rfl)) (me_fn ih0 (hr.mono (by omega)) (C.g 0 rfl) (ma_cons (sv C 0 rfl) ma_nil rfl) rfl)) (me_lst (ma_cons (me_str w54_eq) ma_nil rfl)))))))
theorem ok_told (T:Tx w K mg):FnAt P w K mg base "_law_told" 32 1 f_told:=(okg_told T 30).1
theorem sc_p_Reader__init__:FnScope ["self","words"] ["self","words"] (defScope s_p_Reader__init__):=⟨rfl,rfl,rfl,by decide +kernel,rfl,by decide +kernel,by decide +kernel⟩
theorem lo_p_Reader__init__:locB (defScope s_p_Reader__init__) ["self","words"] = true:=by decide +kernel
theorem gl_p_Reader__init__:glB (defScope s_p_Reader__init__) [] = true:=by decide +kernel
theorem ok_p_Reader__init__ (T:Tx w K mg):MkAt P w K mg base "Reader" 1 1 f_p_Reader__init__:=by
  refine mkAt_of T.d_p_Reader__init__ rfl fun f fd F => ?_
  refine fnOkQ_of F sc_p_Reader__init__ rfl rfl fun cdv A outer s H E hr => ?_
  have C:=ct_of (CX:=CX0) (P:=P) (w:=w) (K:=K) (mg:=mg) (base:=base) (outer:=outer) (H:=H) (E:=E) sc_p_Reader__init__.nd (loc_of lo_p_Reader__init__) (gl_of gl_p_Reader__init__) hr
  exact ((mss_cons (ms_setA (of_mem (by simp only [List.forall_mem_cons,List.not_mem_nil,false_implies,implies_true,and_true]; exact ⟨T.o_Reader,T.na_Reader_words⟩)) (sv C 0 rfl) (sv C 1 rfl))
    (mss_one (ms_setA (of_mem (by simp only [List.forall_mem_cons,List.not_mem_nil,false_implies,implies_true,and_true]; exact ⟨T.o_Reader,T.na_Reader_place⟩)) (sv C 0 rfl) me_int))))
theorem ok_p_end_of_figures (T:Tx w K mg):FnAt P w K mg base "end_of_figures" 1 2 f_p_end_of_figures:=fnC T.d_p_end_of_figures ["text","place","end"] ["len"] ⟨rfl,rfl,rfl,by decide +kernel,rfl,by decide +kernel,by decide +kernel⟩ (by decide +kernel) (by decide +kernel) rfl rfl fun _ _ _ _ _ _ _ hr C => (mss_cons (sa C 2 rfl (sv C 1 rfl))
    (mss_cons (ms_while 400 PassesOwn.never (mw_and (mt_cmp om_lt (sv C 2 rfl) (me_callB cm_len (C.g 0 rfl) T.n_len PySem.boot_len (ma_cons (sv C 0 rfl) ma_nil rfl)) (nomark _)) (mw_and1 (mt_truth (me_isdigit (me_idx (sv C 0 rfl) (sv C 2 rfl) (fun _ _ => rfl))) (fun _ => rfl)))).t
    (mss_one (sag C 2 rfl me_int)))
    (mss_one (ms_ret (sv C 2 rfl)))))
theorem ok_p_end_of_letters (T:Tx w K mg):FnAt P w K mg base "end_of_letters" 1 2 f_p_end_of_letters:=fnC T.d_p_end_of_letters ["text","place","end"] ["len"] ⟨rfl,rfl,rfl,by decide +kernel,rfl,by decide +kernel,by decide +kernel⟩ (by decide +kernel) (by decide +kernel) rfl rfl fun _ _ _ _ _ _ _ hr C => (mss_cons (sa C 2 rfl (sv C 1 rfl))
    (mss_cons (ms_while 400 PassesOwn.never (mw_and (mt_cmp om_lt (sv C 2 rfl) (me_callB cm_len (C.g 0 rfl) T.n_len PySem.boot_len (ma_cons (sv C 0 rfl) ma_nil rfl)) (nomark _)) (mw_and1 (mt_truth (me_isalpha (me_idx (sv C 0 rfl) (sv C 2 rfl) (fun _ _ => rfl))) (fun _ => rfl)))).t
    (mss_one (sag C 2 rfl me_int)))
    (mss_one (ms_ret (sv C 2 rfl)))))
theorem ok_p_end_of_word (T:Tx w K mg):FnAt P w K mg base "end_of_word" 2 2 f_p_end_of_word:=fnC T.d_p_end_of_word ["text","place"] ["end_of_figures","end_of_letters","LONG_SIGNS"] ⟨rfl,rfl,rfl,by decide +kernel,rfl,by decide +kernel,by decide +kernel⟩ (by decide +kernel) (by decide +kernel) rfl rfl fun _ _ _ _ _ _ _ hr C => (mss_cons (ms_if (mt_truth (me_isdigit (me_idx (sv C 0 rfl) (sv C 1 rfl) (fun _ _ => rfl))) (fun _ => rfl))
    (mss_one (ms_ret (me_fn (ok_p_end_of_figures T) (hr.mono (by decide)) (C.g 0 rfl) (ma_cons (sv C 0 rfl) (ma_cons (sv C 1 rfl) ma_nil rfl) rfl) rfl)))
    mss_nil)
    (mss_cons (ms_if (mt_truth (me_isalpha (me_idx (sv C 0 rfl) (sv C 1 rfl) (fun _ _ => rfl))) (fun _ => rfl))
    (mss_one (ms_ret (me_fn (ok_p_end_of_letters T) (hr.mono (by decide)) (C.g 1 rfl) (ma_cons (sv C 0 rfl) (ma_cons (sv C 1 rfl) ma_nil rfl) rfl) rfl)))
    mss_nil)
    (mss_cons (ms_if (mt_cmp (om_in C.un) (me_sliceT (sv C 0 rfl) (mp_some (sv C 1 rfl)) (mp_some (me_bin om_add (sv C 1 rfl) me_int))) (me_const T.c_LONG_SIGNS (C.g 2 rfl)) rfl)
    (mss_one (ms_ret (me_bin om_add (sv C 1 rfl) me_int)))
    mss_nil)
    (mss_one (ms_ret (me_bin om_add (sv C 1 rfl) me_int))))))
theorem ok_p_is_whole (T:Tx w K mg):FnAt P w K mg base "is_whole" 1 1 f_p_is_whole:=fnC T.d_p_is_whole ["thing"] ["isinstance","int","bool"] ⟨rfl,rfl,rfl,by decide +kernel,rfl,by decide +kernel,by decide +kernel⟩ (by decide +kernel) (by decide +kernel) rfl rfl fun _ _ _ _ _ _ _ hr C => (mss_one (ms_ret (me_and (me_isI .int PyProof.Rows.boot_int (C.g 0 rfl) T.n_isinstance (C.g 1 rfl) T.n_int (sv C 0 rfl)) (me_one (me_not (me_isI .bool M.boot_bool (C.g 0 rfl) T.n_isinstance (C.g 2 rfl) T.n_bool (sv C 0 rfl)))))))
theorem ok_p_is_number (T:Tx w K mg):FnAt P w K mg base "is_number" 2 1 f_p_is_number:=fnC T.d_p_is_number ["thing"] ["is_whole","ROUND"] ⟨rfl,rfl,rfl,by decide +kernel,rfl,by decide +kernel,by decide +kernel⟩ (by decide +kernel) (by decide +kernel) rfl rfl fun _ _ _ _ _ _ _ hr C => (mss_one (ms_ret (me_and (me_fn (ok_p_is_whole T) (hr.mono (by decide)) (C.g 0 rfl) (ma_cons (sv C 0 rfl) ma_nil rfl) rfl) (me_one (me_chain om_le om_lt me_int (sv C 0 rfl) (me_const T.c_ROUND (C.g 1 rfl)) rfl)))))
theorem ok_p_number_of (T:Tx w K mg):FnAt P w K mg base "number_of" 3 1 f_p_number_of:=fnC T.d_p_number_of ["figures","number"] ["len","MOST_FIGURES","int","is_number"] ⟨rfl,rfl,rfl,by decide +kernel,rfl,by decide +kernel,by decide +kernel⟩ (by decide +kernel) (by decide +kernel) rfl rfl fun _ _ _ _ _ _ _ hr C => (mss_cons (ms_if (mt_cmp om_gt (me_callB cm_len (C.g 0 rfl) T.n_len PySem.boot_len (ma_cons (sv C 0 rfl) ma_nil rfl)) (me_const T.c_MOST_FIGURES (C.g 1 rfl)) (nomark _))
    (mss_one (ms_ret me_non))
    mss_nil)
    (mss_cons (sa C 1 rfl (me_callTy cm_intT (C.g 2 rfl) T.n_int PyProof.Rows.boot_int (ma_cons (sv C 0 rfl) ma_nil rfl)))
    (mss_one (ms_ret (me_if (mt_truth (me_fn (ok_p_is_number T) (hr.mono (by decide)) (C.g 3 rfl) (ma_cons (sv C 1 rfl) ma_nil rfl) rfl) (fun _ => rfl)) (sv C 1 rfl) me_non)))))
theorem ok_p_word_of (T:Tx w K mg):FnAt P w K mg base "word_of" 4 1 f_p_word_of:=fnC T.d_p_word_of ["piece"] ["number_of","NAMES","LONG_SIGNS","SIGNS"] ⟨rfl,rfl,rfl,by decide +kernel,rfl,by decide +kernel,by decide +kernel⟩ (by decide +kernel) (by decide +kernel) rfl rfl fun _ _ _ _ _ _ _ hr C => (mss_cons (ms_if (mt_truth (me_isdigit (me_idx (sv C 0 rfl) me_int (fun _ _ => rfl))) (fun _ => rfl))
    (mss_one (ms_ret (me_fn (ok_p_number_of T) (hr.mono (by decide)) (C.g 0 rfl) (ma_cons (sv C 0 rfl) ma_nil rfl) rfl)))
    mss_nil)
    (mss_cons (ms_if (mw_or (mt_cmp (om_in C.un) (sv C 0 rfl) (me_const T.c_NAMES (C.g 1 rfl)) rfl) (mw_or (mt_cmp (om_in C.un) (sv C 0 rfl) (me_const T.c_LONG_SIGNS (C.g 2 rfl)) rfl) (mw_or1 (mt_cmp (om_in C.un) (sv C 0 rfl) (me_const T.c_SIGNS (C.g 3 rfl)) rfl)))).t
    (mss_one (ms_ret (sv C 0 rfl)))
    mss_nil)
    (mss_one (ms_ret me_non))))
theorem ok_p_words_of (T:Tx w K mg):FnAt P w K mg base "words_of" 5 1 f_p_words_of:=fnC T.d_p_words_of ["text","words","place","end"] ["len","end_of_word","word_of"] ⟨rfl,rfl,rfl,by decide +kernel,rfl,by decide +kernel,by decide +kernel⟩ (by decide +kernel) (by decide +kernel) rfl rfl fun _ _ _ _ _ _ _ hr C => (mss_cons (sa C 1 rfl (me_lstC ma_nil))
    (mss_cons (sa C 2 rfl me_int)
    (mss_cons (ms_while 400 PassesOwn.never (mt_cmp om_lt (sv C 2 rfl) (me_callB cm_len (C.g 0 rfl) T.n_len PySem.boot_len (ma_cons (sv C 0 rfl) ma_nil rfl)) (nomark _))
    (mss_cons (sa C 3 rfl (me_fn (ok_p_end_of_word T) (hr.mono (by decide)) (C.g 1 rfl) (ma_cons (sv C 0 rfl) (ma_cons (sv C 2 rfl) ma_nil rfl) rfl) rfl))
    (mss_cons (ms_if (mt_cmp (om_ne C.un) (me_idx (sv C 0 rfl) (sv C 2 rfl) (fun _ _ => rfl)) (me_str w24_eq) (nomark _))
    (mss_one (ms_expr (me_append (sv C 1 rfl) (ma_cons (me_fn (ok_p_word_of T) (hr.mono (by decide)) (C.g 2 rfl) (ma_cons (me_sliceT (sv C 0 rfl) (mp_some (sv C 2 rfl)) (mp_some (sv C 3 rfl))) ma_nil rfl) rfl) ma_nil rfl) (fun _ _ => rfl))))
    mss_nil)
    (mss_one (sa C 2 rfl (sv C 3 rfl))))))
    (mss_one (ms_ret (sv C 1 rfl))))))
theorem sc_m_Reader_ahead:FnScope ["self"] ["self"] (defScope s_m_Reader_ahead):=⟨rfl,rfl,rfl,by decide +kernel,rfl,by decide +kernel,by decide +kernel⟩
theorem lo_m_Reader_ahead:locB (defScope s_m_Reader_ahead) ["self"] = true:=by decide +kernel
theorem gl_m_Reader_ahead:glB (defScope s_m_Reader_ahead) ["len"] = true:=by decide +kernel
theorem ok_m_Reader_ahead (T:Tx w K mg):MthAt P w K mg base "Reader" "ahead" 1 0 f_m_Reader_ahead:=mthAt_of T.d_m_Reader_ahead rfl fun f fd F => fnM F ["len"] sc_m_Reader_ahead lo_m_Reader_ahead gl_m_Reader_ahead rfl rfl fun cdv A outer s H E hr C => (mss_one (ms_ret (me_if (mt_cmp om_lt (me_attr (of_mem (by simp only [List.forall_mem_cons,List.not_mem_nil,false_implies,implies_true,and_true]; exact ⟨T.o_Reader,T.na_Reader_place⟩)) (sv C 0 rfl)) (me_callB cm_len (C.g 0 rfl) T.n_len PySem.boot_len (ma_cons (me_attr (of_mem (by simp only [List.forall_mem_cons,List.not_mem_nil,false_implies,implies_true,and_true]; exact ⟨T.o_Reader,T.na_Reader_words⟩)) (sv C 0 rfl)) ma_nil rfl)) (nomark _)) (me_idx (me_attr (of_mem (by simp only [List.forall_mem_cons,List.not_mem_nil,false_implies,implies_true,and_true]; exact ⟨T.o_Reader,T.na_Reader_words⟩)) (sv C 0 rfl)) (me_attr (of_mem (by simp only [List.forall_mem_cons,List.not_mem_nil,false_implies,implies_true,and_true]; exact ⟨T.o_Reader,T.na_Reader_place⟩)) (sv C 0 rfl)) (fun _ _ => rfl)) me_non)))
theorem sc_m_Reader_step_over:FnScope ["self"] ["self"] (defScope s_m_Reader_step_over):=⟨rfl,rfl,rfl,by decide +kernel,rfl,by decide +kernel,by decide +kernel⟩
theorem lo_m_Reader_step_over:locB (defScope s_m_Reader_step_over) ["self"] = true:=by decide +kernel
theorem gl_m_Reader_step_over:glB (defScope s_m_Reader_step_over) [] = true:=by decide +kernel
theorem ok_m_Reader_step_over (T:Tx w K mg):MthAt P w K mg base "Reader" "step_over" 1 0 f_m_Reader_step_over:=mthAt_of T.d_m_Reader_step_over rfl fun f fd F => fnM F [] sc_m_Reader_step_over lo_m_Reader_step_over gl_m_Reader_step_over rfl rfl fun cdv A outer s H E hr C => (mss_one (ms_augA (of_mem (by simp only [List.forall_mem_cons,List.not_mem_nil,false_implies,implies_true,and_true]; exact ⟨T.o_Reader,T.na_Reader_place⟩)) (by intro c c' h h'; simp only [List.contains_cons,List.contains_nil,Bool.or_false,beq_iff_eq] at h h'; rw [h,h']) (sv C 0 rfl) me_int))
theorem sc_m_Reader_refuse:FnScope ["self"] ["self"] (defScope s_m_Reader_refuse):=⟨rfl,rfl,rfl,by decide +kernel,rfl,by decide +kernel,by decide +kernel⟩
theorem lo_m_Reader_refuse:locB (defScope s_m_Reader_refuse) ["self"] = true:=by decide +kernel
theorem gl_m_Reader_refuse:glB (defScope s_m_Reader_refuse) [] = true:=by decide +kernel
theorem ok_m_Reader_refuse (T:Tx w K mg):MthAt P w K mg base "Reader" "refuse" 1 0 f_m_Reader_refuse:=mthAt_of T.d_m_Reader_refuse rfl fun f fd F => fnM F [] sc_m_Reader_refuse lo_m_Reader_refuse gl_m_Reader_refuse rfl rfl fun cdv A outer s H E hr C => (mss_one ms_bad)
theorem sc_m_Reader_step_into:FnScope ["self","within"] ["self","within"] (defScope s_m_Reader_step_into):=⟨rfl,rfl,rfl,by decide +kernel,rfl,by decide +kernel,by decide +kernel⟩
theorem lo_m_Reader_step_into:locB (defScope s_m_Reader_step_into) ["self","within"] = true:=by decide +kernel
theorem gl_m_Reader_step_into:glB (defScope s_m_Reader_step_into) ["MOST_WITHIN"] = true:=by decide +kernel
theorem ok_m_Reader_step_into (T:Tx w K mg):MthAt P w K mg base "Reader" "step_into" 2 1 f_m_Reader_step_into:=mthAt_of T.d_m_Reader_step_into rfl fun f fd F => fnM F ["MOST_WITHIN"] sc_m_Reader_step_into lo_m_Reader_step_into gl_m_Reader_step_into rfl rfl fun cdv A outer s H E hr C => (mss_cons (ms_if (mt_cmp om_ge (sv C 1 rfl) (me_const T.c_MOST_WITHIN (C.g 0 rfl)) (nomark _))
    (mss_one (ms_expr (me_meth0 (ok_m_Reader_refuse T) (hr.mono (by decide)) (sv C 0 rfl))))
    mss_nil)
    (mss_one (ms_augA (of_mem (by simp only [List.forall_mem_cons,List.not_mem_nil,false_implies,implies_true,and_true]; exact ⟨T.o_Reader,T.na_Reader_place⟩)) (by intro c c' h h'; simp only [List.contains_cons,List.contains_nil,Bool.or_false,beq_iff_eq] at h h'; rw [h,h']) (sv C 0 rfl) me_int)))
theorem sc_m_Reader_expect:FnScope ["self","word"] ["self","word"] (defScope s_m_Reader_expect):=⟨rfl,rfl,rfl,by decide +kernel,rfl,by decide +kernel,by decide +kernel⟩
theorem lo_m_Reader_expect:locB (defScope s_m_Reader_expect) ["self","word"] = true:=by decide +kernel
theorem gl_m_Reader_expect:glB (defScope s_m_Reader_expect) [] = true:=by decide +kernel
theorem ok_m_Reader_expect (T:Tx w K mg):MthAt P w K mg base "Reader" "expect" 2 1 f_m_Reader_expect:=mthAt_of T.d_m_Reader_expect rfl fun f fd F => fnM F [] sc_m_Reader_expect lo_m_Reader_expect gl_m_Reader_expect rfl rfl fun cdv A outer s H E hr C => (mss_cons (ms_if (mt_cmp (om_ne C.un) (me_meth0 (ok_m_Reader_ahead T) (hr.mono (by decide)) (sv C 0 rfl)) (sv C 1 rfl) (nomark _))
    (mss_one (ms_expr (me_meth0 (ok_m_Reader_refuse T) (hr.mono (by decide)) (sv C 0 rfl))))
    mss_nil)
    (mss_one (ms_augA (of_mem (by simp only [List.forall_mem_cons,List.not_mem_nil,false_implies,implies_true,and_true]; exact ⟨T.o_Reader,T.na_Reader_place⟩)) (by intro c c' h h'; simp only [List.contains_cons,List.contains_nil,Bool.or_false,beq_iff_eq] at h h'; rw [h,h']) (sv C 0 rfl) me_int)))
theorem okg_p_read_sum (T:Tx w K mg):∀ k,FnAt P w K mg base "read_sum" (3 + k) 2 (rc_p_read_sum k 0) ∧ FnAt P w K mg base "read_product" (3 + k) 2 (rc_p_read_sum k 1) ∧ FnAt P w K mg base "read_plain" (3 + k) 2 (rc_p_read_sum k 2) ∧ FnAt P w K mg base "read_load" (3 + k) 2 (rc_p_read_sum k 3) ∧ FnAt P w K mg base "read_bracket" (3 + k) 2 (rc_p_read_sum k 4):=by
  intro k
  induction k with
  | zero => exact ⟨fnAt_bad T.d_p_read_sum rfl,fnAt_bad T.d_p_read_product rfl,fnAt_bad T.d_p_read_plain rfl,fnAt_bad T.d_p_read_load rfl,fnAt_bad T.d_p_read_bracket rfl⟩
  | succ k ih =>
    obtain ⟨ih0,ih1,ih2,ih3,ih4⟩:=ih
    refine ⟨?_,?_,?_,?_,?_⟩
    · show FnAt P w K mg base "read_sum" (3 + k + 1) 2 (fnOf 2 (b_p_read_sum (rc_p_read_sum k)))
      exact fnC T.d_p_read_sum ["reader","within","tree","op"] ["read_product","SUM_OPS"] ⟨rfl,rfl,rfl,by decide +kernel,rfl,by decide +kernel,by decide +kernel⟩ (by decide +kernel) (by decide +kernel) rfl rfl fun _ _ _ _ _ _ _ hr C => (mss_cons (sa C 2 rfl (me_fn ih1 (hr.mono (by omega)) (C.g 0 rfl) (ma_cons (sv C 0 rfl) (ma_cons (sv C 1 rfl) ma_nil rfl) rfl) rfl))
    (mss_cons (ms_while 100 PassesOwn.never (mt_cdinN T.c_SUM_OPS (C.g 1 rfl) (me_meth0 (ok_m_Reader_ahead T) (hr.mono (by omega)) (sv C 0 rfl)))
    (mss_cons (sa C 3 rfl (me_cdget T.c_SUM_OPS (C.g 1 rfl) (me_meth0 (ok_m_Reader_ahead T) (hr.mono (by omega)) (sv C 0 rfl)) (fun _ _ => rfl)))
    (mss_cons (ms_expr (me_meth0 (ok_m_Reader_step_over T) (hr.mono (by omega)) (sv C 0 rfl)))
    (mss_one (sa C 2 rfl (me_tup (ma_cons (sv C 3 rfl) (ma_cons (sv C 2 rfl) (ma_cons (me_fn ih1 (hr.mono (by omega)) (C.g 0 rfl) (ma_cons (sv C 0 rfl) (ma_cons (sv C 1 rfl) ma_nil rfl) rfl) rfl) ma_nil rfl) rfl) rfl)))))))
    (mss_one (ms_ret (sv C 2 rfl)))))
    · show FnAt P w K mg base "read_product" (3 + k + 1) 2 (fnOf 2 (b_p_read_product (rc_p_read_sum k)))
      exact fnC T.d_p_read_product ["reader","within","tree","op"] ["read_plain","PRODUCT_OPS"] ⟨rfl,rfl,rfl,by decide +kernel,rfl,by decide +kernel,by decide +kernel⟩ (by decide +kernel) (by decide +kernel) rfl rfl fun _ _ _ _ _ _ _ hr C => (mss_cons (sa C 2 rfl (me_fn ih2 (hr.mono (by omega)) (C.g 0 rfl) (ma_cons (sv C 0 rfl) (ma_cons (sv C 1 rfl) ma_nil rfl) rfl) rfl))
    (mss_cons (ms_while 100 PassesOwn.never (mt_cdinN T.c_PRODUCT_OPS (C.g 1 rfl) (me_meth0 (ok_m_Reader_ahead T) (hr.mono (by omega)) (sv C 0 rfl)))
    (mss_cons (sa C 3 rfl (me_cdget T.c_PRODUCT_OPS (C.g 1 rfl) (me_meth0 (ok_m_Reader_ahead T) (hr.mono (by omega)) (sv C 0 rfl)) (fun _ _ => rfl)))
    (mss_cons (ms_expr (me_meth0 (ok_m_Reader_step_over T) (hr.mono (by omega)) (sv C 0 rfl)))
    (mss_one (sa C 2 rfl (me_tup (ma_cons (sv C 3 rfl) (ma_cons (sv C 2 rfl) (ma_cons (me_fn ih2 (hr.mono (by omega)) (C.g 0 rfl) (ma_cons (sv C 0 rfl) (ma_cons (sv C 1 rfl) ma_nil rfl) rfl) rfl) ma_nil rfl) rfl) rfl)))))))
    (mss_one (ms_ret (sv C 2 rfl)))))
    · show FnAt P w K mg base "read_plain" (3 + k + 1) 2 (fnOf 1 (b_p_read_plain (rc_p_read_sum k)))
      exact fnC T.d_p_read_plain ["reader","within","word"] ["LOAD_SIZES","read_load","read_bracket","isinstance","int"] ⟨rfl,rfl,rfl,by decide +kernel,rfl,by decide +kernel,by decide +kernel⟩ (by decide +kernel) (by decide +kernel) rfl rfl fun _ _ _ _ _ _ _ hr C => (mss_cons (sa C 2 rfl (me_meth0 (ok_m_Reader_ahead T) (hr.mono (by omega)) (sv C 0 rfl)))
    (mss_cons (ms_if (mt_cdinN T.c_LOAD_SIZES (C.g 0 rfl) (sv C 2 rfl))
    (mss_one (ms_ret (me_fn ih3 (hr.mono (by omega)) (C.g 1 rfl) (ma_cons (sv C 0 rfl) (ma_cons (sv C 1 rfl) ma_nil rfl) rfl) rfl)))
    mss_nil)
    (mss_cons (ms_if (mt_cmp (om_eq C.un) (sv C 2 rfl) (me_str w53_eq) (nomark _))
    (mss_one (ms_ret (me_fn ih4 (hr.mono (by omega)) (C.g 2 rfl) (ma_cons (sv C 0 rfl) (ma_cons (sv C 1 rfl) ma_nil rfl) rfl) rfl)))
    mss_nil)
    (mss_cons (ms_if (mt_cmp (om_eq C.un) (sv C 2 rfl) (me_str w_len_eq) (nomark _))
    (mss_cons (ms_expr (me_meth0 (ok_m_Reader_step_over T) (hr.mono (by omega)) (sv C 0 rfl)))
    (mss_one (ms_ret (me_tup (ma_cons (me_str w_len_eq) ma_nil rfl)))))
    mss_nil)
    (mss_cons (ms_if (mt_not (mt_truth (me_isI .int PyProof.Rows.boot_int (C.g 3 rfl) T.n_isinstance (C.g 4 rfl) T.n_int (sv C 2 rfl)) (fun _ => rfl)))
    (mss_one (ms_expr (me_meth0 (ok_m_Reader_refuse T) (hr.mono (by omega)) (sv C 0 rfl))))
    mss_nil)
    (mss_cons (ms_expr (me_meth0 (ok_m_Reader_step_over T) (hr.mono (by omega)) (sv C 0 rfl)))
    (mss_one (ms_ret (me_tup (ma_cons (me_str w_number_eq) (ma_cons (sv C 2 rfl) ma_nil rfl) rfl))))))))))
    · show FnAt P w K mg base "read_load" (3 + k + 1) 2 (fnOf 2 (b_p_read_load (rc_p_read_sum k)))
      exact fnC T.d_p_read_load ["reader","within","size","tree"] ["LOAD_SIZES","read_sum"] ⟨rfl,rfl,rfl,by decide +kernel,rfl,by decide +kernel,by decide +kernel⟩ (by decide +kernel) (by decide +kernel) rfl rfl fun _ _ _ _ _ _ _ hr C => (mss_cons (sa C 2 rfl (me_cdget T.c_LOAD_SIZES (C.g 0 rfl) (me_meth0 (ok_m_Reader_ahead T) (hr.mono (by omega)) (sv C 0 rfl)) (fun _ _ => rfl)))
    (mss_cons (ms_expr (me_meth (ok_m_Reader_step_into T) (hr.mono (by omega)) (sv C 0 rfl) (ma_cons (sv C 1 rfl) ma_nil rfl) rfl))
    (mss_cons (ms_expr (me_meth (ok_m_Reader_expect T) (hr.mono (by omega)) (sv C 0 rfl) (ma_cons (me_str w35_eq) ma_nil rfl) rfl))
    (mss_cons (sa C 3 rfl (me_fn ih0 (hr.mono (by omega)) (C.g 1 rfl) (ma_cons (sv C 0 rfl) (ma_cons (me_bin om_add (sv C 1 rfl) me_int) ma_nil rfl) rfl) rfl))
    (mss_cons (ms_expr (me_meth (ok_m_Reader_expect T) (hr.mono (by omega)) (sv C 0 rfl) (ma_cons (me_str w36_eq) ma_nil rfl) rfl))
    (mss_one (ms_ret (me_tup (ma_cons (me_str w_load_eq) (ma_cons (sv C 2 rfl) (ma_cons (sv C 3 rfl) ma_nil rfl) rfl) rfl)))))))))
    · show FnAt P w K mg base "read_bracket" (3 + k + 1) 2 (fnOf 1 (b_p_read_bracket (rc_p_read_sum k)))
      exact fnC T.d_p_read_bracket ["reader","within","tree"] ["read_sum"] ⟨rfl,rfl,rfl,by decide +kernel,rfl,by decide +kernel,by decide +kernel⟩ (by decide +kernel) (by decide +kernel) rfl rfl fun _ _ _ _ _ _ _ hr C => (mss_cons (ms_expr (me_meth (ok_m_Reader_step_into T) (hr.mono (by omega)) (sv C 0 rfl) (ma_cons (sv C 1 rfl) ma_nil rfl) rfl))
    (mss_cons (sa C 2 rfl (me_fn ih0 (hr.mono (by omega)) (C.g 0 rfl) (ma_cons (sv C 0 rfl) (ma_cons (me_bin om_add (sv C 1 rfl) me_int) ma_nil rfl) rfl) rfl))
    (mss_cons (ms_expr (me_meth (ok_m_Reader_expect T) (hr.mono (by omega)) (sv C 0 rfl) (ma_cons (me_str w54_eq) ma_nil rfl) rfl))
    (mss_one (ms_ret (sv C 2 rfl))))))
theorem ok_p_read_sum (T:Tx w K mg):FnAt P w K mg base "read_sum" 67 2 f_p_read_sum:=(okg_p_read_sum T 64).1
theorem ok_p_read_comparison (T:Tx w K mg):FnAt P w K mg base "read_comparison" 68 2 f_p_read_comparison:=fnC T.d_p_read_comparison ["reader","within","tree","sign"] ["read_sum","COMPARISONS"] ⟨rfl,rfl,rfl,by decide +kernel,rfl,by decide +kernel,by decide +kernel⟩ (by decide +kernel) (by decide +kernel) rfl rfl fun _ _ _ _ _ _ _ hr C => (mss_cons (sa C 2 rfl (me_fn (ok_p_read_sum T) (hr.mono (by decide)) (C.g 0 rfl) (ma_cons (sv C 0 rfl) (ma_cons (sv C 1 rfl) ma_nil rfl) rfl) rfl))
    (mss_cons (sa C 3 rfl (me_meth0 (ok_m_Reader_ahead T) (hr.mono (by decide)) (sv C 0 rfl)))
    (mss_cons (ms_if (mt_cdnotinN T.c_COMPARISONS (C.g 1 rfl) (sv C 3 rfl))
    (mss_one (ms_expr (me_meth0 (ok_m_Reader_refuse T) (hr.mono (by decide)) (sv C 0 rfl))))
    mss_nil)
    (mss_cons (ms_expr (me_meth0 (ok_m_Reader_step_over T) (hr.mono (by decide)) (sv C 0 rfl)))
    (mss_one (ms_ret (me_tup (ma_cons (me_cdget T.c_COMPARISONS (C.g 1 rfl) (sv C 3 rfl) (fun _ _ => rfl)) (ma_cons (sv C 2 rfl) (ma_cons (me_fn (ok_p_read_sum T) (hr.mono (by decide)) (C.g 0 rfl) (ma_cons (sv C 0 rfl) (ma_cons (sv C 1 rfl) ma_nil rfl) rfl) rfl) ma_nil rfl) rfl) rfl))))))))
theorem okg_p_read_filter (T:Tx w K mg):∀ k,FnAt P w K mg base "read_filter" (69 + k) 2 (rc_p_read_filter k 0) ∧ FnAt P w K mg base "read_tests" (69 + k) 2 (rc_p_read_filter k 1) ∧ FnAt P w K mg base "read_test" (69 + k) 2 (rc_p_read_filter k 2) ∧ FnAt P w K mg base "read_so" (69 + k) 2 (rc_p_read_filter k 3):=by
  intro k
  induction k with
  | zero => exact ⟨fnAt_bad T.d_p_read_filter rfl,fnAt_bad T.d_p_read_tests rfl,fnAt_bad T.d_p_read_test rfl,fnAt_bad T.d_p_read_so rfl⟩
  | succ k ih =>
    obtain ⟨ih0,ih1,ih2,ih3⟩:=ih
    refine ⟨?_,?_,?_,?_⟩
    · show FnAt P w K mg base "read_filter" (69 + k + 1) 2 (fnOf 1 (b_p_read_filter (rc_p_read_filter k)))
      exact fnC T.d_p_read_filter ["reader","within","tree"] ["read_tests"] ⟨rfl,rfl,rfl,by decide +kernel,rfl,by decide +kernel,by decide +kernel⟩ (by decide +kernel) (by decide +kernel) rfl rfl fun _ _ _ _ _ _ _ hr C => (mss_cons (sa C 2 rfl (me_fn ih1 (hr.mono (by omega)) (C.g 0 rfl) (ma_cons (sv C 0 rfl) (ma_cons (sv C 1 rfl) ma_nil rfl) rfl) rfl))
    (mss_cons (ms_while 100 PassesOwn.never (mt_cmp (om_eq C.un) (me_meth0 (ok_m_Reader_ahead T) (hr.mono (by omega)) (sv C 0 rfl)) (me_str w_or_eq) (nomark _))
    (mss_cons (ms_expr (me_meth0 (ok_m_Reader_step_over T) (hr.mono (by omega)) (sv C 0 rfl)))
    (mss_one (sa C 2 rfl (me_tup (ma_cons (me_str w_either_eq) (ma_cons (sv C 2 rfl) (ma_cons (me_fn ih1 (hr.mono (by omega)) (C.g 0 rfl) (ma_cons (sv C 0 rfl) (ma_cons (sv C 1 rfl) ma_nil rfl) rfl) rfl) ma_nil rfl) rfl) rfl))))))
    (mss_one (ms_ret (sv C 2 rfl)))))
    · show FnAt P w K mg base "read_tests" (69 + k + 1) 2 (fnOf 1 (b_p_read_tests (rc_p_read_filter k)))
      exact fnC T.d_p_read_tests ["reader","within","tree"] ["read_test"] ⟨rfl,rfl,rfl,by decide +kernel,rfl,by decide +kernel,by decide +kernel⟩ (by decide +kernel) (by decide +kernel) rfl rfl fun _ _ _ _ _ _ _ hr C => (mss_cons (sa C 2 rfl (me_fn ih2 (hr.mono (by omega)) (C.g 0 rfl) (ma_cons (sv C 0 rfl) (ma_cons (sv C 1 rfl) ma_nil rfl) rfl) rfl))
    (mss_cons (ms_while 100 PassesOwn.never (mt_cmp (om_eq C.un) (me_meth0 (ok_m_Reader_ahead T) (hr.mono (by omega)) (sv C 0 rfl)) (me_str w_and_eq) (nomark _))
    (mss_cons (ms_expr (me_meth0 (ok_m_Reader_step_over T) (hr.mono (by omega)) (sv C 0 rfl)))
    (mss_one (sa C 2 rfl (me_tup (ma_cons (me_str w_both_eq) (ma_cons (sv C 2 rfl) (ma_cons (me_fn ih2 (hr.mono (by omega)) (C.g 0 rfl) (ma_cons (sv C 0 rfl) (ma_cons (sv C 1 rfl) ma_nil rfl) rfl) rfl) ma_nil rfl) rfl) rfl))))))
    (mss_one (ms_ret (sv C 2 rfl)))))
    · show FnAt P w K mg base "read_test" (69 + k + 1) 2 (fnOf 1 (b_p_read_test (rc_p_read_filter k)))
      exact fnC T.d_p_read_test ["reader","within","word"] ["read_test","read_so","read_comparison"] ⟨rfl,rfl,rfl,by decide +kernel,rfl,by decide +kernel,by decide +kernel⟩ (by decide +kernel) (by decide +kernel) rfl rfl fun _ _ _ _ _ _ _ hr C => (mss_cons (sa C 2 rfl (me_meth0 (ok_m_Reader_ahead T) (hr.mono (by omega)) (sv C 0 rfl)))
    (mss_cons (ms_if (mw_or (mt_cmp (om_eq C.un) (sv C 2 rfl) (me_str w_true_eq) (nomark _)) (mw_or1 (mt_cmp (om_eq C.un) (sv C 2 rfl) (me_str w_false_eq) (nomark _)))).t
    (mss_cons (ms_expr (me_meth0 (ok_m_Reader_step_over T) (hr.mono (by omega)) (sv C 0 rfl)))
    (mss_one (ms_ret (me_tup (ma_cons (me_str w_truth_eq) (ma_cons (me_cmp (om_eq C.un) (sv C 2 rfl) (me_str w_true_eq) (nomark _)) ma_nil rfl) rfl)))))
    mss_nil)
    (mss_cons (ms_if (mt_cmp (om_eq C.un) (sv C 2 rfl) (me_str w_not_eq) (nomark _))
    (mss_cons (ms_expr (me_meth (ok_m_Reader_step_into T) (hr.mono (by omega)) (sv C 0 rfl) (ma_cons (sv C 1 rfl) ma_nil rfl) rfl))
    (mss_one (ms_ret (me_tup (ma_cons (me_str w_not_eq) (ma_cons (me_fn ih2 (hr.mono (by omega)) (C.g 0 rfl) (ma_cons (sv C 0 rfl) (ma_cons (me_bin om_add (sv C 1 rfl) me_int) ma_nil rfl) rfl) rfl) ma_nil rfl) rfl)))))
    mss_nil)
    (mss_cons (ms_if (mt_cmp (om_eq C.un) (sv C 2 rfl) (me_str w_so_eq) (nomark _))
    (mss_one (ms_ret (me_fn ih3 (hr.mono (by omega)) (C.g 1 rfl) (ma_cons (sv C 0 rfl) (ma_cons (sv C 1 rfl) ma_nil rfl) rfl) rfl)))
    mss_nil)
    (mss_one (ms_ret (me_fn (ok_p_read_comparison T) (hr.mono (by omega)) (C.g 2 rfl) (ma_cons (sv C 0 rfl) (ma_cons (sv C 1 rfl) ma_nil rfl) rfl) rfl)))))))
    · show FnAt P w K mg base "read_so" (69 + k + 1) 2 (fnOf 1 (b_p_read_so (rc_p_read_filter k)))
      exact fnC T.d_p_read_so ["reader","within","tree"] ["read_filter"] ⟨rfl,rfl,rfl,by decide +kernel,rfl,by decide +kernel,by decide +kernel⟩ (by decide +kernel) (by decide +kernel) rfl rfl fun _ _ _ _ _ _ _ hr C => (mss_cons (ms_expr (me_meth (ok_m_Reader_step_into T) (hr.mono (by omega)) (sv C 0 rfl) (ma_cons (sv C 1 rfl) ma_nil rfl) rfl))
    (mss_cons (ms_expr (me_meth (ok_m_Reader_expect T) (hr.mono (by omega)) (sv C 0 rfl) (ma_cons (me_str w53_eq) ma_nil rfl) rfl))
    (mss_cons (sa C 2 rfl (me_fn ih0 (hr.mono (by omega)) (C.g 0 rfl) (ma_cons (sv C 0 rfl) (ma_cons (me_bin om_add (sv C 1 rfl) me_int) ma_nil rfl) rfl) rfl))
    (mss_cons (ms_expr (me_meth (ok_m_Reader_expect T) (hr.mono (by omega)) (sv C 0 rfl) (ma_cons (me_str w54_eq) ma_nil rfl) rfl))
    (mss_one (ms_ret (sv C 2 rfl)))))))
theorem ok_p_read_filter (T:Tx w K mg):FnAt P w K mg base "read_filter" 133 2 f_p_read_filter:=(okg_p_read_filter T 64).1
theorem sc_m_Reader_expect_end:FnScope ["self"] ["self"] (defScope s_m_Reader_expect_end):=⟨rfl,rfl,rfl,by decide +kernel,rfl,by decide +kernel,by decide +kernel⟩
theorem lo_m_Reader_expect_end:locB (defScope s_m_Reader_expect_end) ["self"] = true:=by decide +kernel
theorem gl_m_Reader_expect_end:glB (defScope s_m_Reader_expect_end) ["len"] = true:=by decide +kernel
theorem ok_m_Reader_expect_end (T:Tx w K mg):MthAt P w K mg base "Reader" "expect_end" 2 0 f_m_Reader_expect_end:=mthAt_of T.d_m_Reader_expect_end rfl fun f fd F => fnM F ["len"] sc_m_Reader_expect_end lo_m_Reader_expect_end gl_m_Reader_expect_end rfl rfl fun cdv A outer s H E hr C => (mss_one (ms_if (mt_cmp om_lt (me_attr (of_mem (by simp only [List.forall_mem_cons,List.not_mem_nil,false_implies,implies_true,and_true]; exact ⟨T.o_Reader,T.na_Reader_place⟩)) (sv C 0 rfl)) (me_callB cm_len (C.g 0 rfl) T.n_len PySem.boot_len (ma_cons (me_attr (of_mem (by simp only [List.forall_mem_cons,List.not_mem_nil,false_implies,implies_true,and_true]; exact ⟨T.o_Reader,T.na_Reader_words⟩)) (sv C 0 rfl)) ma_nil rfl)) (nomark _))
    (mss_one (ms_expr (me_meth0 (ok_m_Reader_refuse T) (hr.mono (by decide)) (sv C 0 rfl))))
    mss_nil))
theorem ok_p_read (T:Tx w K mg):FnAt P w K mg base "read" 134 1 f_p_read:=fnC T.d_p_read ["text","reader","tree"] ["words_of","Reader","read_filter"] ⟨rfl,rfl,rfl,by decide +kernel,rfl,by decide +kernel,by decide +kernel⟩ (by decide +kernel) (by decide +kernel) rfl rfl fun _ _ _ _ _ _ _ hr C => (mss_cons (sa C 1 rfl (me_new (ok_p_Reader__init__ T) (hr.mono (by decide)) (C.g 1 rfl) (ma_cons (me_fn (ok_p_words_of T) (hr.mono (by decide)) (C.g 0 rfl) (ma_cons (sv C 0 rfl) ma_nil rfl) rfl) ma_nil rfl) rfl))
    (mss_cons (sa C 2 rfl (me_fn (ok_p_read_filter T) (hr.mono (by decide)) (C.g 2 rfl) (ma_cons (sv C 1 rfl) (ma_cons me_int ma_nil rfl) rfl) rfl))
    (mss_cons (ms_expr (me_meth0 (ok_m_Reader_expect_end T) (hr.mono (by decide)) (sv C 1 rfl)))
    (mss_one (ms_ret (sv C 2 rfl))))))
theorem sc_law:FnScope ["_law_script","_law_tree","_law_text_here","_law_found"] ["_law_script"] (defScope s_law):=⟨rfl,rfl,rfl,by decide +kernel,rfl,by decide +kernel,by decide +kernel⟩
theorem okd_law (T:Tx w K mg) {f:Addr} {fd:FuncData} (F:Fun K "law" "law" s_law f fd):FnOk P w K mg base CX0 135 f fd ["_law_script"] (spM K 1 f_law):=by
  refine fnOk_of F sc_law rfl rfl fun cdv A outer s H E hr => ?_
  have C:=ct_of (CX:=CX0) (P:=P) (w:=w) (K:=K) (mg:=mg) (base:=base) (outer:=outer) (H:=H) (E:=E) sc_law.nd (loc_of (by decide +kernel)) (gl_of (show glB _ ["_law_mix","_law_truth","_law_told","_law_text","len","read","isinstance","tuple"] = true from (by decide +kernel))) hr
  exact ((mss_cons (sa C 1 rfl (me_fn (ok_truth T) (hr.mono (by decide)) (C.g 1 rfl) (ma_cons (sv C 0 rfl) (ma_cons me_int (ma_cons (me_bin om_add me_int (me_bin om_mod (me_fn (ok_mix T) (hr.mono (by decide)) (C.g 0 rfl) (ma_cons (sv C 0 rfl) (ma_cons me_int ma_nil rfl) rfl) rfl) me_int)) ma_nil rfl) rfl) rfl) rfl))
    (mss_cons (sa C 2 rfl (me_fn (ok_text T) (hr.mono (by decide)) (C.g 3 rfl) (ma_cons (sv C 0 rfl) (ma_cons me_int (ma_cons (me_fn (ok_told T) (hr.mono (by decide)) (C.g 2 rfl) (ma_cons (sv C 1 rfl) ma_nil rfl) rfl) ma_nil rfl) rfl) rfl) rfl))
    (mss_cons (ms_if (mt_cmp om_gt (me_callB cm_len (C.g 4 rfl) T.n_len PySem.boot_len (ma_cons (sv C 2 rfl) ma_nil rfl)) me_int (nomark _))
    (mss_cons (sa C 1 rfl (me_fn (ok_truth T) (hr.mono (by decide)) (C.g 1 rfl) (ma_cons (sv C 0 rfl) (ma_cons me_int (ma_cons me_int ma_nil rfl) rfl) rfl) rfl))
    (mss_one (sa C 2 rfl (me_fn (ok_text T) (hr.mono (by decide)) (C.g 3 rfl) (ma_cons (sv C 0 rfl) (ma_cons me_int (ma_cons (me_fn (ok_told T) (hr.mono (by decide)) (C.g 2 rfl) (ma_cons (sv C 1 rfl) ma_nil rfl) rfl) ma_nil rfl) rfl) rfl) rfl))))
    mss_nil)
    (mss_cons (sa C 3 rfl (me_fn (ok_p_read T) (hr.mono (by decide)) (C.g 5 rfl) (ma_cons (sv C 2 rfl) ma_nil rfl) rfl))
    (mss_one (ms_ret (me_and (me_isI .tuple M.boot_tuple (C.g 6 rfl) T.n_isinstance (C.g 7 rfl) T.n_tuple (sv C 3 rfl)) (me_one (me_cmp (om_eq C.un) (sv C 3 rfl) (sv C 1 rfl) (nomark _)))))))))))
theorem finish {fa:Addr} (hmg:mg "law" = some (.ref fa)) (T:Tx w K mg):∃ fd:FuncData,BindsS fd ["_law_script"] ∧ ∀ base:Heap,FnOk P w K mg base CX0 135 fa fd ["_law_script"] (spM K 1 f_law):=by
  obtain ⟨f,fd,h1,h2,h3⟩:=T.d_law
  have e:=hmg.symm.trans h1
  cases e
  exact ⟨fd,h3,fun base => okd_law T h2⟩
theorem mkT {h:Heap} (KX:K.In h) (G:h.Ns mainGlobals mg)
    (n_len:PySem.W.nsIn K mainGlobals "len" = some none)
    (n_range:PySem.W.nsIn K mainGlobals "range" = some none)
    (n_str:PySem.W.nsIn K mainGlobals "str" = some none)
    (n_int:PySem.W.nsIn K mainGlobals "int" = some none)
    (n_isinstance:PySem.W.nsIn K mainGlobals "isinstance" = some none)
    (n_bool:PySem.W.nsIn K mainGlobals "bool" = some none)
    (n_tuple:PySem.W.nsIn K mainGlobals "tuple" = some none)
    {p_LONG_SIGNS:Addr} {t0_LONG_SIGNS t1_LONG_SIGNS t2_LONG_SIGNS t3_LONG_SIGNS t4_LONG_SIGNS:Tok} {od_LONG_SIGNS:Option Addr} {z_LONG_SIGNS:Nat} {sl_LONG_SIGNS:Array (Option Value)}
    (a_LONG_SIGNS:PySem.W.nsIn K mainGlobals "LONG_SIGNS" = some (some (.ref p_LONG_SIGNS)))
    (l_LONG_SIGNS:K.lookup p_LONG_SIGNS = some ⟨.type "tuple",od_LONG_SIGNS,.seq #[.str ⟨w50.toArray⟩ t0_LONG_SIGNS,.str ⟨w51.toArray⟩ t1_LONG_SIGNS,.str ⟨w41.toArray⟩ t2_LONG_SIGNS,.str ⟨w42.toArray⟩ t3_LONG_SIGNS,.str ⟨w38.toArray⟩ t4_LONG_SIGNS] z_LONG_SIGNS,sl_LONG_SIGNS⟩)
    {t_MOST_FIGURES:Tok}
    (a_MOST_FIGURES:PySem.W.nsIn K mainGlobals "MOST_FIGURES" = some (some (.int 10 t_MOST_FIGURES)))
    {t_ROUND:Tok}
    (a_ROUND:PySem.W.nsIn K mainGlobals "ROUND" = some (some (.int 4294967296 t_ROUND)))
    {p_NAMES:Addr} {t0_NAMES t1_NAMES t2_NAMES t3_NAMES t4_NAMES t5_NAMES t6_NAMES t7_NAMES t8_NAMES t9_NAMES t10_NAMES:Tok} {od_NAMES:Option Addr} {z_NAMES:Nat} {sl_NAMES:Array (Option Value)}
    (a_NAMES:PySem.W.nsIn K mainGlobals "NAMES" = some (some (.ref p_NAMES)))
    (l_NAMES:K.lookup p_NAMES = some ⟨.type "tuple",od_NAMES,.seq #[.str ⟨w_and.toArray⟩ t0_NAMES,.str ⟨w_or.toArray⟩ t1_NAMES,.str ⟨w_not.toArray⟩ t2_NAMES,.str ⟨w_so.toArray⟩ t3_NAMES,.str ⟨w_len.toArray⟩ t4_NAMES,.str ⟨w_byte.toArray⟩ t5_NAMES,.str ⟨w_half.toArray⟩ t6_NAMES,.str ⟨w_word.toArray⟩ t7_NAMES,.str ⟨w_rest.toArray⟩ t8_NAMES,.str ⟨w_true.toArray⟩ t9_NAMES,.str ⟨w_false.toArray⟩ t10_NAMES] z_NAMES,sl_NAMES⟩)
    {p_SIGNS:Addr} {t0_SIGNS t1_SIGNS t2_SIGNS t3_SIGNS t4_SIGNS t5_SIGNS t6_SIGNS t7_SIGNS t8_SIGNS t9_SIGNS t10_SIGNS t11_SIGNS t12_SIGNS t13_SIGNS:Tok} {od_SIGNS:Option Addr} {z_SIGNS:Nat} {sl_SIGNS:Array (Option Value)}
    (a_SIGNS:PySem.W.nsIn K mainGlobals "SIGNS" = some (some (.ref p_SIGNS)))
    (l_SIGNS:K.lookup p_SIGNS = some ⟨.type "tuple",od_SIGNS,.seq #[.str ⟨w39.toArray⟩ t0_SIGNS,.str ⟨w40.toArray⟩ t1_SIGNS,.str ⟨w37.toArray⟩ t2_SIGNS,.str ⟨w43.toArray⟩ t3_SIGNS,.str ⟨w44.toArray⟩ t4_SIGNS,.str ⟨w45.toArray⟩ t5_SIGNS,.str ⟨w46.toArray⟩ t6_SIGNS,.str ⟨w47.toArray⟩ t7_SIGNS,.str ⟨w48.toArray⟩ t8_SIGNS,.str ⟨w49.toArray⟩ t9_SIGNS,.str ⟨w53.toArray⟩ t10_SIGNS,.str ⟨w54.toArray⟩ t11_SIGNS,.str ⟨w35.toArray⟩ t12_SIGNS,.str ⟨w36.toArray⟩ t13_SIGNS] z_SIGNS,sl_SIGNS⟩)
    {t_MOST_WITHIN:Tok}
    (a_MOST_WITHIN:PySem.W.nsIn K mainGlobals "MOST_WITHIN" = some (some (.int 12 t_MOST_WITHIN)))
    {p_SUM_OPS:Addr} {ep_SUM_OPS:Nat} {k0_SUM_OPS k1_SUM_OPS k2_SUM_OPS k3_SUM_OPS v0_SUM_OPS v1_SUM_OPS v2_SUM_OPS v3_SUM_OPS:Tok}
    (a_SUM_OPS:PySem.W.nsIn K mainGlobals "SUM_OPS" = some (some (.ref p_SUM_OPS)))
    (l_SUM_OPS:K.lookup p_SUM_OPS = some ⟨.type "dict",none,.dict #[⟨PyData.keyHash w.params ⟨w43.toArray⟩,.str ⟨w43.toArray⟩ k0_SUM_OPS,.str ⟨w_plus.toArray⟩ v0_SUM_OPS⟩,⟨PyData.keyHash w.params ⟨w44.toArray⟩,.str ⟨w44.toArray⟩ k1_SUM_OPS,.str ⟨w_minus.toArray⟩ v1_SUM_OPS⟩,⟨PyData.keyHash w.params ⟨w48.toArray⟩,.str ⟨w48.toArray⟩ k2_SUM_OPS,.str ⟨w_or.toArray⟩ v2_SUM_OPS⟩,⟨PyData.keyHash w.params ⟨w49.toArray⟩,.str ⟨w49.toArray⟩ k3_SUM_OPS,.str ⟨w_xor.toArray⟩ v3_SUM_OPS⟩] ep_SUM_OPS,#[]⟩)
    (h_SUM_OPS:(p_SUM_OPS == sysModules) = false)
    {p_PRODUCT_OPS:Addr} {ep_PRODUCT_OPS:Nat} {k0_PRODUCT_OPS k1_PRODUCT_OPS k2_PRODUCT_OPS k3_PRODUCT_OPS k4_PRODUCT_OPS k5_PRODUCT_OPS v0_PRODUCT_OPS v1_PRODUCT_OPS v2_PRODUCT_OPS v3_PRODUCT_OPS v4_PRODUCT_OPS v5_PRODUCT_OPS:Tok}
    (a_PRODUCT_OPS:PySem.W.nsIn K mainGlobals "PRODUCT_OPS" = some (some (.ref p_PRODUCT_OPS)))
    (l_PRODUCT_OPS:K.lookup p_PRODUCT_OPS = some ⟨.type "dict",none,.dict #[⟨PyData.keyHash w.params ⟨w45.toArray⟩,.str ⟨w45.toArray⟩ k0_PRODUCT_OPS,.str ⟨w_times.toArray⟩ v0_PRODUCT_OPS⟩,⟨PyData.keyHash w.params ⟨w46.toArray⟩,.str ⟨w46.toArray⟩ k1_PRODUCT_OPS,.str ⟨w_over.toArray⟩ v1_PRODUCT_OPS⟩,⟨PyData.keyHash w.params ⟨w_rest.toArray⟩,.str ⟨w_rest.toArray⟩ k2_PRODUCT_OPS,.str ⟨w_rest.toArray⟩ v2_PRODUCT_OPS⟩,⟨PyData.keyHash w.params ⟨w47.toArray⟩,.str ⟨w47.toArray⟩ k3_PRODUCT_OPS,.str ⟨w_and.toArray⟩ v3_PRODUCT_OPS⟩,⟨PyData.keyHash w.params ⟨w50.toArray⟩,.str ⟨w50.toArray⟩ k4_PRODUCT_OPS,.str ⟨w_left.toArray⟩ v4_PRODUCT_OPS⟩,⟨PyData.keyHash w.params ⟨w51.toArray⟩,.str ⟨w51.toArray⟩ k5_PRODUCT_OPS,.str ⟨w_right.toArray⟩ v5_PRODUCT_OPS⟩] ep_PRODUCT_OPS,#[]⟩)
    (h_PRODUCT_OPS:(p_PRODUCT_OPS == sysModules) = false)
    {p_LOAD_SIZES:Addr} {ep_LOAD_SIZES:Nat} {k0_LOAD_SIZES k1_LOAD_SIZES k2_LOAD_SIZES v0_LOAD_SIZES v1_LOAD_SIZES v2_LOAD_SIZES:Tok}
    (a_LOAD_SIZES:PySem.W.nsIn K mainGlobals "LOAD_SIZES" = some (some (.ref p_LOAD_SIZES)))
    (l_LOAD_SIZES:K.lookup p_LOAD_SIZES = some ⟨.type "dict",none,.dict #[⟨PyData.keyHash w.params ⟨w_byte.toArray⟩,.str ⟨w_byte.toArray⟩ k0_LOAD_SIZES,.int 1 v0_LOAD_SIZES⟩,⟨PyData.keyHash w.params ⟨w_half.toArray⟩,.str ⟨w_half.toArray⟩ k1_LOAD_SIZES,.int 2 v1_LOAD_SIZES⟩,⟨PyData.keyHash w.params ⟨w_word.toArray⟩,.str ⟨w_word.toArray⟩ k2_LOAD_SIZES,.int 4 v2_LOAD_SIZES⟩] ep_LOAD_SIZES,#[]⟩)
    (h_LOAD_SIZES:(p_LOAD_SIZES == sysModules) = false)
    {p_COMPARISONS:Addr} {ep_COMPARISONS:Nat} {k0_COMPARISONS k1_COMPARISONS k2_COMPARISONS k3_COMPARISONS k4_COMPARISONS k5_COMPARISONS v0_COMPARISONS v1_COMPARISONS v2_COMPARISONS v3_COMPARISONS v4_COMPARISONS v5_COMPARISONS:Tok}
    (a_COMPARISONS:PySem.W.nsIn K mainGlobals "COMPARISONS" = some (some (.ref p_COMPARISONS)))
    (l_COMPARISONS:K.lookup p_COMPARISONS = some ⟨.type "dict",none,.dict #[⟨PyData.keyHash w.params ⟨w37.toArray⟩,.str ⟨w37.toArray⟩ k0_COMPARISONS,.str ⟨w_same.toArray⟩ v0_COMPARISONS⟩,⟨PyData.keyHash w.params ⟨w38.toArray⟩,.str ⟨w38.toArray⟩ k1_COMPARISONS,.str ⟨w_unlike.toArray⟩ v1_COMPARISONS⟩,⟨PyData.keyHash w.params ⟨w39.toArray⟩,.str ⟨w39.toArray⟩ k2_COMPARISONS,.str ⟨w_below.toArray⟩ v2_COMPARISONS⟩,⟨PyData.keyHash w.params ⟨w40.toArray⟩,.str ⟨w40.toArray⟩ k3_COMPARISONS,.str ⟨w_above.toArray⟩ v3_COMPARISONS⟩,⟨PyData.keyHash w.params ⟨w41.toArray⟩,.str ⟨w41.toArray⟩ k4_COMPARISONS,.str ⟨w_most.toArray⟩ v4_COMPARISONS⟩,⟨PyData.keyHash w.params ⟨w42.toArray⟩,.str ⟨w42.toArray⟩ k5_COMPARISONS,.str ⟨w_least.toArray⟩ v5_COMPARISONS⟩] ep_COMPARISONS,#[]⟩)
    (h_COMPARISONS:(p_COMPARISONS == sysModules) = false)
    {q_Reader:Addr}
    (a_Reader:PySem.W.nsIn K mainGlobals "Reader" = some (some (.ref q_Reader)))
    (p1_Reader:PySem.W.plainGet K q_Reader Str.empty = true)
    (p2_Reader:PySem.W.hasDictIn K q_Reader = true)
    (p3_Reader:PySem.W.plainOver K q_Reader = true)
    (p4_Reader:PySem.W.findIn K (.ref q_Reader) "__setattr__" = some (some (.builtin "object.__setattr__")))
    (na_Reader_words:PySem.W.findIn K (.ref q_Reader) "words" = some none)
    (na_Reader_place:PySem.W.findIn K (.ref q_Reader) "place" = some none)
    {q_p_Reader__init__:Addr} {oc_p_Reader__init__ kV_p_Reader__init__ dc_p_Reader__init__ pm_p_Reader__init__ cd_p_Reader__init__ ct_p_Reader__init__:Value} {od_p_Reader__init__ an_p_Reader__init__:Option Addr} {os_p_Reader__init__:Array (Option Value)}
    (i_p_Reader__init__:PySem.W.findIn K (.ref q_Reader) "__init__" = some (some (.ref q_p_Reader__init__)))
    (l_p_Reader__init__:K.lookup q_p_Reader__init__ = some ⟨oc_p_Reader__init__,od_p_Reader__init__,.func (PySem.W.fnOf "__init__" "Reader.__init__" (defArgs s_p_Reader__init__) (defBody s_p_Reader__init__) (defScope s_p_Reader__init__) .none kV_p_Reader__init__ dc_p_Reader__init__ pm_p_Reader__init__ an_p_Reader__init__ cd_p_Reader__init__ ct_p_Reader__init__),os_p_Reader__init__⟩)
    (c_p_Reader__init__:PySem.W.codeIn K cd_p_Reader__init__ "Reader.__init__" = true)
    (k_p_Reader__init__:PySem.W.keepIn K (.ref q_p_Reader__init__) = true)
    (m1_p_Reader__init__:PySem.W.makesIn K q_Reader = true)
    (m2_p_Reader__init__:PySem.W.isFn K (.ref q_p_Reader__init__) = true)
    (m3_p_Reader__init__:PySem.W.keepIn K (.ref q_Reader) = true)
    {q_m_Reader_ahead:Addr} {oc_m_Reader_ahead kV_m_Reader_ahead dc_m_Reader_ahead pm_m_Reader_ahead cd_m_Reader_ahead ct_m_Reader_ahead:Value} {od_m_Reader_ahead an_m_Reader_ahead:Option Addr} {os_m_Reader_ahead:Array (Option Value)}
    (i_m_Reader_ahead:PySem.W.findIn K (.ref q_Reader) "ahead" = some (some (.ref q_m_Reader_ahead)))
    (l_m_Reader_ahead:K.lookup q_m_Reader_ahead = some ⟨oc_m_Reader_ahead,od_m_Reader_ahead,.func (PySem.W.fnOf "ahead" "Reader.ahead" (defArgs s_m_Reader_ahead) (defBody s_m_Reader_ahead) (defScope s_m_Reader_ahead) .none kV_m_Reader_ahead dc_m_Reader_ahead pm_m_Reader_ahead an_m_Reader_ahead cd_m_Reader_ahead ct_m_Reader_ahead),os_m_Reader_ahead⟩)
    (c_m_Reader_ahead:PySem.W.codeIn K cd_m_Reader_ahead "Reader.ahead" = true)
    (k_m_Reader_ahead:PySem.W.keepIn K (.ref q_m_Reader_ahead) = true)
    (m2_m_Reader_ahead:PySem.W.isFn K (.ref q_m_Reader_ahead) = true)
    {q_m_Reader_step_over:Addr} {oc_m_Reader_step_over kV_m_Reader_step_over dc_m_Reader_step_over pm_m_Reader_step_over cd_m_Reader_step_over ct_m_Reader_step_over:Value} {od_m_Reader_step_over an_m_Reader_step_over:Option Addr} {os_m_Reader_step_over:Array (Option Value)}
    (i_m_Reader_step_over:PySem.W.findIn K (.ref q_Reader) "step_over" = some (some (.ref q_m_Reader_step_over)))
    (l_m_Reader_step_over:K.lookup q_m_Reader_step_over = some ⟨oc_m_Reader_step_over,od_m_Reader_step_over,.func (PySem.W.fnOf "step_over" "Reader.step_over" (defArgs s_m_Reader_step_over) (defBody s_m_Reader_step_over) (defScope s_m_Reader_step_over) .none kV_m_Reader_step_over dc_m_Reader_step_over pm_m_Reader_step_over an_m_Reader_step_over cd_m_Reader_step_over ct_m_Reader_step_over),os_m_Reader_step_over⟩)
    (c_m_Reader_step_over:PySem.W.codeIn K cd_m_Reader_step_over "Reader.step_over" = true)
    (k_m_Reader_step_over:PySem.W.keepIn K (.ref q_m_Reader_step_over) = true)
    (m2_m_Reader_step_over:PySem.W.isFn K (.ref q_m_Reader_step_over) = true)
    {q_m_Reader_refuse:Addr} {oc_m_Reader_refuse kV_m_Reader_refuse dc_m_Reader_refuse pm_m_Reader_refuse cd_m_Reader_refuse ct_m_Reader_refuse:Value} {od_m_Reader_refuse an_m_Reader_refuse:Option Addr} {os_m_Reader_refuse:Array (Option Value)}
    (i_m_Reader_refuse:PySem.W.findIn K (.ref q_Reader) "refuse" = some (some (.ref q_m_Reader_refuse)))
    (l_m_Reader_refuse:K.lookup q_m_Reader_refuse = some ⟨oc_m_Reader_refuse,od_m_Reader_refuse,.func (PySem.W.fnOf "refuse" "Reader.refuse" (defArgs s_m_Reader_refuse) (defBody s_m_Reader_refuse) (defScope s_m_Reader_refuse) .none kV_m_Reader_refuse dc_m_Reader_refuse pm_m_Reader_refuse an_m_Reader_refuse cd_m_Reader_refuse ct_m_Reader_refuse),os_m_Reader_refuse⟩)
    (c_m_Reader_refuse:PySem.W.codeIn K cd_m_Reader_refuse "Reader.refuse" = true)
    (k_m_Reader_refuse:PySem.W.keepIn K (.ref q_m_Reader_refuse) = true)
    (m2_m_Reader_refuse:PySem.W.isFn K (.ref q_m_Reader_refuse) = true)
    {q_m_Reader_step_into:Addr} {oc_m_Reader_step_into kV_m_Reader_step_into dc_m_Reader_step_into pm_m_Reader_step_into cd_m_Reader_step_into ct_m_Reader_step_into:Value} {od_m_Reader_step_into an_m_Reader_step_into:Option Addr} {os_m_Reader_step_into:Array (Option Value)}
    (i_m_Reader_step_into:PySem.W.findIn K (.ref q_Reader) "step_into" = some (some (.ref q_m_Reader_step_into)))
    (l_m_Reader_step_into:K.lookup q_m_Reader_step_into = some ⟨oc_m_Reader_step_into,od_m_Reader_step_into,.func (PySem.W.fnOf "step_into" "Reader.step_into" (defArgs s_m_Reader_step_into) (defBody s_m_Reader_step_into) (defScope s_m_Reader_step_into) .none kV_m_Reader_step_into dc_m_Reader_step_into pm_m_Reader_step_into an_m_Reader_step_into cd_m_Reader_step_into ct_m_Reader_step_into),os_m_Reader_step_into⟩)
    (c_m_Reader_step_into:PySem.W.codeIn K cd_m_Reader_step_into "Reader.step_into" = true)
    (k_m_Reader_step_into:PySem.W.keepIn K (.ref q_m_Reader_step_into) = true)
    (m2_m_Reader_step_into:PySem.W.isFn K (.ref q_m_Reader_step_into) = true)
    {q_m_Reader_expect:Addr} {oc_m_Reader_expect kV_m_Reader_expect dc_m_Reader_expect pm_m_Reader_expect cd_m_Reader_expect ct_m_Reader_expect:Value} {od_m_Reader_expect an_m_Reader_expect:Option Addr} {os_m_Reader_expect:Array (Option Value)}
    (i_m_Reader_expect:PySem.W.findIn K (.ref q_Reader) "expect" = some (some (.ref q_m_Reader_expect)))
    (l_m_Reader_expect:K.lookup q_m_Reader_expect = some ⟨oc_m_Reader_expect,od_m_Reader_expect,.func (PySem.W.fnOf "expect" "Reader.expect" (defArgs s_m_Reader_expect) (defBody s_m_Reader_expect) (defScope s_m_Reader_expect) .none kV_m_Reader_expect dc_m_Reader_expect pm_m_Reader_expect an_m_Reader_expect cd_m_Reader_expect ct_m_Reader_expect),os_m_Reader_expect⟩)
    (c_m_Reader_expect:PySem.W.codeIn K cd_m_Reader_expect "Reader.expect" = true)
    (k_m_Reader_expect:PySem.W.keepIn K (.ref q_m_Reader_expect) = true)
    (m2_m_Reader_expect:PySem.W.isFn K (.ref q_m_Reader_expect) = true)
    {q_m_Reader_expect_end:Addr} {oc_m_Reader_expect_end kV_m_Reader_expect_end dc_m_Reader_expect_end pm_m_Reader_expect_end cd_m_Reader_expect_end ct_m_Reader_expect_end:Value} {od_m_Reader_expect_end an_m_Reader_expect_end:Option Addr} {os_m_Reader_expect_end:Array (Option Value)}
    (i_m_Reader_expect_end:PySem.W.findIn K (.ref q_Reader) "expect_end" = some (some (.ref q_m_Reader_expect_end)))
    (l_m_Reader_expect_end:K.lookup q_m_Reader_expect_end = some ⟨oc_m_Reader_expect_end,od_m_Reader_expect_end,.func (PySem.W.fnOf "expect_end" "Reader.expect_end" (defArgs s_m_Reader_expect_end) (defBody s_m_Reader_expect_end) (defScope s_m_Reader_expect_end) .none kV_m_Reader_expect_end dc_m_Reader_expect_end pm_m_Reader_expect_end an_m_Reader_expect_end cd_m_Reader_expect_end ct_m_Reader_expect_end),os_m_Reader_expect_end⟩)
    (c_m_Reader_expect_end:PySem.W.codeIn K cd_m_Reader_expect_end "Reader.expect_end" = true)
    (k_m_Reader_expect_end:PySem.W.keepIn K (.ref q_m_Reader_expect_end) = true)
    (m2_m_Reader_expect_end:PySem.W.isFn K (.ref q_m_Reader_expect_end) = true)
    (d_cell:DFact K "_law_cell" s_cell)
    (d_mix:DFact K "_law_mix" s_mix)
    (d_op:DFact K "_law_op" s_op)
    (d_number:DFact K "_law_number" s_number)
    (d_truth:DFact K "_law_truth" s_truth)
    (d_text:DFact K "_law_text" s_text)
    (d_sign:DFact K "_law_sign" s_sign)
    (d_told:DFact K "_law_told" s_told)
    (d_inner:DFact K "_law_inner" s_inner)
    (d_p_end_of_figures:DFact K "end_of_figures" s_p_end_of_figures)
    (d_p_end_of_letters:DFact K "end_of_letters" s_p_end_of_letters)
    (d_p_end_of_word:DFact K "end_of_word" s_p_end_of_word)
    (d_p_is_whole:DFact K "is_whole" s_p_is_whole)
    (d_p_is_number:DFact K "is_number" s_p_is_number)
    (d_p_number_of:DFact K "number_of" s_p_number_of)
    (d_p_word_of:DFact K "word_of" s_p_word_of)
    (d_p_words_of:DFact K "words_of" s_p_words_of)
    (d_p_read_sum:DFact K "read_sum" s_p_read_sum)
    (d_p_read_product:DFact K "read_product" s_p_read_product)
    (d_p_read_plain:DFact K "read_plain" s_p_read_plain)
    (d_p_read_load:DFact K "read_load" s_p_read_load)
    (d_p_read_bracket:DFact K "read_bracket" s_p_read_bracket)
    (d_p_read_comparison:DFact K "read_comparison" s_p_read_comparison)
    (d_p_read_filter:DFact K "read_filter" s_p_read_filter)
    (d_p_read_tests:DFact K "read_tests" s_p_read_tests)
    (d_p_read_test:DFact K "read_test" s_p_read_test)
    (d_p_read_so:DFact K "read_so" s_p_read_so)
    (d_p_read:DFact K "read" s_p_read)
    (d_law:DFact K "law" s_law):Tx w K mg :=
  ⟨PySem.W.mg_none_of KX G n_len,
   PySem.W.mg_none_of KX G n_range,
   PySem.W.mg_none_of KX G n_str,
   PySem.W.mg_none_of KX G n_int,
   PySem.W.mg_none_of KX G n_isinstance,
   PySem.W.mg_none_of KX G n_bool,
   PySem.W.mg_none_of KX G n_tuple,
   const_tup (vs:=[.str ⟨w50.toArray⟩,.str ⟨w51.toArray⟩,.str ⟨w41.toArray⟩,.str ⟨w42.toArray⟩,.str ⟨w38.toArray⟩]) KX G a_LONG_SIGNS l_LONG_SIGNS (by show 5 ≤ 16777216; decide) (.cons ⟨_,rfl⟩ (.cons ⟨_,rfl⟩ (.cons ⟨_,rfl⟩ (.cons ⟨_,rfl⟩ (.cons ⟨_,rfl⟩ .nil))))) (fun F α => (reps_cons (by unfold Rep; rfl) (reps_cons (by unfold Rep; rfl) (reps_cons (by unfold Rep; rfl) (reps_cons (by unfold Rep; rfl) (reps_cons (by unfold Rep; rfl) reps_nil)))))),
   const_int KX G a_MOST_FIGURES,
   const_int KX G a_ROUND,
   const_tup (vs:=[.str ⟨w_and.toArray⟩,.str ⟨w_or.toArray⟩,.str ⟨w_not.toArray⟩,.str ⟨w_so.toArray⟩,.str ⟨w_len.toArray⟩,.str ⟨w_byte.toArray⟩,.str ⟨w_half.toArray⟩,.str ⟨w_word.toArray⟩,.str ⟨w_rest.toArray⟩,.str ⟨w_true.toArray⟩,.str ⟨w_false.toArray⟩]) KX G a_NAMES l_NAMES (by show 11 ≤ 16777216; decide) (.cons ⟨_,rfl⟩ (.cons ⟨_,rfl⟩ (.cons ⟨_,rfl⟩ (.cons ⟨_,rfl⟩ (.cons ⟨_,rfl⟩ (.cons ⟨_,rfl⟩ (.cons ⟨_,rfl⟩ (.cons ⟨_,rfl⟩ (.cons ⟨_,rfl⟩ (.cons ⟨_,rfl⟩ (.cons ⟨_,rfl⟩ .nil))))))))))) (fun F α => (reps_cons (by unfold Rep; rfl) (reps_cons (by unfold Rep; rfl) (reps_cons (by unfold Rep; rfl) (reps_cons (by unfold Rep; rfl) (reps_cons (by unfold Rep; rfl) (reps_cons (by unfold Rep; rfl) (reps_cons (by unfold Rep; rfl) (reps_cons (by unfold Rep; rfl) (reps_cons (by unfold Rep; rfl) (reps_cons (by unfold Rep; rfl) (reps_cons (by unfold Rep; rfl) reps_nil)))))))))))),
   const_tup (vs:=[.str ⟨w39.toArray⟩,.str ⟨w40.toArray⟩,.str ⟨w37.toArray⟩,.str ⟨w43.toArray⟩,.str ⟨w44.toArray⟩,.str ⟨w45.toArray⟩,.str ⟨w46.toArray⟩,.str ⟨w47.toArray⟩,.str ⟨w48.toArray⟩,.str ⟨w49.toArray⟩,.str ⟨w53.toArray⟩,.str ⟨w54.toArray⟩,.str ⟨w35.toArray⟩,.str ⟨w36.toArray⟩]) KX G a_SIGNS l_SIGNS (by show 14 ≤ 16777216; decide) (.cons ⟨_,rfl⟩ (.cons ⟨_,rfl⟩ (.cons ⟨_,rfl⟩ (.cons ⟨_,rfl⟩ (.cons ⟨_,rfl⟩ (.cons ⟨_,rfl⟩ (.cons ⟨_,rfl⟩ (.cons ⟨_,rfl⟩ (.cons ⟨_,rfl⟩ (.cons ⟨_,rfl⟩ (.cons ⟨_,rfl⟩ (.cons ⟨_,rfl⟩ (.cons ⟨_,rfl⟩ (.cons ⟨_,rfl⟩ .nil)))))))))))))) (fun F α => (reps_cons (by unfold Rep; rfl) (reps_cons (by unfold Rep; rfl) (reps_cons (by unfold Rep; rfl) (reps_cons (by unfold Rep; rfl) (reps_cons (by unfold Rep; rfl) (reps_cons (by unfold Rep; rfl) (reps_cons (by unfold Rep; rfl) (reps_cons (by unfold Rep; rfl) (reps_cons (by unfold Rep; rfl) (reps_cons (by unfold Rep; rfl) (reps_cons (by unfold Rep; rfl) (reps_cons (by unfold Rep; rfl) (reps_cons (by unfold Rep; rfl) (reps_cons (by unfold Rep; rfl) reps_nil))))))))))))))),
   const_int KX G a_MOST_WITHIN,
   dict_mkV [(w43,k0_SUM_OPS,.str ⟨w_plus.toArray⟩ v0_SUM_OPS,.str ⟨w_plus.toArray⟩),(w44,k1_SUM_OPS,.str ⟨w_minus.toArray⟩ v1_SUM_OPS,.str ⟨w_minus.toArray⟩),(w48,k2_SUM_OPS,.str ⟨w_or.toArray⟩ v2_SUM_OPS,.str ⟨w_or.toArray⟩),(w49,k3_SUM_OPS,.str ⟨w_xor.toArray⟩ v3_SUM_OPS,.str ⟨w_xor.toArray⟩)] KX G a_SUM_OPS l_SUM_OPS h_SUM_OPS (show ([w43,w44,w48,w49]:List (List Nat)).Nodup by decide) rfl (List.forall_mem_cons.mpr ⟨⟨_,rfl⟩,(List.forall_mem_cons.mpr ⟨⟨_,rfl⟩,(List.forall_mem_cons.mpr ⟨⟨_,rfl⟩,(List.forall_mem_cons.mpr ⟨⟨_,rfl⟩,(fun _ z => nomatch z)⟩)⟩)⟩)⟩) (fun F α => (reps_cons (by unfold Rep; rfl) (reps_cons (by unfold Rep; rfl) (reps_cons (by unfold Rep; rfl) (reps_cons (by unfold Rep; rfl) reps_nil))))),
   dict_mkV [(w45,k0_PRODUCT_OPS,.str ⟨w_times.toArray⟩ v0_PRODUCT_OPS,.str ⟨w_times.toArray⟩),(w46,k1_PRODUCT_OPS,.str ⟨w_over.toArray⟩ v1_PRODUCT_OPS,.str ⟨w_over.toArray⟩),(w_rest,k2_PRODUCT_OPS,.str ⟨w_rest.toArray⟩ v2_PRODUCT_OPS,.str ⟨w_rest.toArray⟩),(w47,k3_PRODUCT_OPS,.str ⟨w_and.toArray⟩ v3_PRODUCT_OPS,.str ⟨w_and.toArray⟩),(w50,k4_PRODUCT_OPS,.str ⟨w_left.toArray⟩ v4_PRODUCT_OPS,.str ⟨w_left.toArray⟩),(w51,k5_PRODUCT_OPS,.str ⟨w_right.toArray⟩ v5_PRODUCT_OPS,.str ⟨w_right.toArray⟩)] KX G a_PRODUCT_OPS l_PRODUCT_OPS h_PRODUCT_OPS (show ([w45,w46,w_rest,w47,w50,w51]:List (List Nat)).Nodup by decide) rfl (List.forall_mem_cons.mpr ⟨⟨_,rfl⟩,(List.forall_mem_cons.mpr ⟨⟨_,rfl⟩,(List.forall_mem_cons.mpr ⟨⟨_,rfl⟩,(List.forall_mem_cons.mpr ⟨⟨_,rfl⟩,(List.forall_mem_cons.mpr ⟨⟨_,rfl⟩,(List.forall_mem_cons.mpr ⟨⟨_,rfl⟩,(fun _ z => nomatch z)⟩)⟩)⟩)⟩)⟩)⟩) (fun F α => (reps_cons (by unfold Rep; rfl) (reps_cons (by unfold Rep; rfl) (reps_cons (by unfold Rep; rfl) (reps_cons (by unfold Rep; rfl) (reps_cons (by unfold Rep; rfl) (reps_cons (by unfold Rep; rfl) reps_nil))))))),
   dict_mkV [(w_byte,k0_LOAD_SIZES,.int 1 v0_LOAD_SIZES,.int 1),(w_half,k1_LOAD_SIZES,.int 2 v1_LOAD_SIZES,.int 2),(w_word,k2_LOAD_SIZES,.int 4 v2_LOAD_SIZES,.int 4)] KX G a_LOAD_SIZES l_LOAD_SIZES h_LOAD_SIZES (show ([w_byte,w_half,w_word]:List (List Nat)).Nodup by decide) rfl (List.forall_mem_cons.mpr ⟨⟨_,rfl⟩,(List.forall_mem_cons.mpr ⟨⟨_,rfl⟩,(List.forall_mem_cons.mpr ⟨⟨_,rfl⟩,(fun _ z => nomatch z)⟩)⟩)⟩) (fun F α => (reps_cons (by unfold Rep; rfl) (reps_cons (by unfold Rep; rfl) (reps_cons (by unfold Rep; rfl) reps_nil)))),
   dict_mkV [(w37,k0_COMPARISONS,.str ⟨w_same.toArray⟩ v0_COMPARISONS,.str ⟨w_same.toArray⟩),(w38,k1_COMPARISONS,.str ⟨w_unlike.toArray⟩ v1_COMPARISONS,.str ⟨w_unlike.toArray⟩),(w39,k2_COMPARISONS,.str ⟨w_below.toArray⟩ v2_COMPARISONS,.str ⟨w_below.toArray⟩),(w40,k3_COMPARISONS,.str ⟨w_above.toArray⟩ v3_COMPARISONS,.str ⟨w_above.toArray⟩),(w41,k4_COMPARISONS,.str ⟨w_most.toArray⟩ v4_COMPARISONS,.str ⟨w_most.toArray⟩),(w42,k5_COMPARISONS,.str ⟨w_least.toArray⟩ v5_COMPARISONS,.str ⟨w_least.toArray⟩)] KX G a_COMPARISONS l_COMPARISONS h_COMPARISONS (show ([w37,w38,w39,w40,w41,w42]:List (List Nat)).Nodup by decide) rfl (List.forall_mem_cons.mpr ⟨⟨_,rfl⟩,(List.forall_mem_cons.mpr ⟨⟨_,rfl⟩,(List.forall_mem_cons.mpr ⟨⟨_,rfl⟩,(List.forall_mem_cons.mpr ⟨⟨_,rfl⟩,(List.forall_mem_cons.mpr ⟨⟨_,rfl⟩,(List.forall_mem_cons.mpr ⟨⟨_,rfl⟩,(fun _ z => nomatch z)⟩)⟩)⟩)⟩)⟩)⟩) (fun F α => (reps_cons (by unfold Rep; rfl) (reps_cons (by unfold Rep; rfl) (reps_cons (by unfold Rep; rfl) (reps_cons (by unfold Rep; rfl) (reps_cons (by unfold Rep; rfl) (reps_cons (by unfold Rep; rfl) reps_nil))))))),
   (by show mg _ = _; rw [cA_of a_Reader]; exact PySem.W.mg_of KX G a_Reader),
   (by rw [cA_of a_Reader]; exact ⟨p1_Reader,p2_Reader,p3_Reader,p4_Reader⟩),
   (by rw [cA_of a_Reader]; exact na_Reader_words),
   (by rw [cA_of a_Reader]; exact na_Reader_place),
   ⟨q_p_Reader__init__,_,by rw [cA_of a_Reader]; exact PySem.W.mg_of KX G a_Reader,by rw [cA_of a_Reader]; exact ⟨m1_p_Reader__init__,i_p_Reader__init__,m2_p_Reader__init__,m3_p_Reader__init__⟩,fun_mk (st:=s_p_Reader__init__) l_p_Reader__init__ c_p_Reader__init__ k_p_Reader__init__,fun us hl => by obtain ⟨_,_,rfl⟩:=len_2 hl; rfl⟩,
   ⟨q_m_Reader_ahead,_,by rw [cA_of a_Reader]; exact ⟨p1_Reader,p2_Reader,p3_Reader,p4_Reader⟩,by rw [cA_of a_Reader]; exact ⟨i_m_Reader_ahead,m2_m_Reader_ahead,k_m_Reader_ahead⟩,fun_mk (st:=s_m_Reader_ahead) l_m_Reader_ahead c_m_Reader_ahead k_m_Reader_ahead,fun us hl => by obtain ⟨_,rfl⟩:=len_1 hl; rfl⟩,
   ⟨q_m_Reader_step_over,_,by rw [cA_of a_Reader]; exact ⟨p1_Reader,p2_Reader,p3_Reader,p4_Reader⟩,by rw [cA_of a_Reader]; exact ⟨i_m_Reader_step_over,m2_m_Reader_step_over,k_m_Reader_step_over⟩,fun_mk (st:=s_m_Reader_step_over) l_m_Reader_step_over c_m_Reader_step_over k_m_Reader_step_over,fun us hl => by obtain ⟨_,rfl⟩:=len_1 hl; rfl⟩,
   ⟨q_m_Reader_refuse,_,by rw [cA_of a_Reader]; exact ⟨p1_Reader,p2_Reader,p3_Reader,p4_Reader⟩,by rw [cA_of a_Reader]; exact ⟨i_m_Reader_refuse,m2_m_Reader_refuse,k_m_Reader_refuse⟩,fun_mk (st:=s_m_Reader_refuse) l_m_Reader_refuse c_m_Reader_refuse k_m_Reader_refuse,fun us hl => by obtain ⟨_,rfl⟩:=len_1 hl; rfl⟩,
   ⟨q_m_Reader_step_into,_,by rw [cA_of a_Reader]; exact ⟨p1_Reader,p2_Reader,p3_Reader,p4_Reader⟩,by rw [cA_of a_Reader]; exact ⟨i_m_Reader_step_into,m2_m_Reader_step_into,k_m_Reader_step_into⟩,fun_mk (st:=s_m_Reader_step_into) l_m_Reader_step_into c_m_Reader_step_into k_m_Reader_step_into,fun us hl => by obtain ⟨_,_,rfl⟩:=len_2 hl; rfl⟩,
   ⟨q_m_Reader_expect,_,by rw [cA_of a_Reader]; exact ⟨p1_Reader,p2_Reader,p3_Reader,p4_Reader⟩,by rw [cA_of a_Reader]; exact ⟨i_m_Reader_expect,m2_m_Reader_expect,k_m_Reader_expect⟩,fun_mk (st:=s_m_Reader_expect) l_m_Reader_expect c_m_Reader_expect k_m_Reader_expect,fun us hl => by obtain ⟨_,_,rfl⟩:=len_2 hl; rfl⟩,
   ⟨q_m_Reader_expect_end,_,by rw [cA_of a_Reader]; exact ⟨p1_Reader,p2_Reader,p3_Reader,p4_Reader⟩,by rw [cA_of a_Reader]; exact ⟨i_m_Reader_expect_end,m2_m_Reader_expect_end,k_m_Reader_expect_end⟩,fun_mk (st:=s_m_Reader_expect_end) l_m_Reader_expect_end c_m_Reader_expect_end k_m_Reader_expect_end,fun us hl => by obtain ⟨_,rfl⟩:=len_1 hl; rfl⟩,
   def_of KX G d_cell (fun _ _ _ _ _ _ _ _ => by walk_at "bs"),
   def_of KX G d_mix (fun _ _ _ _ _ _ _ _ => by walk_at "bs"),
   def_of KX G d_op (fun _ _ _ _ _ _ _ _ => by walk_at "bs"),
   def_of KX G d_number (fun _ _ _ _ _ _ _ _ => by walk_at "bs"),
   def_of KX G d_truth (fun _ _ _ _ _ _ _ _ => by walk_at "bs"),
   def_of KX G d_text (fun _ _ _ _ _ _ _ _ => by walk_at "bs"),
   def_of KX G d_sign (fun _ _ _ _ _ _ _ _ => by walk_at "bs"),
   def_of KX G d_told (fun _ _ _ _ _ _ _ _ => by walk_at "bs"),
   def_of KX G d_inner (fun _ _ _ _ _ _ _ _ => by walk_at "bs"),
   def_of KX G d_p_end_of_figures (fun _ _ _ _ _ _ _ _ => by walk_at "bs"),
   def_of KX G d_p_end_of_letters (fun _ _ _ _ _ _ _ _ => by walk_at "bs"),
   def_of KX G d_p_end_of_word (fun _ _ _ _ _ _ _ _ => by walk_at "bs"),
   def_of KX G d_p_is_whole (fun _ _ _ _ _ _ _ _ => by walk_at "bs"),
   def_of KX G d_p_is_number (fun _ _ _ _ _ _ _ _ => by walk_at "bs"),
   def_of KX G d_p_number_of (fun _ _ _ _ _ _ _ _ => by walk_at "bs"),
   def_of KX G d_p_word_of (fun _ _ _ _ _ _ _ _ => by walk_at "bs"),
   def_of KX G d_p_words_of (fun _ _ _ _ _ _ _ _ => by walk_at "bs"),
   def_of KX G d_p_read_sum (fun _ _ _ _ _ _ _ _ => by walk_at "bs"),
   def_of KX G d_p_read_product (fun _ _ _ _ _ _ _ _ => by walk_at "bs"),
   def_of KX G d_p_read_plain (fun _ _ _ _ _ _ _ _ => by walk_at "bs"),
   def_of KX G d_p_read_load (fun _ _ _ _ _ _ _ _ => by walk_at "bs"),
   def_of KX G d_p_read_bracket (fun _ _ _ _ _ _ _ _ => by walk_at "bs"),
   def_of KX G d_p_read_comparison (fun _ _ _ _ _ _ _ _ => by walk_at "bs"),
   def_of KX G d_p_read_filter (fun _ _ _ _ _ _ _ _ => by walk_at "bs"),
   def_of KX G d_p_read_tests (fun _ _ _ _ _ _ _ _ => by walk_at "bs"),
   def_of KX G d_p_read_test (fun _ _ _ _ _ _ _ _ => by walk_at "bs"),
   def_of KX G d_p_read_so (fun _ _ _ _ _ _ _ _ => by walk_at "bs"),
   def_of KX G d_p_read (fun _ _ _ _ _ _ _ _ => by walk_at "bs"),
   def_of KX G d_law (fun _ _ _ _ _ _ _ _ => by walk_at "bs")⟩
end
end K10
set_option Elab.async false
set_option linter.all false
set_option maxRecDepth 100000
set_option maxHeartbeats 400000
namespace K10
open PySem PySem.Spec PyProof.Rows L2 M NumText
theorem rng_take {x:List Nat}:∀ (m lo:Nat),lo + m ≤ x.length → (List.range' lo m).filterMap (fun i => x[i]?) = (x.drop lo).take m
  | 0,lo,_ => by simp
  | m + 1,lo,h => by
    rw [List.range'_succ,List.filterMap_cons,List.getElem?_eq_getElem (by omega:lo < x.length),rng_take m (lo + 1) (by omega),List.drop_eq_getElem_cons (by omega:lo < x.length)]
    rfl
theorem idx_eq (a b n:Nat) (h:a ≤ b):Builtin.Str.strSliceIndices (some (a:Int)) (some (b:Int)) 1 n = List.range' (min a n) (min b n - min a n):=by
  unfold Builtin.Str.strSliceIndices sliceRange
  simp only [show (1:Int) > 0 by decide,if_true]
  simp only [show ¬ ((a:Int) < 0) by omega,show ¬ ((b:Int) < 0) by omega,if_false]
  have e1:max 0 (min (a:Int) (n:Int)) = ((min a n:Nat):Int):=by omega
  have e2:max 0 (min (b:Int) (n:Int)) = ((min b n:Nat):Int):=by omega
  rw [e1,e2]
  have e3:((if ((min a n:Nat):Int) < ((min b n:Nat):Int) then (((min b n:Nat):Int) - ((min a n:Nat):Int) + 1 - 1) / 1 else 0:Int)).toNat = min b n - min a n:=by
    split <;> omega
  rw [e3,List.range'_eq_map_range]
  refine List.map_congr_left fun k _ => ?_
  omega
theorem slice_eq (x:List Nat) (a b:Nat) (h:a ≤ b):(Txt.slice (mkS x) (some (a:Int)) (some (b:Int))).cps.toList = (x.drop a).take (b - a):=by
  have hn:(mkS x).length = x.length:=by simp [Str.length]
  have key:((Builtin.Str.strSliceIndices (some (a:Int)) (some (b:Int)) 1 x.length).filterMap fun i => x[i]?) = (x.drop a).take (b - a):=by
    rw [idx_eq a b x.length h,rng_take _ _ (by omega)]
    by_cases ha:a ≤ x.length
    · rw [Nat.min_eq_left ha]
      by_cases hb:b ≤ x.length
      · rw [Nat.min_eq_left hb]
      · rw [Nat.min_eq_right (by omega),List.take_of_length_le (by simp),List.take_of_length_le (by simp; omega)]
    · rw [show min a x.length = x.length by omega,List.drop_eq_nil_of_le (Nat.le_refl _),List.drop_eq_nil_of_le (by omega)]
      simp
  unfold Txt.slice
  rw [hn]
  split
  · rename_i hc
    rw [← key]
    simp only [Bool.and_eq_true,beq_iff_eq] at hc
    have hc:=hc.2
    rw [idx_eq a b x.length h,List.length_range'] at hc
    rw [idx_eq a b x.length h,rng_take _ _ (by omega),show min b x.length - min a x.length = x.length by omega]
    by_cases hx:x = []
    · subst hx; simp
    · have:0 < x.length:=List.length_pos_iff.mpr hx
      rw [show min a x.length = 0 by omega]
      simp
  · show ((Builtin.Str.strSliceIndices _ _ 1 x.length).filterMap fun i => x.toArray[i]?) = _
    simpa using key
noncomputable def dig (c:Nat):Bool:=decide (48 ≤ c) && decide (c ≤ 57)
noncomputable def alp (c:Nat):Bool:=(decide (65 ≤ c) && decide (c ≤ 90)) || (decide (97 ≤ c) && decide (c ≤ 122))
theorem asc_d:∀ c < 128,Unicode.isDigit c = dig c:=by decide +kernel
theorem asc_a:∀ c < 128,Unicode.isAlpha c = alp c:=by decide +kernel
theorem isd {c:Nat} (h:c < 128):gIsdigit (.str [c]) = some (.bl (dig c)):=by
  show some (D.bl (Txt.isdigit ⟨#[c]⟩)) = _
  rw [← asc_d c h]
  simp [Txt.isdigit,Str.length]
theorem isa {c:Nat} (h:c < 128):gIsalpha (.str [c]) = some (.bl (alp c)):=by
  show some (D.bl (Txt.isalpha ⟨#[c]⟩)) = _
  rw [← asc_a c h]
  simp [Txt.isalpha,Str.length]
theorem v_mth0 {g:D → Option D} {mo:MX} {ρ:En} {μ:Mu} {x:List Nat} {d:D} (h1:mo ρ μ = .ok (.str x) μ) (h3:g (.str x) = some d):mMth0 g mo ρ μ = .ok d μ:=by
  unfold mMth0
  rw [h1,bind_ok]
  show ofO μ (g (.str x)) = _
  rw [h3]
  rfl
structure Tx0 (x:List Nat):Prop where
  asc:∀ c ∈ x,c < 128
  len:x.length ≤ 390
section
variable {x:List Nat} (hx:Tx0 x) {ρ:En} {μ:Mu}
include hx
theorem ch_at {p c:Nat} {m:MX} (h0:ρ[0]? = some (some (.str x))) (h1:m ρ μ = .ok (.int (p:Nat)) μ) (h:x[p]? = some c):mBin gIdx (mVar 0) m ρ μ = .ok (.str [c]) μ:=by
  refine v_bin (v_var 0 h0) h1 ?_
  show (if x.length ≤ 16777216 then (atI x (p:Int)).map fun c => D.str [c] else none) = _
  rw [if_pos (by have:=hx.len; omega),atI_pos (by omega),Int.toNat_natCast,h]
  rfl
theorem len_at (h0:ρ[0]? = some (some (.str x))):mCallB gLen (mCons (mVar 0) mNil) ρ μ = .ok (.int (x.length:Nat)) μ:=by
  refine v_callB (v_cons (v_var 0 h0) v_nil) ?_
  show (if x.length ≤ 16777216 then some (D.int x.length) else none) = _
  rw [if_pos (by have:=hx.len; omega)]
theorem lt_at {p:Nat} {m:MX} (h0:ρ[0]? = some (some (.str x))) (h1:m ρ μ = .ok (.int (p:Nat)) μ):mTest (mBin gLt m (mCallB gLen (mCons (mVar 0) mNil))) ρ μ = .ok (decide (p < x.length)) μ:=by
  refine v_test (v_bin h1 (len_at hx h0) ?_)
  show some (D.bl (decide ((p:Int) < (x.length:Int)))) = _
  by_cases z:p < x.length
  · rw [decide_eq_true z,decide_eq_true (by omega)]
  · rw [decide_eq_false z,decide_eq_false (by omega)]
end
theorem run_loop {x:List Nat} (hx:Tx0 x) {g:D → Option D} {q:Nat → Bool} (hg:∀ c < 128,g (.str [c]) = some (.bl (q c))) {μ:Mu} {e1:Option D}:∀ (w r pre:List Nat),x = pre ++ w ++ r → (∀ c ∈ w,q c = true) → (∀ c,r.head? = some c → q c = false) → ∀ fuel,w.length < fuel →
    whGo (mAnd (mTest (mBin gLt (mVar 2) (mCallB gLen (mCons (mVar 0) mNil)))) (mTru (mMth0 g (mBin gIdx (mVar 0) (mVar 2))))) (mAug 2 (mC (.int 1))) fuel [some (.str x),e1,some (.int (pre.length:Nat))] μ = .ok (.nx [some (.str x),e1,some (.int ((pre.length + w.length:Nat):Int))]) μ
  | [],r,pre,hxe,_,hr,0,hf => absurd hf (by simp)
  | [],r,pre,hxe,_,hr,fuel + 1,hf => by
    have ht:mAnd (mTest (mBin gLt (mVar 2) (mCallB gLen (mCons (mVar 0) mNil)))) (mTru (mMth0 g (mBin gIdx (mVar 0) (mVar 2)))) [some (.str x),e1,some (.int (pre.length:Nat))] μ = .ok false μ:=by
      have l1:=lt_at hx (ρ:=[some (.str x),e1,some (.int (pre.length:Nat))]) (μ:=μ) (p:=pre.length) (m:=mVar 2) rfl rfl
      cases r with
      | nil =>
        rw [decide_eq_false (by rw [hxe]; simp)] at l1
        exact v_andF l1
      | cons c r =>
        rw [decide_eq_true (by rw [hxe]; simp)] at l1
        have hc:c < 128:=hx.asc c (by rw [hxe]; simp)
        have hq:=hr c rfl
        refine (v_andT l1).trans (v_tru (d:=.bl false) (v_mth0 (ch_at hx rfl rfl (p:=pre.length) (c:=c) (by rw [hxe]; simp)) ?_) rfl)
        rw [hg c hc,hq]
    unfold whGo
    rw [ht]
    rfl
  | c :: w,r,pre,hxe,hw,hr,0,hf => absurd hf (by simp)
  | c :: w,r,pre,hxe,hw,hr,fuel + 1,hf => by
    obtain ⟨h1,h2⟩:=List.forall_mem_cons.mp hw
    have ht:mAnd (mTest (mBin gLt (mVar 2) (mCallB gLen (mCons (mVar 0) mNil)))) (mTru (mMth0 g (mBin gIdx (mVar 0) (mVar 2)))) [some (.str x),e1,some (.int (pre.length:Nat))] μ = .ok true μ:=by
      have l1:=lt_at hx (ρ:=[some (.str x),e1,some (.int (pre.length:Nat))]) (μ:=μ) (p:=pre.length) (m:=mVar 2) rfl rfl
      rw [decide_eq_true (by rw [hxe]; simp)] at l1
      have hc:c < 128:=hx.asc c (by rw [hxe]; simp)
      refine (v_andT l1).trans (v_tru (d:=.bl true) (v_mth0 (ch_at hx rfl rfl (p:=pre.length) (c:=c) (by rw [hxe]; simp)) ?_) rfl)
      rw [hg c hc,h1]
    have ih:=run_loop hx hg (μ:=μ) (e1:=e1) w r (pre ++ [c]) (by rw [hxe]; simp) h2 hr fuel (by simpa using hf)
    unfold whGo
    rw [ht]
    have eb:mAug 2 (mC (.int 1)) [some (.str x),e1,some (.int (pre.length:Nat))] μ = .ok (.nx [some (.str x),e1,some (.int ((pre.length:Int) + 1))]) μ:=rfl
    rw [bind_ok,if_pos rfl,eb]
    show whGo _ _ fuel [some (.str x),e1,some (.int ((pre.length:Int) + 1))] μ = _
    have e2:(pre.length:Int) + 1 = (((pre ++ [c]).length:Nat):Int):=by simp
    rw [e2,ih]
    congr 5
    simp
    omega
end K10
set_option Elab.async false
set_option linter.all false
set_option maxRecDepth 100000
set_option maxHeartbeats 400000
namespace K10
open PySem PySem.Spec PyProof.Rows L2 M NumText
noncomputable def longL:List (List Nat):=[[60,60],[62,62],[60,61],[62,61],[33,61]]
noncomputable def sgnL:List (List Nat):=[[60],[62],[61],[43],[45],[42],[47],[38],[124],[94],[40],[41],[91],[93]]
noncomputable def nmL:List (List Nat):=[w_and,w_or,w_not,w_so,w_len,w_byte,w_half,w_word,w_rest,w_true,w_false]
theorem str_plain {x:List Nat} (h:∀ c ∈ x,c < 128):plainD (.str x) = true:=by
  show (x.all fun c => decide (c < 0x110000)) = true
  rw [List.all_eq_true]
  exact fun c hc => decide_eq_true (by have:=h c hc; omega)
theorem in_L {x:List Nat} (hx:∀ c ∈ x,c < 128) {L:List (List Nat)} (hL:plainDs (L.map .str) = true):gIn (.str x) (.tup (L.map .str)) = some (.bl (decide (x ∈ L))):=by
  show (if inOk (.str x) (L.map .str) = true then some (D.bl (inD (.str x) (L.map .str))) else none) = _
  have h1:inOk (.str x) (L.map .str) = true:=by
    unfold inOk
    rw [str_plain hx,hL]
    rfl
  rw [if_pos h1]
  congr 2
  unfold inD
  rw [List.any_map,Bool.eq_iff_iff,List.any_eq_true,decide_eq_true_eq]
  exact ⟨fun ⟨y,hy,e⟩ => by have e:(y == x) = true:=e; rw [← eq_of_beq e]; exact hy,fun h => ⟨x,h,by show (x == x) = true; exact beq_self_eq_true x⟩⟩
theorem ne_c {c d:Nat} (hc:c < 128) (hd:d < 128):gNe (.str [c]) (.str [d]) = some (.bl (!decide (c = d))):=by
  have h1:plainD (.str [c]) = true:=str_plain fun e he => by rw [List.mem_singleton.mp he]; exact hc
  have h2:plainD (.str [d]) = true:=str_plain fun e he => by rw [List.mem_singleton.mp he]; exact hd
  unfold gNe cmpOk
  rw [h1,h2]
  show some (D.bl (!([c] == [d]))) = _
  congr 2
  by_cases z:c = d
  · subst z; simp
  · simp [z]
inductive Tk:List Nat → List Nat → Prop
  | fig {w r:List Nat}:w ≠ [] → (∀ c ∈ w,dig c = true) → (∀ c,r.head? = some c → dig c = false) → Tk w r
  | alp {w r:List Nat}:w ≠ [] → (∀ c ∈ w,alp c = true) → (∀ c,r.head? = some c → alp c = false) → Tk w r
  | two {w r:List Nat}:w ∈ longL → Tk w r
  | one {c:Nat} {r:List Nat}:dig c = false → alp c = false → c :: r.take 1 ∉ longL → Tk [c] r
theorem not_da {c:Nat} (h:alp c = true):dig c = false:=by
  unfold alp at h
  unfold dig
  simp only [Bool.or_eq_true,Bool.and_eq_true,decide_eq_true_eq] at h
  rcases h with h | h
  · rw [decide_eq_true (by omega:48 ≤ c),decide_eq_false (by omega:¬ c ≤ 57)]; rfl
  · rw [decide_eq_true (by omega:48 ≤ c),decide_eq_false (by omega:¬ c ≤ 57)]; rfl
section
variable {x:List Nat} (hx:Tx0 x) {μ:Mu}
include hx
theorem end_run {g:D → Option D} {q:Nat → Bool} {b:MSt} (hb:b = mSeq (mSet 2 (mVar 1)) (mSeq (mWhile 400 (mAnd (mTest (mBin gLt (mVar 2) (mCallB gLen (mCons (mVar 0) mNil)))) (mTru (mMth0 g (mBin gIdx (mVar 0) (mVar 2))))) (mAug 2 (mC (.int 1)))) (mRet (mVar 2)))) (hg:∀ c < 128,g (.str [c]) = some (.bl (q c)))
    (w r pre:List Nat) (e:x = pre ++ w ++ r) (hw:∀ c ∈ w,q c = true) (hr:∀ c,r.head? = some c → q c = false):fnOf 1 b [.str x,.int (pre.length:Nat)] μ = .ok (.int ((pre.length + w.length:Nat):Int)) μ:=by
  subst hb
  have hl:w.length < 400:=by have:=hx.len; rw [e,List.length_append,List.length_append] at this; omega
  refine v_fn 1 ((v_set 2 rfl).trans ((v_seqN (ρ1:=[some (.str x),some (.int (pre.length:Nat)),some (.int ((pre.length + w.length:Nat):Int))]) ?_).trans (v_ret (v_var 2 rfl))))
  exact run_loop hx hg (μ:=μ) (e1:=some (.int (pre.length:Nat))) w r pre e hw hr 400 hl
theorem end_eq {w r pre:List Nat} (e:x = pre ++ w ++ r) (h:Tk w r):f_p_end_of_word [.str x,.int (pre.length:Nat)] μ = .ok (.int ((pre.length + w.length:Nat):Int)) μ:=by
  have first:∀ {c:Nat} {w':List Nat},w = c :: w' → c < 128 ∧ (∀ {g:D → Option D} {k:Bool},g (.str [c]) = some (.bl k) → mTru (mMth0 g (mBin gIdx (mVar 0) (mVar 1))) [some (.str x),some (.int (pre.length:Nat))] μ = .ok k μ):=fun {c w'} hw => by
    have hc:c < 128:=hx.asc c (by rw [e,hw]; simp)
    exact ⟨hc,fun {g k} hg => v_tru (d:=.bl k) (v_mth0 (ch_at hx rfl rfl (p:=pre.length) (c:=c) (by rw [e,hw]; simp)) hg) rfl⟩
  have sl:mSlT (mVar 0) (mPart (mVar 1)) (mPart (mBin gAdd (mVar 1) (mC (.int 2)))) [some (.str x),some (.int (pre.length:Nat))] μ = .ok (.str ((w ++ r).take 2)) μ:=by
    show ofO μ (if x.length ≤ 16777215 then some (D.str (Txt.slice (mkS x) (some (pre.length:Int)) (some ((pre.length:Int) + 2))).cps.toList) else none) = _
    rw [if_pos (by have:=hx.len; omega),show (pre.length:Int) + 2 = ((pre.length + 2:Nat):Int) by omega,slice_eq x _ _ (by omega),e,List.append_assoc,List.drop_left,Nat.add_sub_cancel_left]
    rfl
  have asc2:∀ c ∈ (w ++ r).take 2,c < 128:=fun c hc => hx.asc c (by rw [e,List.append_assoc]; exact List.mem_append_right _ (List.mem_of_mem_take hc))
  have tl:mTest (mBin gIn (mSlT (mVar 0) (mPart (mVar 1)) (mPart (mBin gAdd (mVar 1) (mC (.int 2))))) (mC c_LONG_SIGNS)) [some (.str x),some (.int (pre.length:Nat))] μ = .ok (decide ((w ++ r).take 2 ∈ longL)) μ:=v_test (v_bin sl rfl (in_L asc2 (L:=longL) (by decide)))
  cases h with
  | fig hn ha hr =>
    cases w with
    | nil => exact absurd rfl hn
    | cons c w' =>
      obtain ⟨hc,hf⟩:=first rfl
      exact v_fn 0 (v_take (hf ((isd hc).trans (by rw [ha c List.mem_cons_self]))) (v_call rfl (end_run hx rfl (fun c h => isd h) (c :: w') r pre e ha hr)))
  | alp hn ha hr =>
    cases w with
    | nil => exact absurd rfl hn
    | cons c w' =>
      obtain ⟨hc,hf⟩:=first rfl
      have h1:=ha c List.mem_cons_self
      exact v_fn 0 ((v_skip (hf ((isd hc).trans (by rw [not_da h1])))).trans (v_take (hf ((isa hc).trans (by rw [h1]))) (v_call rfl (end_run hx rfl (fun c h => isa h) (c :: w') r pre e ha hr))))
  | two hm =>
    have h2:∀ v ∈ longL,∃ c d,v = [c,d] ∧ dig c = false ∧ alp c = false:=by
      simp only [longL,List.forall_mem_cons,List.not_mem_nil,false_implies,implies_true,and_true]
      exact ⟨⟨_,_,rfl,rfl,rfl⟩,⟨_,_,rfl,rfl,rfl⟩,⟨_,_,rfl,rfl,rfl⟩,⟨_,_,rfl,rfl,rfl⟩,⟨_,_,rfl,rfl,rfl⟩⟩
    obtain ⟨c,d,rfl,hd,ha⟩:=h2 w hm
    obtain ⟨hc,hf⟩:=first rfl
    rw [show ([c,d] ++ r).take 2 = [c,d] by simp,decide_eq_true hm] at tl
    refine v_fn 0 ((v_skip (hf ((isd hc).trans (by rw [hd])))).trans ((v_skip (hf ((isa hc).trans (by rw [ha])))).trans (v_take tl (v_bin rfl rfl ?_))))
    show some (D.int ((pre.length:Int) + 2)) = _
    rfl
  | one hd ha hm =>
    rename_i c
    obtain ⟨hc,hf⟩:=first rfl
    rw [show ([c] ++ r).take 2 = c :: r.take 1 by simp,decide_eq_false hm] at tl
    refine v_fn 0 ((v_skip (hf ((isd hc).trans (by rw [hd])))).trans ((v_skip (hf ((isa hc).trans (by rw [ha])))).trans ((v_skip tl).trans (v_ret (v_bin rfl rfl ?_)))))
    show some (D.int ((pre.length:Int) + 1)) = _
    rfl
end
theorem ch_lt (i j:Int) (ρ:En) (μ:Mu) (ma mb mc:MX) (h1:ma ρ μ = .ok (.int 0) μ) (h2:mb ρ μ = .ok (.int i) μ) (h3:mc ρ μ = .ok (.int j) μ):mChain gLe gLt ma mb mc ρ μ = .ok (.bl (decide (0 ≤ i) && decide (i < j))) μ:=by
  rw [e_ch,h1,bind_ok,e_ch1,h2,bind_ok,e_ch2,deref_int,deref_int,g_le]
  by_cases h:0 ≤ i
  · simp only [h,decide_true,Bool.true_and,Option.bind_some]
    show Res.bind (.ok true μ) _ = _
    rw [bind_ok,e_ch3t,h3,bind_ok]
    rfl
  · simp only [h,decide_false,Bool.false_and]
    rfl
noncomputable def nm (x:List Nat):D:=if 10 < x.length then .non else if digitsVal x < 4294967296 then .int (digitsVal x:Nat) else .non
theorem isnum (n:Int) (μ:Mu):f_p_is_number [.int n] μ = .ok (.bl (decide (0 ≤ n) && decide (n < 4294967296))) μ:=v_fn 0 (v_ret ((v_andVT rfl).trans (ch_lt n 4294967296 _ _ _ _ _ rfl rfl rfl)))
theorem numof {x:List Nat} (h:∀ c ∈ x,48 ≤ c ∧ c ≤ 57) (hn:x ≠ []) (hl:x.length ≤ 640) (μ:Mu):f_p_number_of [.str x] μ = .ok (nm x) μ:=by
  have e0:mCallB gLen (mCons (mVar 0) mNil) [some (.str x),none] μ = .ok (.int x.length) μ:=v_callB (v_cons rfl v_nil) (by show (if x.length ≤ 16777216 then some (D.int x.length) else none) = _; rw [if_pos (by omega)])
  have e1:mTest (mBin gGt (mCallB gLen (mCons (mVar 0) mNil)) (mC c_MOST_FIGURES)) [some (.str x),none] μ = .ok (decide (10 < x.length)) μ:=v_test (v_bin e0 rfl (by
    show some (D.bl (decide ((10:Int) < (x.length:Int)))) = _
    by_cases z:10 < x.length
    · rw [decide_eq_true z,decide_eq_true (by omega)]
    · rw [decide_eq_false z,decide_eq_false (by omega)]))
  unfold nm
  by_cases h10:10 < x.length
  · rw [decide_eq_true h10] at e1
    rw [if_pos h10]
    exact v_fn 1 (v_take e1 rfl)
  · rw [decide_eq_false h10] at e1
    rw [if_neg h10]
    have e2:mCallB gIntT (mCons (mVar 0) mNil) [some (.str x),none] μ = .ok (.int (digitsVal x:Nat)) μ:=v_callB (v_cons rfl v_nil) (by
      show (if x.length ≤ 640 then (PySem.intText? (mkS x)).map D.int else none) = _
      rw [if_pos hl,intText_digits (x:=mkS x) h hn (by show x.toArray.size ≤ 4300; rw [List.size_toArray]; omega)]
      rfl)
    refine v_fn 1 ((v_skip e1).trans ((v_set 1 e2).trans (v_ret ?_)))
    have e3:mTru (mCall f_p_is_number (mCons (mVar 1) mNil)) [some (.str x),some (.int (digitsVal x:Nat))] μ = .ok (decide (0 ≤ ((digitsVal x:Nat):Int)) && decide (((digitsVal x:Nat):Int) < 4294967296)) μ:=v_tru (v_call (v_cons rfl v_nil) (isnum _ μ)) rfl
    rw [decide_eq_true (show 0 ≤ ((digitsVal x:Nat):Int) by omega),Bool.true_and] at e3
    by_cases h32:digitsVal x < 4294967296
    · rw [decide_eq_true (by omega)] at e3
      rw [if_pos h32]
      exact v_ifT e3
    · rw [decide_eq_false (by omega)] at e3
      rw [if_neg h32]
      exact v_ifF e3
noncomputable def wd (w:List Nat):D:=if (w.head?.any dig) = true then nm w else if w ∈ nmL ∨ w ∈ longL ∨ w ∈ sgnL then .str w else .non
theorem word_eq {w r:List Nat} (h:Tk w r) (hw:∀ c ∈ w,c < 128) (hl:w.length ≤ 390) (μ:Mu):f_p_word_of [.str w] μ = .ok (wd w) μ:=by
  obtain ⟨c,w',rfl⟩:∃ c w',w = c :: w':=by
    cases h with
    | one => exact ⟨_,_,rfl⟩
    | two hm => revert hm; revert w; intro w _ _ hm; cases w with
      | nil => exact absurd hm (by decide)
      | cons a b => exact ⟨a,b,rfl⟩
    | fig hn => cases w with
      | nil => exact absurd rfl hn
      | cons a b => exact ⟨a,b,rfl⟩
    | alp hn => cases w with
      | nil => exact absurd rfl hn
      | cons a b => exact ⟨a,b,rfl⟩
  have hc:=hw c List.mem_cons_self
  have t1:mTru (mMth0 gIsdigit (mBin gIdx (mVar 0) (mC (.int 0)))) [some (.str (c :: w'))] μ = .ok (dig c) μ:=v_tru (d:=.bl (dig c)) (v_mth0 (ch_at ⟨hw,hl⟩ rfl (p:=0) rfl rfl) (isd hc)) rfl
  unfold wd
  show _ = Res.ok (if dig c = true then _ else _) μ
  by_cases hd:dig c = true
  · rw [if_pos hd]
    rw [hd] at t1
    have hall:∀ d ∈ c :: w',48 ≤ d ∧ d ≤ 57:=by
      cases h with
      | fig _ ha _ =>
        intro d hd2
        have:=ha d hd2
        simpa [dig] using this
      | alp _ ha _ => rw [not_da (ha c List.mem_cons_self)] at hd; cases hd
      | two hm =>
        have:∀ v ∈ longL,v.head?.any dig = false:=by decide
        have:=this _ hm
        rw [show (c :: w').head?.any dig = dig c from rfl,hd] at this
        cases this
      | one h1 _ _ => rw [h1] at hd; cases hd
    exact v_fn 0 (v_take t1 (v_call rfl (numof hall (by simp) (by omega) μ)))
  · rw [if_neg hd]
    rw [show dig c = false by cases hq:dig c <;> simp_all] at t1
    have i1:mTest (mBin gIn (mVar 0) (mC c_NAMES)) [some (.str (c :: w'))] μ = .ok (decide ((c :: w') ∈ nmL)) μ:=v_test (v_bin rfl rfl (in_L hw (L:=nmL) (by decide)))
    have i2:mTest (mBin gIn (mVar 0) (mC c_LONG_SIGNS)) [some (.str (c :: w'))] μ = .ok (decide ((c :: w') ∈ longL)) μ:=v_test (v_bin rfl rfl (in_L hw (L:=longL) (by decide)))
    have i3:mTest (mBin gIn (mVar 0) (mC c_SIGNS)) [some (.str (c :: w'))] μ = .ok (decide ((c :: w') ∈ sgnL)) μ:=v_test (v_bin rfl rfl (in_L hw (L:=sgnL) (by decide)))
    by_cases z1:(c :: w') ∈ nmL
    · rw [if_pos (.inl z1)]
      rw [decide_eq_true z1] at i1
      exact v_fn 0 ((v_skip t1).trans (v_take (v_orT i1) rfl))
    · rw [decide_eq_false z1] at i1
      by_cases z2:(c :: w') ∈ longL
      · rw [if_pos (.inr (.inl z2))]
        rw [decide_eq_true z2] at i2
        exact v_fn 0 ((v_skip t1).trans (v_take ((v_orF i1).trans (v_orT i2)) rfl))
      · rw [decide_eq_false z2] at i2
        by_cases z3:(c :: w') ∈ sgnL
        · rw [if_pos (.inr (.inr z3))]
          rw [decide_eq_true z3] at i3
          exact v_fn 0 ((v_skip t1).trans (v_take ((v_orF i1).trans ((v_orF i2).trans i3)) rfl))
        · rw [if_neg (fun z => z.elim z1 fun z => z.elim z2 z3)]
          rw [decide_eq_false z3] at i3
          exact v_fn 0 ((v_skip t1).trans ((v_skip ((v_orF i1).trans ((v_orF i2).trans i3))).trans (v_ret rfl)))
end K10
set_option Elab.async false
set_option linter.all false
set_option maxRecDepth 100000
set_option maxHeartbeats 400000
namespace K10
open PySem PySem.Spec PyProof.Rows L2 M NumText
theorem at_last {μ0:Mu} {c:Cell}:(μ0 ++ [c])[μ0.length]? = some c:=by
  rw [List.getElem?_append_right (Nat.le_refl _),Nat.sub_self]
  rfl
theorem set_last {μ0:Mu} {c d:Cell}:(μ0 ++ [c]).set μ0.length d = μ0 ++ [d]:=by
  rw [List.set_append_right _ _ (Nat.le_refl _),Nat.sub_self]
  rfl
theorem v_app {mo m:MX} {ρ:En} {μ0:Mu} {L:List D} {y:D} (ho:mo ρ (μ0 ++ [.lst L]) = .ok (.ref μ0.length) (μ0 ++ [.lst L])) (hm:m ρ (μ0 ++ [.lst L]) = .ok y (μ0 ++ [.lst L])) (hl:L.length < 16777216):mDrop (mAppend mo m) ρ (μ0 ++ [.lst L]) = .ok (.nx ρ) (μ0 ++ [.lst (L ++ [y])]):=by
  have e:mAppend mo m ρ (μ0 ++ [.lst L]) = .ok .non (μ0 ++ [.lst (L ++ [y])]):=by
    unfold mAppend
    rw [ho,bind_ok,show deref (μ0 ++ [.lst L]) (.ref μ0.length) = .lst L by unfold deref; dsimp only; rw [at_last],if_pos (show isLst (.lst L) = true from rfl),hm,bind_ok]
    unfold appC
    dsimp only
    rw [at_last]
    dsimp only
    rw [if_pos hl,set_last]
  unfold mDrop
  rw [e]
  rfl
inductive Lx:List Nat → List D → Prop
  | nil:Lx [] []
  | sp {r:List Nat} {ds:List D}:Lx r ds → Lx (32 :: r) ds
  | wd {w r:List Nat} {ds:List D}:Tk w r → (∀ c,w.head? = some c → c ≠ 32) → Lx r ds → Lx (w ++ r) (wd w :: ds)
theorem tk_ne {w r:List Nat} (h:Tk w r):∃ c w',w = c :: w':=by
  cases h with
  | one => exact ⟨_,_,rfl⟩
  | two hm => cases w with
    | nil => exact absurd hm (by decide)
    | cons a b => exact ⟨a,b,rfl⟩
  | fig hn => cases w with
    | nil => exact absurd rfl hn
    | cons a b => exact ⟨a,b,rfl⟩
  | alp hn => cases w with
    | nil => exact absurd rfl hn
    | cons a b => exact ⟨a,b,rfl⟩
noncomputable abbrev wT:MB:=mTest (mBin gLt (mVar 2) (mCallB gLen (mCons (mVar 0) mNil)))
theorem words_loop {x:List Nat} (hx:Tx0 x) {μ0:Mu} {r:List Nat} {ds:List D} (h:Lx r ds):∀ (pre:List Nat) (acc:List D) (e3:Option D) (fuel:Nat),x = pre ++ r → r.length < fuel → acc.length + r.length < 1000 →
    ∃ y3,whGo wT l_p_words_of_1 fuel [some (.str x),some (.ref μ0.length),some (.int (pre.length:Nat)),e3] (μ0 ++ [.lst acc]) = .ok (.nx [some (.str x),some (.ref μ0.length),some (.int (x.length:Nat)),y3]) (μ0 ++ [.lst (acc ++ ds)]):=by
  induction h with
  | nil =>
    intro pre acc e3 fuel e hf _
    obtain ⟨fuel,rfl⟩:∃ k,fuel = k + 1:=⟨fuel - 1,by simp at hf; omega⟩
    have l1:wT [some (.str x),some (.ref μ0.length),some (.int (pre.length:Nat)),e3] (μ0 ++ [.lst acc]) = .ok (decide (pre.length < x.length)) (μ0 ++ [.lst acc]):=lt_at hx (p:=pre.length) (m:=mVar 2) rfl rfl
    rw [decide_eq_false (by rw [e]; simp)] at l1
    refine ⟨e3,?_⟩
    unfold whGo
    rw [l1,List.append_nil]
    rw [show x.length = pre.length by rw [e]; simp]
    rfl
  | @sp r ds _ ih =>
    intro pre acc e3 fuel e hf ha
    obtain ⟨fuel,rfl⟩:∃ k,fuel = k + 1:=⟨fuel - 1,by simp at hf; omega⟩
    have l1:wT [some (.str x),some (.ref μ0.length),some (.int (pre.length:Nat)),e3] (μ0 ++ [.lst acc]) = .ok (decide (pre.length < x.length)) (μ0 ++ [.lst acc]):=lt_at hx (p:=pre.length) (m:=mVar 2) rfl rfl
    rw [decide_eq_true (by rw [e]; simp)] at l1
    have hk:Tk [32] r:=.one rfl rfl (by
      intro z
      cases r with
      | nil => exact absurd z (by decide)
      | cons c r => simp [longL] at z)
    have e4:=end_eq hx (μ:=μ0 ++ [.lst acc]) (pre:=pre) (w:=[32]) (r:=r) (by rw [e]; simp) hk
    obtain ⟨y3,ih⟩:=ih (pre ++ [32]) acc (some (.int ((pre.length + 1:Nat):Int))) fuel (by rw [e]; simp) (by simpa using hf) (by simp at ha; omega)
    refine ⟨y3,?_⟩
    have eb:l_p_words_of_1 [some (.str x),some (.ref μ0.length),some (.int (pre.length:Nat)),e3] (μ0 ++ [.lst acc]) = .ok (.nx [some (.str x),some (.ref μ0.length),some (.int ((pre.length + 1:Nat):Int)),some (.int ((pre.length + 1:Nat):Int))]) (μ0 ++ [.lst acc]) :=
      (v_set 3 (v_call rfl e4)).trans ((v_skip (v_test (v_bin (ch_at hx rfl rfl (p:=pre.length) (c:=32) (by rw [e]; simp)) rfl (ne_c (by decide) (by decide))))).trans rfl)
    unfold whGo
    rw [l1,bind_ok,if_pos rfl,eb]
    have e5:pre.length + 1 = (pre ++ [32]).length:=by simp
    show whGo _ _ fuel [some (.str x),some (.ref μ0.length),some (.int ((pre.length + 1:Nat):Int)),some (.int ((pre.length + 1:Nat):Int))] _ = _
    rw [e5] at ih ⊢
    exact ih
  | @wd w r ds hk h32 _ ih =>
    intro pre acc e3 fuel e hf ha
    obtain ⟨c,w',rfl⟩:=tk_ne hk
    obtain ⟨fuel,rfl⟩:∃ k,fuel = k + 1:=⟨fuel - 1,by simp at hf; omega⟩
    have hc:c < 128:=hx.asc c (by rw [e]; simp)
    have l1:wT [some (.str x),some (.ref μ0.length),some (.int (pre.length:Nat)),e3] (μ0 ++ [.lst acc]) = .ok (decide (pre.length < x.length)) (μ0 ++ [.lst acc]):=lt_at hx (p:=pre.length) (m:=mVar 2) rfl rfl
    rw [decide_eq_true (by rw [e]; simp)] at l1
    have e4:=end_eq hx (μ:=μ0 ++ [.lst acc]) (pre:=pre) (w:=c :: w') (r:=r) (by rw [e]; simp) hk
    obtain ⟨y3,ih⟩:=ih (pre ++ (c :: w')) (acc ++ [wd (c :: w')]) (some (.int ((pre.length + (c :: w').length:Nat):Int))) fuel (by rw [e]; simp) (by simp at hf; omega) (by simp at ha ⊢; omega)
    refine ⟨y3,?_⟩
    have hlen:(c :: w').length ≤ 390:=by have:=hx.len; rw [e] at this; simp at this ⊢; omega
    have hw:=word_eq hk (fun d hd => hx.asc d (by rw [e]; exact List.mem_append_right _ (List.mem_append_left _ hd))) hlen (μ0 ++ [.lst acc])
    have sl:mSlT (mVar 0) (mPart (mVar 2)) (mPart (mVar 3)) [some (.str x),some (.ref μ0.length),some (.int (pre.length:Nat)),some (.int ((pre.length + (c :: w').length:Nat):Int))] (μ0 ++ [.lst acc]) = .ok (.str (c :: w')) (μ0 ++ [.lst acc]):=by
      show ofO _ (if x.length ≤ 16777215 then some (D.str (Txt.slice (mkS x) (some (pre.length:Int)) (some ((pre.length + (c :: w').length:Nat):Int))).cps.toList) else none) = _
      rw [if_pos (by have:=hx.len; omega),slice_eq x _ _ (by omega),e,List.drop_left,Nat.add_sub_cancel_left,List.take_left]
      rfl
    have eb:l_p_words_of_1 [some (.str x),some (.ref μ0.length),some (.int (pre.length:Nat)),e3] (μ0 ++ [.lst acc]) = .ok (.nx [some (.str x),some (.ref μ0.length),some (.int ((pre.length + (c :: w').length:Nat):Int)),some (.int ((pre.length + (c :: w').length:Nat):Int))]) (μ0 ++ [.lst (acc ++ [wd (c :: w')])]):=by
      have t1:mTest (mBin gNe (mBin gIdx (mVar 0) (mVar 2)) (mC (.str w24))) [some (.str x),some (.ref μ0.length),some (.int (pre.length:Nat)),some (.int ((pre.length + (c :: w').length:Nat):Int))] (μ0 ++ [.lst acc]) = .ok true (μ0 ++ [.lst acc]) :=
        v_test (v_bin (ch_at hx rfl rfl (p:=pre.length) (c:=c) (by rw [e]; simp)) rfl ((ne_c hc (by decide)).trans (by rw [decide_eq_false (h32 c rfl)]; rfl)))
      exact (v_set 3 (v_call rfl e4)).trans ((v_seqN ((v_iteT t1).trans (v_app rfl (v_call (v_cons sl v_nil) hw) (by simp at ha; omega)))).trans rfl)
    unfold whGo
    rw [l1,bind_ok,if_pos rfl,eb]
    have e5:pre.length + (c :: w').length = (pre ++ (c :: w')).length:=by simp
    show whGo _ _ fuel [some (.str x),some (.ref μ0.length),some (.int ((pre.length + (c :: w').length:Nat):Int)),some (.int ((pre.length + (c :: w').length:Nat):Int))] _ = _
    rw [e5] at ih ⊢
    rw [ih,List.append_assoc]
    rfl
theorem words_eq {x:List Nat} (hx:Tx0 x) {ds:List D} (h:Lx x ds) (μ0:Mu):f_p_words_of [.str x] μ0 = .ok (.ref μ0.length) (μ0 ++ [.lst ds]):=by
  obtain ⟨y3,e⟩:=words_loop hx (μ0:=μ0) h [] [] none 400 rfl (by have:=hx.len; omega) (by have:=hx.len; simp; omega)
  exact v_fn 3 ((v_set 1 rfl).trans ((v_set 2 rfl).trans ((v_seqN e).trans (v_ret rfl))))
end K10
set_option Elab.async false
set_option linter.all false
set_option maxRecDepth 100000
set_option maxHeartbeats 400000
namespace K10
open PySem PySem.Spec PyProof.Rows L2 M NumText
noncomputable abbrev lpW:List Nat:=w53
noncomputable abbrev rpW:List Nat:=w54
noncomputable abbrev lbW:List Nat:=w35
noncomputable abbrev rbW:List Nat:=w36
noncomputable def sR (μ0:Mu) (ws:List D) (p:Nat):Mu:=μ0 ++ [.lst ws] ++ [.obj "Reader" ["words","place"] [.ref μ0.length,.int (p:Nat)]]
inductive WV:D → Prop
  | int {i:Int}:WV (.int i)
  | str {x:List Nat}:(∀ c ∈ x,c < 128) → WV (.str x)
  | non:WV .non
noncomputable def hd (ws:List D) (p:Nat):D:=(ws[p]?).getD .non
noncomputable def isW:D → List Nat → Bool
  | .str x,w => x == w
  | _,_ => false
theorem WV.deref {d:D} (h:WV d) (μ:Mu):deref μ d = d:=by cases h <;> rfl
theorem WV.eq {d:D} (h:WV d) {w:List Nat} (hw:plainD (.str w) = true):gEq d (.str w) = some (.bl (isW d w)):=by
  cases h with
  | str hx =>
    unfold gEq cmpOk
    rw [str_plain hx,hw]
    rfl
  | int =>
    unfold gEq cmpOk
    rw [hw]
    rfl
  | non =>
    unfold gEq cmpOk
    rw [hw]
    rfl
theorem WV.ne {d:D} (h:WV d) {w:List Nat} (hw:plainD (.str w) = true):gNe d (.str w) = some (.bl (!isW d w)):=by
  cases h with
  | str hx =>
    unfold gNe cmpOk
    rw [str_plain hx,hw]
    rfl
  | int =>
    unfold gNe cmpOk
    rw [hw]
    rfl
  | non =>
    unfold gNe cmpOk
    rw [hw]
    rfl
theorem v_drop {m:MX} {ρ:En} {μ μ1:Mu} {d:D} (h:m ρ μ = .ok d μ1):mDrop m ρ μ = .ok (.nx ρ) μ1:=by unfold mDrop; rw [h]; rfl
theorem v_fnN {n:MSt} {es:List D} {μ μ1:Mu} {ρ1:En} (j:Nat) (h:n (es.map some ++ List.replicate j none) μ = .ok (.nx ρ1) μ1):fnOf j n es μ = .ok .non μ1:=by rw [e_fnOf,h]; rfl
section
variable {μ0:Mu} {ws:List D} {p:Nat}
theorem at_r:(sR μ0 ws p)[μ0.length + 1]? = some (.obj "Reader" ["words","place"] [.ref μ0.length,.int (p:Nat)]):=by
  unfold sR
  rw [List.getElem?_append_right (by simp)]
  simp
theorem at_w:(sR μ0 ws p)[μ0.length]? = some (.lst ws):=by
  unfold sR
  rw [List.append_assoc,List.getElem?_append_right (Nat.le_refl _),Nat.sub_self]
  rfl
theorem der_w:deref (sR μ0 ws p) (.ref μ0.length) = .lst ws:=by
  unfold deref
  dsimp only
  rw [at_w]
theorem set_r {q:Nat}:(sR μ0 ws p).set (μ0.length + 1) (.obj "Reader" ["words","place"] [.ref μ0.length,.int (q:Nat)]) = sR μ0 ws q:=by
  unfold sR
  rw [List.set_append_right _ _ (by simp)]
  simp
theorem objD_r:objD oC_Reader (.ref (μ0.length + 1)) (sR μ0 ws p) = some (μ0.length + 1,("Reader":Str),(["words","place"]:List Str),([.ref μ0.length,.int (p:Nat)]:List D)):=by
  unfold objD
  dsimp only
  rw [at_r]
  exact if_pos (by decide +kernel)
theorem g_w {d e:D}:getN "words" ["words","place"] [d,e] = some d:=by
  unfold getN
  exact if_pos rfl
theorem g_p {d e:D}:getN "place" ["words","place"] [d,e] = some e:=by
  unfold getN
  rw [if_neg (by decide +kernel)]
  unfold getN
  exact if_pos rfl
theorem put_p {d e v:D}:putN "place" v ["words","place"] [d,e] = ((["words","place"]:List Str),([d,v]:List D)):=by
  unfold putN
  rw [if_neg (by decide +kernel)]
  unfold putN
  rw [if_pos rfl]
theorem a_w {ρ:En} (h:ρ[0]? = some (some (.ref (μ0.length + 1)))):mAttr oC_Reader "words" (mVar 0) ρ (sR μ0 ws p) = .ok (.ref μ0.length) (sR μ0 ws p):=by
  unfold mAttr
  rw [v_var 0 h,bind_ok,objD_r,Option.bind_some,g_w]
  rfl
theorem a_p {ρ:En} (h:ρ[0]? = some (some (.ref (μ0.length + 1)))):mAttr oC_Reader "place" (mVar 0) ρ (sR μ0 ws p) = .ok (.int (p:Nat)) (sR μ0 ws p):=by
  unfold mAttr
  rw [v_var 0 h,bind_ok,objD_r,Option.bind_some,g_p]
  rfl
theorem a_up {ρ:En} (h:ρ[0]? = some (some (.ref (μ0.length + 1)))):mAugA oC_Reader "place" (mVar 0) (mC (.int 1)) ρ (sR μ0 ws p) = .ok (.nx ρ) (sR μ0 ws (p + 1)):=by
  unfold mAugA
  rw [v_var 0 h,bind_ok,objD_r,Option.bind_some,g_p]
  show setA oC_Reader "place" ρ (.ref (μ0.length + 1)) (.int ((p:Int) + 1)) (sR μ0 ws p) = _
  unfold setA
  rw [objD_r]
  dsimp only
  rw [if_pos (by decide),put_p]
  show Res.ok (Out.nx ρ) ((sR μ0 ws p).set (μ0.length + 1) (.obj "Reader" ["words","place"] [.ref μ0.length,.int ((p + 1:Nat):Int)])) = _
  rw [set_r]
theorem lt_r {ρ:En} (h:ρ[0]? = some (some (.ref (μ0.length + 1)))):mTest (mBin gLt (mAttr oC_Reader "place" (mVar 0)) (mCallB gLen (mCons (mAttr oC_Reader "words" (mVar 0)) mNil))) ρ (sR μ0 ws p) = .ok (decide (p < ws.length)) (sR μ0 ws p):=by
  refine v_test (v_bin (a_p h) (v_callB (d:=.int (ws.length:Nat)) (v_cons (a_w h) v_nil) ?_) ?_)
  · show gLen [deref (sR μ0 ws p) (.ref μ0.length)] = _
    rw [der_w]
    rfl
  · show some (D.bl (decide ((p:Int) < (ws.length:Int)))) = _
    by_cases z:p < ws.length
    · rw [decide_eq_true z,decide_eq_true (by omega)]
    · rw [decide_eq_false z,decide_eq_false (by omega)]
theorem ahead_eq:f_m_Reader_ahead [.ref (μ0.length + 1)] (sR μ0 ws p) = .ok (hd ws p) (sR μ0 ws p):=by
  refine v_fn 0 (v_ret ?_)
  have t:=lt_r (μ0:=μ0) (ws:=ws) (p:=p) (ρ:=[some (.ref (μ0.length + 1))]) rfl
  by_cases z:p < ws.length
  · rw [decide_eq_true z] at t
    refine (v_ifT t).trans (v_bin (a_w rfl) (a_p rfl) ?_)
    rw [der_w]
    show atI ws (p:Int) = _
    rw [atI_pos (by omega),Int.toNat_natCast]
    unfold hd
    rw [List.getElem?_eq_getElem z]
    rfl
  · rw [decide_eq_false z] at t
    refine (v_ifF t).trans ?_
    unfold hd
    rw [List.getElem?_eq_none (by omega)]
    rfl
theorem over_eq:f_m_Reader_step_over [.ref (μ0.length + 1)] (sR μ0 ws p) = .ok .non (sR μ0 ws (p + 1)):=v_fnN 0 (a_up rfl)
theorem obj_r {m:Str} (h:m ∉ (["words","place"]:List Str)):objAt "Reader" m (.ref (μ0.length + 1)) (sR μ0 ws p) = true:=by
  unfold objAt
  dsimp only
  rw [at_r]
  exact decide_eq_true ⟨rfl,h⟩
theorem v_me {m:Str} {φ:Fn} {ms:MAs} {ρ:En} {ds:List D} {r:D} {q:Nat} (h0:ρ[0]? = some (some (.ref (μ0.length + 1)))) (hm:m ∉ (["words","place"]:List Str)) (hs:ms ρ (sR μ0 ws p) = .ok ds (sR μ0 ws p)) (hf:φ (.ref (μ0.length + 1) :: ds) (sR μ0 ws p) = .ok r (sR μ0 ws q)):mMe "Reader" m φ (mVar 0) ms ρ (sR μ0 ws p) = .ok r (sR μ0 ws q):=by
  unfold mMe
  rw [v_var 0 h0,bind_ok,if_pos (obj_r hm),hs,bind_ok,hf]
  rfl
theorem m_ahead {ρ:En} (h0:ρ[0]? = some (some (.ref (μ0.length + 1)))):mMe "Reader" "ahead" f_m_Reader_ahead (mVar 0) mNil ρ (sR μ0 ws p) = .ok (hd ws p) (sR μ0 ws p):=v_me h0 (by decide +kernel) rfl ahead_eq
theorem m_over {ρ:En} (h0:ρ[0]? = some (some (.ref (μ0.length + 1)))):mDrop (mMe "Reader" "step_over" f_m_Reader_step_over (mVar 0) mNil) ρ (sR μ0 ws p) = .ok (.nx ρ) (sR μ0 ws (p + 1)):=v_drop (v_me h0 (by decide +kernel) rfl over_eq)
theorem into_ok {wi:Nat} (h:wi < 12):f_m_Reader_step_into [.ref (μ0.length + 1),.int (wi:Nat)] (sR μ0 ws p) = .ok .non (sR μ0 ws (p + 1)):=by
  have t:mTest (mBin gGe (mVar 1) (mC c_MOST_WITHIN)) [some (.ref (μ0.length + 1)),some (.int (wi:Nat))] (sR μ0 ws p) = .ok false (sR μ0 ws p):=v_test (v_bin rfl rfl (by
    show some (D.bl (decide ((12:Int) ≤ (wi:Int)))) = _
    rw [decide_eq_false (by omega)]))
  exact v_fnN 0 ((v_skip t).trans (a_up rfl))
theorem exp_t (hW:WV (hd ws p)) {w:List Nat} (hw:plainD (.str w) = true):mTest (mBin gNe (mMe "Reader" "ahead" f_m_Reader_ahead (mVar 0) mNil) (mVar 1)) [some (.ref (μ0.length + 1)),some (.str w)] (sR μ0 ws p) = .ok (!isW (hd ws p) w) (sR μ0 ws p):=v_test (v_bin (m_ahead rfl) rfl (by rw [hW.deref]; exact hW.ne hw))
theorem exp_ok (hW:WV (hd ws p)) {w:List Nat} (hw:plainD (.str w) = true) (h:isW (hd ws p) w = true):f_m_Reader_expect [.ref (μ0.length + 1),.str w] (sR μ0 ws p) = .ok .non (sR μ0 ws (p + 1)):=by
  have t:=exp_t (μ0:=μ0) hW hw
  rw [h] at t
  exact v_fnN 0 ((v_skip t).trans (a_up rfl))
end
end K10
set_option Elab.async false
set_option linter.all false
set_option maxRecDepth 100000
set_option maxHeartbeats 400000
namespace K10
open PySem PySem.Spec PyProof.Rows L2 M NumText
inductive PR | ok (t:D) (p:Nat) | er (p:Nat) | out
noncomputable def PR.bind:PR → (D → Nat → PR) → PR
  | .ok t p,f => f t p
  | .er p,_ => .er p
  | .out,_ => .out
noncomputable def ef (p:Nat):PR:=if p < 9000 then .er p else .out
noncomputable def opD (ks:List DK) (ds:List D) (d:D):Option D:=(keyD d).bind (lookK ks ds)
section
variable (ws:List D)
noncomputable def expc (w:List Nat) (p:Nat) (k:Nat → PR):PR:=if isW (hd ws p) w = true then k (p + 1) else ef p
noncomputable def into (wi p:Nat) (k:Nat → PR):PR:=if 12 ≤ wi then ef p else k (p + 1)
noncomputable def lp (T:D → Option D) (f:Nat → PR):Nat → D → Nat → PR
  | 0,_,_ => .out
  | n + 1,t,p => match T (hd ws p) with
    | none => .ok t p
    | some o => (f (p + 1)).bind fun t2 q => lp T f n (.tup [o,t,t2]) q
noncomputable def gS:Nat → Nat → Nat → Nat → PR
  | 0,_,_,_ => .out
  | k + 1,i,wi,p => match i with
    | 0 => (gS k 1 wi p).bind fun t q => lp ws (opD ks_SUM_OPS ds_SUM_OPS) (fun q => gS k 1 wi q) 100 t q
    | 1 => (gS k 2 wi p).bind fun t q => lp ws (opD ks_PRODUCT_OPS ds_PRODUCT_OPS) (fun q => gS k 2 wi q) 100 t q
    | 2 => if (opD ks_LOAD_SIZES ds_LOAD_SIZES (hd ws p)).isSome = true then gS k 3 wi p else if isW (hd ws p) lpW = true then gS k 4 wi p else if isW (hd ws p) w_len = true then .ok (.tup [.str w_len]) (p + 1) else match hd ws p with
      | .int i => .ok (.tup [.str w_number,.int i]) (p + 1)
      | _ => ef p
    | 3 => match opD ks_LOAD_SIZES ds_LOAD_SIZES (hd ws p) with
      | some sz => into wi p fun p => expc ws lbW p fun p => (gS k 0 (wi + 1) p).bind fun t q => expc ws rbW q fun q => .ok (.tup [.str w_load,sz,t]) q
      | none => .out
    | _ => into wi p fun p => (gS k 0 (wi + 1) p).bind fun t q => expc ws rpW q fun q => .ok t q
noncomputable def cmpP (wi p:Nat):PR:=(gS ws 64 0 wi p).bind fun t q => match opD ks_COMPARISONS ds_COMPARISONS (hd ws q) with
  | none => ef q
  | some c => (gS ws 64 0 wi (q + 1)).bind fun t2 q2 => .ok (.tup [c,t,t2]) q2
noncomputable def orT (d:D):Option D:=if isW d w_or = true then some (.str w_either) else none
noncomputable def andT (d:D):Option D:=if isW d w_and = true then some (.str w_both) else none
noncomputable def gF:Nat → Nat → Nat → Nat → PR
  | 0,_,_,_ => .out
  | k + 1,i,wi,p => match i with
    | 0 => (gF k 1 wi p).bind fun t q => lp ws orT (fun q => gF k 1 wi q) 100 t q
    | 1 => (gF k 2 wi p).bind fun t q => lp ws andT (fun q => gF k 2 wi q) 100 t q
    | 2 => if isW (hd ws p) w_true = true ∨ isW (hd ws p) w_false = true then .ok (.tup [.str w_truth,.bl (isW (hd ws p) w_true)]) (p + 1) else if isW (hd ws p) w_not = true then into wi p fun p => (gF k 2 (wi + 1) p).bind fun t q => .ok (.tup [.str w_not,t]) q else if isW (hd ws p) w_so = true then gF k 3 wi p else cmpP ws wi p
    | _ => into wi p fun p => expc ws lpW p fun p => (gF k 0 (wi + 1) p).bind fun t q => expc ws rpW q fun q => .ok t q
noncomputable def rdP:PR:=(gF ws 64 0 0 0).bind fun t q => if q < ws.length then ef q else .ok t q
end
section
variable {μ0:Mu} {ws:List D}
noncomputable def Br (μ0:Mu) (ws:List D) (r:Res D):PR → Prop
  | .ok t q => r = .ok t (sR μ0 ws q)
  | .er _ => True
  | .out => True
noncomputable def BrS (μ0:Mu) (ws:List D) (r:Res Out) (P:D → Out → Prop):PR → Prop
  | .ok t q => ∃ o,r = .ok o (sR μ0 ws q) ∧ P t o
  | .er _ => True
  | .out => True
theorem BrS.fn {n:MSt} {es:List D} {j:Nat} {μ:Mu} {r:PR} (h:BrS μ0 ws (n (es.map some ++ List.replicate j none) μ) (fun t o => o = .rt t) r):Br μ0 ws (fnOf j n es μ) r:=by
  cases r with
  | ok t q => obtain ⟨o,e,rfl⟩:=h; exact v_fn j e
  | er q => trivial
  | out => trivial
theorem BrS.of {r r':Res Out} {P:D → Out → Prop} {x:PR} (e:r = r') (h:BrS μ0 ws r' P x):BrS μ0 ws r P x:=by rw [e]; exact h
theorem BrS.set {i:Nat} {m:MX} {r:MSt} {ρ:En} {μ:Mu} {x:PR} {f:D → Nat → PR} {P:D → Out → Prop} (h:Br μ0 ws (m ρ μ) x) (hk:∀ t q,BrS μ0 ws (r (ρ.set i (some t)) (sR μ0 ws q)) P (f t q)):BrS μ0 ws (mSeq (mSet i m) r ρ μ) P (x.bind f):=by
  cases x with
  | ok t q => exact BrS.of (v_set i h) (hk t q)
  | er q => trivial
  | out => trivial
theorem BrS.ret {m:MX} {ρ:En} {μ:Mu} {x:PR} (h:Br μ0 ws (m ρ μ) x):BrS μ0 ws (mRet m ρ μ) (fun t o => o = .rt t) x:=by
  cases x with
  | ok t q => exact ⟨_,v_ret h,rfl⟩
  | er q => trivial
  | out => trivial
theorem BrS.take {t:MB} {m:MX} {b r:MSt} {ρ:En} {μ:Mu} {x:PR} (ht:t ρ μ = .ok true μ) (h:Br μ0 ws (m ρ μ) x):BrS μ0 ws (mSeq (mIte t (mRet m) b) r ρ μ) (fun t o => o = .rt t) x:=by
  cases x with
  | ok t q => exact ⟨_,v_take ht h,rfl⟩
  | er q => trivial
  | out => trivial
variable (hW:∀ p,WV (hd ws p))
theorem BrS.into {r:MSt} {ρ:En} {wi p:Nat} {k:Nat → PR} {P:D → Out → Prop} (h0:ρ[0]? = some (some (.ref (μ0.length + 1)))) (h1:ρ[1]? = some (some (.int (wi:Nat)))) (hk:BrS μ0 ws (r ρ (sR μ0 ws (p + 1))) P (k (p + 1))):BrS μ0 ws (mSeq (mDrop (mMe "Reader" "step_into" f_m_Reader_step_into (mVar 0) (mCons (mVar 1) mNil))) r ρ (sR μ0 ws p)) P (K10.into wi p k):=by
  unfold K10.into
  by_cases hw:12 ≤ wi
  · rw [if_pos hw]
    unfold ef
    split <;> trivial
  · rw [if_neg hw]
    exact BrS.of (v_seqN (v_drop (v_me h0 (by decide +kernel) (v_cons (v_var 1 h1) v_nil) (into_ok (by omega))))) hk
include hW in
theorem BrS.exp {r:MSt} {ρ:En} {p:Nat} {w:List Nat} {k:Nat → PR} {P:D → Out → Prop} (h0:ρ[0]? = some (some (.ref (μ0.length + 1)))) (hw:plainD (.str w) = true) (hk:BrS μ0 ws (r ρ (sR μ0 ws (p + 1))) P (k (p + 1))):BrS μ0 ws (mSeq (mDrop (mMe "Reader" "expect" f_m_Reader_expect (mVar 0) (mCons (mC (.str w)) mNil))) r ρ (sR μ0 ws p)) P (expc ws w p k):=by
  unfold expc
  cases hq:isW (hd ws p) w with
  | false =>
    rw [if_neg (by simp)]
    unfold ef
    split <;> trivial
  | true =>
    rw [if_pos rfl]
    exact BrS.of (v_seqN (v_drop (v_me h0 (by decide +kernel) rfl (exp_ok (hW p) hw hq)))) hk
theorem op_in {d:D} (h:WV d) (neg:Bool) (ks:List DK) (ds:List D):gDInN neg d (.dic ks ds) = some (.bl (if neg then !(opD ks ds d).isSome else (opD ks ds d).isSome)):=by
  cases h with
  | non => cases neg <;> rfl
  | int => rfl
  | str _ => rfl
theorem Br.call {φ:Fn} {ms:MAs} {ρ:En} {μ:Mu} {ds:List D} {x:PR} (h:ms ρ μ = .ok ds μ) (hb:Br μ0 ws (φ ds μ) x):Br μ0 ws (mCall φ ms ρ μ) x:=by
  cases x with
  | ok t q => exact v_call h hb
  | er q => trivial
  | out => trivial
theorem Br.tup3 {m3 m2 mc:MX} {ρ:En} {μ:Mu} {a b:D} {x:PR} (h3:m3 ρ μ = .ok a μ) (h2:m2 ρ μ = .ok b μ) (hb:Br μ0 ws (mc ρ μ) x):Br μ0 ws (mTup (mCons m3 (mCons m2 (mCons mc mNil))) ρ μ) (x.bind fun t q => .ok (.tup [a,b,t]) q):=by
  cases x with
  | ok t q => exact v_tup (v_cons h3 (v_cons h2 (v_cons hb v_nil)))
  | er q => trivial
  | out => trivial
theorem lp_br {T:D → Option D} {f:Nat → PR} {tst:MB} {body:MSt} {S:D → En → Prop}
    (ht:∀ t p ρ,S t ρ → tst ρ (sR μ0 ws p) = .ok (T (hd ws p)).isSome (sR μ0 ws p))
    (hb:∀ t p ρ o,S t ρ → T (hd ws p) = some o → BrS μ0 ws (body ρ (sR μ0 ws p)) (fun t2 r => ∃ ρ',r = .nx ρ' ∧ S (.tup [o,t,t2]) ρ') (f (p + 1))) :
    ∀ (n:Nat) (t:D) (p:Nat) (ρ:En),S t ρ → BrS μ0 ws (whGo tst body n ρ (sR μ0 ws p)) (fun t2 r => ∃ ρ',r = .nx ρ' ∧ S t2 ρ') (lp ws T f n t p)
  | 0,_,_,_,_ => trivial
  | n + 1,t,p,ρ,h => by
    have t1:=ht t p ρ h
    unfold lp whGo
    cases hT:T (hd ws p) with
    | none =>
      rw [hT] at t1
      exact ⟨.nx ρ,by rw [t1]; rfl,ρ,rfl,h⟩
    | some o =>
      rw [hT] at t1
      have b1:=hb t p ρ o h hT
      rw [t1,bind_ok]
      show BrS μ0 ws ((body ρ (sR μ0 ws p)).bind _) _ ((f (p + 1)).bind _)
      cases hf:f (p + 1) with
      | ok t2 q =>
        rw [hf] at b1
        obtain ⟨r,e,ρ',rfl,hS⟩:=b1
        rw [e]
        exact lp_br ht hb n _ q ρ' hS
      | er q => trivial
      | out => trivial
theorem BrS.wh {T:D → Option D} {f:Nat → PR} {tst:MB} {body r:MSt} {S:D → En → Prop} {n:Nat} {t:D} {p:Nat} {ρ:En}
    (h:BrS μ0 ws (whGo tst body n ρ (sR μ0 ws p)) (fun t2 r => ∃ ρ',r = .nx ρ' ∧ S t2 ρ') (lp ws T f n t p)) (hk:∀ t2 q ρ',S t2 ρ' → r ρ' (sR μ0 ws q) = .ok (.rt t2) (sR μ0 ws q)):BrS μ0 ws (mSeq (mWhile n tst body) r ρ (sR μ0 ws p)) (fun t o => o = .rt t) (lp ws T f n t p):=by
  cases hq:lp ws T f n t p with
  | ok t2 q =>
    rw [hq] at h
    obtain ⟨o,e,ρ',rfl,hS⟩:=h
    exact ⟨_,(v_seqN e).trans (hk t2 q ρ' hS),rfl⟩
  | er q => trivial
  | out => trivial
end
end K10
set_option Elab.async false
set_option linter.all false
set_option maxRecDepth 100000
set_option maxHeartbeats 400000
namespace K10
open PySem PySem.Spec PyProof.Rows L2 M NumText
section
variable {μ0:Mu} {ws:List D}
theorem BrS.tset {i:Nat} {ρ:En} {μ:Mu} {m3 m2 mc:MX} {a b:D} {x:PR} {P:D → Out → Prop} (h3:m3 ρ μ = .ok a μ) (h2:m2 ρ μ = .ok b μ) (h:Br μ0 ws (mc ρ μ) x) (hP:∀ t,P t (.nx (ρ.set i (some (.tup [a,b,t]))))):BrS μ0 ws (mSet i (mTup (mCons m3 (mCons m2 (mCons mc mNil)))) ρ μ) P x:=by
  cases x with
  | ok t q =>
    unfold mSet
    rw [v_tup (v_cons h3 (v_cons h2 (v_cons h v_nil)))]
    exact ⟨_,rfl,hP t⟩
  | er q => trivial
  | out => trivial
theorem BrS.skip {t:MB} {a r:MSt} {ρ:En} {μ:Mu} {P:D → Out → Prop} {x:PR} (ht:t ρ μ = .ok false μ) (h:BrS μ0 ws (r ρ μ) P x):BrS μ0 ws (mSeq (mIte t a mSkip) r ρ μ) P x:=BrS.of (v_skip ht) h
theorem BrS.refuse {r:Res Out} {p:Nat} {P:D → Out → Prop}:BrS μ0 ws r P (ef p):=by
  unfold ef
  split <;> trivial
variable (hW:∀ p,WV (hd ws p))
include hW
theorem in_t {ks:List DK} {ds:List D} {m:MX} {ρ:En} {p:Nat} (h:m ρ (sR μ0 ws p) = .ok (hd ws p) (sR μ0 ws p)):mTest (mBin (gDInN false) m (mC (.dic ks ds))) ρ (sR μ0 ws p) = .ok (opD ks ds (hd ws p)).isSome (sR μ0 ws p):=v_test (v_bin h rfl (by rw [(hW p).deref]; exact op_in (hW p) false _ _))
theorem nin_t {ks:List DK} {ds:List D} {m:MX} {ρ:En} {p:Nat} (h:m ρ (sR μ0 ws p) = .ok (hd ws p) (sR μ0 ws p)):mTest (mBin (gDInN true) m (mC (.dic ks ds))) ρ (sR μ0 ws p) = .ok (!(opD ks ds (hd ws p)).isSome) (sR μ0 ws p):=v_test (v_bin h rfl (by rw [(hW p).deref]; exact op_in (hW p) true _ _))
theorem eq_t {w:List Nat} (hw:plainD (.str w) = true) {m:MX} {ρ:En} {p:Nat} (h:m ρ (sR μ0 ws p) = .ok (hd ws p) (sR μ0 ws p)):mTest (mBin gEq m (mC (.str w))) ρ (sR μ0 ws p) = .ok (isW (hd ws p) w) (sR μ0 ws p):=v_test (v_bin h rfl (by rw [(hW p).deref]; exact (hW p).eq hw))
theorem get_t {ks:List DK} {ds:List D} {m:MX} {ρ:En} {p:Nat} {o:D} (h:m ρ (sR μ0 ws p) = .ok (hd ws p) (sR μ0 ws p)) (e:opD ks ds (hd ws p) = some o):mBin gDGet (mC (.dic ks ds)) m ρ (sR μ0 ws p) = .ok o (sR μ0 ws p):=v_bin rfl h (by rw [(hW p).deref]; exact e)
noncomputable abbrev cA2:MAs:=mCons (mVar 0) (mCons (mVar 1) mNil)
theorem loop4 {R:Nat → Fn} {j wi:Nat} {ks:List DK} {ds:List D} {f:Nat → PR} (hR:∀ q,Br μ0 ws (R j [.ref (μ0.length + 1),.int (wi:Nat)] (sR μ0 ws q)) (f q)) (t:D) (p:Nat) :
    BrS μ0 ws (mSeq (mWhile 100 (mTest (mBin (gDInN false) (mMe "Reader" "ahead" f_m_Reader_ahead (mVar 0) mNil) (mC (.dic ks ds)))) (mSeq (mSet 3 (mBin gDGet (mC (.dic ks ds)) (mMe "Reader" "ahead" f_m_Reader_ahead (mVar 0) mNil)))
    (mSeq (mDrop (mMe "Reader" "step_over" f_m_Reader_step_over (mVar 0) mNil))
    (mSet 2 (mTup (mCons (mVar 3) (mCons (mVar 2) (mCons (mCall (R j) cA2) mNil)))))))) (mRet (mVar 2)) [some (.ref (μ0.length + 1)),some (.int (wi:Nat)),some t,none] (sR μ0 ws p)) (fun t o => o = .rt t) (lp ws (opD ks ds) f 100 t p):=by
  refine BrS.wh (S:=fun t ρ => ∃ e3,ρ = [some (.ref (μ0.length + 1)),some (.int (wi:Nat)),some t,e3]) (lp_br ?_ ?_ 100 t p _ ⟨none,rfl⟩) ?_
  · rintro t p _ ⟨e3,rfl⟩
    exact in_t hW (m_ahead rfl)
  · rintro t p _ o ⟨e3,rfl⟩ ho
    refine BrS.of ((v_set 3 (get_t hW (m_ahead rfl) ho)).trans (v_seqN (m_over rfl))) ?_
    exact BrS.tset (a:=o) (b:=t) rfl rfl (Br.call rfl (hR (p + 1))) fun t2 => ⟨_,rfl,some o,rfl⟩
  · rintro t2 q _ ⟨e3,rfl⟩
    exact v_ret rfl
theorem s_br:∀ (k i wi p:Nat),Br μ0 ws (rc_p_read_sum k i [.ref (μ0.length + 1),.int (wi:Nat)] (sR μ0 ws p)) (gS ws k i wi p)
  | 0,_,_,_ => trivial
  | k + 1,0,wi,p => by
    show Br μ0 ws (fnOf 2 (b_p_read_sum (rc_p_read_sum k)) _ _) ((gS ws k 1 wi p).bind _)
    exact BrS.fn (BrS.set (Br.call rfl (s_br k 1 wi p)) fun t q => loop4 hW (fun q => s_br k 1 wi q) t q)
  | k + 1,1,wi,p => by
    show Br μ0 ws (fnOf 2 (b_p_read_product (rc_p_read_sum k)) _ _) ((gS ws k 2 wi p).bind _)
    exact BrS.fn (BrS.set (Br.call rfl (s_br k 2 wi p)) fun t q => loop4 hW (fun q => s_br k 2 wi q) t q)
  | k + 1,2,wi,p => by
    have e:gS ws (k + 1) 2 wi p = if (opD ks_LOAD_SIZES ds_LOAD_SIZES (hd ws p)).isSome = true then gS ws k 3 wi p else if isW (hd ws p) lpW = true then gS ws k 4 wi p else if isW (hd ws p) w_len = true then .ok (.tup [.str w_len]) (p + 1) else match hd ws p with
      | .int i => .ok (.tup [.str w_number,.int i]) (p + 1)
      | _ => ef p:=rfl
    rw [e]
    show Br μ0 ws (fnOf 1 (b_p_read_plain (rc_p_read_sum k)) _ _) _
    refine BrS.fn (BrS.of (v_set 2 (m_ahead rfl)) ?_)
    have t1:=in_t (μ0:=μ0) hW (ks:=ks_LOAD_SIZES) (ds:=ds_LOAD_SIZES) (m:=mVar 2) (ρ:=[some (.ref (μ0.length + 1)),some (.int (wi:Nat)),some (hd ws p)]) (p:=p) rfl
    have t2:=eq_t (μ0:=μ0) hW (w:=lpW) (by decide) (m:=mVar 2) (ρ:=[some (.ref (μ0.length + 1)),some (.int (wi:Nat)),some (hd ws p)]) (p:=p) rfl
    have t3:=eq_t (μ0:=μ0) hW (w:=w_len) (by decide) (m:=mVar 2) (ρ:=[some (.ref (μ0.length + 1)),some (.int (wi:Nat)),some (hd ws p)]) (p:=p) rfl
    cases h1:(opD ks_LOAD_SIZES ds_LOAD_SIZES (hd ws p)).isSome with
    | true =>
      rw [h1] at t1
      rw [if_pos rfl]
      exact BrS.take t1 (Br.call rfl (s_br k 3 wi p))
    | false =>
      rw [h1] at t1
      rw [if_neg (by simp)]
      refine BrS.skip t1 ?_
      cases h2:isW (hd ws p) lpW with
      | true =>
        rw [h2] at t2
        rw [if_pos rfl]
        exact BrS.take t2 (Br.call rfl (s_br k 4 wi p))
      | false =>
        rw [h2] at t2
        rw [if_neg (by simp)]
        refine BrS.skip t2 ?_
        cases h3:isW (hd ws p) w_len with
        | true =>
          rw [h3] at t3
          rw [if_pos rfl]
          exact ⟨_,v_seqR ((v_iteT t3).trans ((v_seqN (m_over rfl)).trans (v_ret rfl))),rfl⟩
        | false =>
          rw [h3] at t3
          rw [if_neg (by simp)]
          refine BrS.skip t3 ?_
          have hw:=hW p
          cases hq:hd ws p with
          | int i =>
            refine ⟨_,(v_skip (v_not (k:=true) (v_tru (d:=.bl true) rfl rfl))).trans ((v_seqN (m_over rfl)).trans (v_ret rfl)),rfl⟩
          | str x => exact BrS.refuse
          | non => exact BrS.refuse
          | _ => rw [hq] at hw; cases hw
  | k + 1,3,wi,p => by
    have e:gS ws (k + 1) 3 wi p = match opD ks_LOAD_SIZES ds_LOAD_SIZES (hd ws p) with
      | some sz => into wi p fun p => expc ws lbW p fun p => (gS ws k 0 (wi + 1) p).bind fun t q => expc ws rbW q fun q => .ok (.tup [.str w_load,sz,t]) q
      | none => .out:=rfl
    rw [e]
    cases ho:opD ks_LOAD_SIZES ds_LOAD_SIZES (hd ws p) with
    | none => trivial
    | some sz =>
      show Br μ0 ws (fnOf 2 (b_p_read_load (rc_p_read_sum k)) _ _) _
      refine BrS.fn (BrS.of (v_set 2 (get_t hW (m_ahead rfl) ho)) (BrS.into rfl rfl (BrS.exp hW rfl (by decide) (BrS.set (Br.call rfl (s_br k 0 (wi + 1) _)) fun t q => BrS.exp hW rfl (by decide) ⟨_,v_ret rfl,rfl⟩))))
  | k + 1,i + 4,wi,p => by
    show Br μ0 ws (fnOf 1 (b_p_read_bracket (rc_p_read_sum k)) _ _) (into wi p fun p => (gS ws k 0 (wi + 1) p).bind fun t q => expc ws rpW q fun q => .ok t q)
    exact BrS.fn (BrS.into rfl rfl (BrS.set (Br.call rfl (s_br k 0 (wi + 1) _)) fun t q => BrS.exp hW rfl (by decide) ⟨_,v_ret rfl,rfl⟩))
end
end K10
set_option Elab.async false
set_option linter.all false
set_option maxRecDepth 100000
set_option maxHeartbeats 400000
namespace K10
open PySem PySem.Spec PyProof.Rows L2 M NumText
section
variable {μ0:Mu} {ws:List D}
theorem BrS.iteT {t:MB} {a b r:MSt} {ρ:En} {μ:Mu} {x:PR} (ht:t ρ μ = .ok true μ) (h:BrS μ0 ws (a ρ μ) (fun t o => o = .rt t) x):BrS μ0 ws (mSeq (mIte t a b) r ρ μ) (fun t o => o = .rt t) x:=by
  cases x with
  | ok t q => obtain ⟨o,e,rfl⟩:=h; exact ⟨_,v_seqR ((v_iteT ht).trans e),rfl⟩
  | er q => trivial
  | out => trivial
theorem Br.tup2 {m3 mc:MX} {ρ:En} {μ:Mu} {a:D} {x:PR} (h3:m3 ρ μ = .ok a μ) (hb:Br μ0 ws (mc ρ μ) x):Br μ0 ws (mTup (mCons m3 (mCons mc mNil)) ρ μ) (x.bind fun t q => .ok (.tup [a,t]) q):=by
  cases x with
  | ok t q => exact v_tup (v_cons h3 (v_cons hb v_nil))
  | er q => trivial
  | out => trivial
variable (hW:∀ p,WV (hd ws p))
include hW
theorem c_br (wi p:Nat):Br μ0 ws (f_p_read_comparison [.ref (μ0.length + 1),.int (wi:Nat)] (sR μ0 ws p)) (cmpP ws wi p):=by
  refine BrS.fn (BrS.set (Br.call rfl (s_br hW 64 0 wi p)) fun t q => BrS.of (v_set 3 (m_ahead rfl)) ?_)
  have t1:=nin_t (μ0:=μ0) hW (ks:=ks_COMPARISONS) (ds:=ds_COMPARISONS) (m:=mVar 3) (ρ:=[some (.ref (μ0.length + 1)),some (.int (wi:Nat)),some t,some (hd ws q)]) (p:=q) rfl
  cases ho:opD ks_COMPARISONS ds_COMPARISONS (hd ws q) with
  | none =>
    rw [ho] at t1
    exact BrS.refuse
  | some c =>
    rw [ho] at t1
    exact BrS.skip t1 (BrS.of (v_seqN (m_over rfl)) (BrS.ret (Br.tup3 (a:=c) (b:=t) (v_bin rfl rfl (by rw [(hW q).deref]; exact ho)) rfl (Br.call rfl (s_br hW 64 0 wi (q + 1))))))
theorem loop3 {R:Nat → Fn} {j wi:Nat} {w o:List Nat} {f:Nat → PR} {T:D → Option D} (hT:∀ d,T d = if isW d w = true then some (.str o) else none) (hw:plainD (.str w) = true) (hR:∀ q,Br μ0 ws (R j [.ref (μ0.length + 1),.int (wi:Nat)] (sR μ0 ws q)) (f q)) (t:D) (p:Nat) :
    BrS μ0 ws (mSeq (mWhile 100 (mTest (mBin gEq (mMe "Reader" "ahead" f_m_Reader_ahead (mVar 0) mNil) (mC (.str w)))) (mSeq (mDrop (mMe "Reader" "step_over" f_m_Reader_step_over (mVar 0) mNil))
    (mSet 2 (mTup (mCons (mC (.str o)) (mCons (mVar 2) (mCons (mCall (R j) cA2) mNil))))))) (mRet (mVar 2)) [some (.ref (μ0.length + 1)),some (.int (wi:Nat)),some t] (sR μ0 ws p)) (fun t o => o = .rt t) (lp ws T f 100 t p):=by
  refine BrS.wh (S:=fun t ρ => ρ = [some (.ref (μ0.length + 1)),some (.int (wi:Nat)),some t]) (lp_br ?_ ?_ 100 t p _ rfl) ?_
  · rintro t p _ rfl
    rw [hT]
    have:=eq_t (μ0:=μ0) hW hw (m:=mMe "Reader" "ahead" f_m_Reader_ahead (mVar 0) mNil) (ρ:=[some (.ref (μ0.length + 1)),some (.int (wi:Nat)),some t]) (p:=p) (m_ahead rfl)
    rw [this]
    cases isW (hd ws p) w <;> rfl
  · rintro t p _ o' rfl ho
    rw [hT] at ho
    obtain rfl:o' = .str o:=by
      split at ho
      · exact (Option.some.inj ho).symm
      · cases ho
    exact BrS.of (v_seqN (m_over rfl)) (BrS.tset (a:=.str o) (b:=t) rfl rfl (Br.call rfl (hR (p + 1))) fun t2 => ⟨_,rfl,rfl⟩)
  · rintro t2 q _ rfl
    exact v_ret rfl
theorem f_br:∀ (k i wi p:Nat),Br μ0 ws (rc_p_read_filter k i [.ref (μ0.length + 1),.int (wi:Nat)] (sR μ0 ws p)) (gF ws k i wi p)
  | 0,_,_,_ => trivial
  | k + 1,0,wi,p => by
    show Br μ0 ws (fnOf 1 (b_p_read_filter (rc_p_read_filter k)) _ _) ((gF ws k 1 wi p).bind _)
    exact BrS.fn (BrS.set (Br.call rfl (f_br k 1 wi p)) fun t q => loop3 hW (fun _ => rfl) (by decide) (fun q => f_br k 1 wi q) t q)
  | k + 1,1,wi,p => by
    show Br μ0 ws (fnOf 1 (b_p_read_tests (rc_p_read_filter k)) _ _) ((gF ws k 2 wi p).bind _)
    exact BrS.fn (BrS.set (Br.call rfl (f_br k 2 wi p)) fun t q => loop3 hW (fun _ => rfl) (by decide) (fun q => f_br k 2 wi q) t q)
  | k + 1,2,wi,p => by
    have e:gF ws (k + 1) 2 wi p = if isW (hd ws p) w_true = true ∨ isW (hd ws p) w_false = true then .ok (.tup [.str w_truth,.bl (isW (hd ws p) w_true)]) (p + 1) else if isW (hd ws p) w_not = true then into wi p fun p => (gF ws k 2 (wi + 1) p).bind fun t q => .ok (.tup [.str w_not,t]) q else if isW (hd ws p) w_so = true then gF ws k 3 wi p else cmpP ws wi p:=rfl
    rw [e]
    show Br μ0 ws (fnOf 1 (b_p_read_test (rc_p_read_filter k)) _ _) _
    refine BrS.fn (BrS.of (v_set 2 (m_ahead rfl)) ?_)
    have eqs:∀ {w:List Nat},plainD (.str w) = true → mTest (mBin gEq (mVar 2) (mC (.str w))) [some (.ref (μ0.length + 1)),some (.int (wi:Nat)),some (hd ws p)] (sR μ0 ws p) = .ok (isW (hd ws p) w) (sR μ0 ws p):=fun hw => eq_t (μ0:=μ0) hW hw rfl
    have t1:=eqs (w:=w_true) (by decide)
    have t2:=eqs (w:=w_false) (by decide)
    have t3:=eqs (w:=w_not) (by decide)
    have t4:=eqs (w:=w_so) (by decide)
    by_cases h1:isW (hd ws p) w_true = true ∨ isW (hd ws p) w_false = true
    · rw [if_pos h1]
      have tt:mOr (mTest (mBin gEq (mVar 2) (mC (.str w_true)))) (mTest (mBin gEq (mVar 2) (mC (.str w_false)))) [some (.ref (μ0.length + 1)),some (.int (wi:Nat)),some (hd ws p)] (sR μ0 ws p) = .ok true (sR μ0 ws p):=by
        cases hq:isW (hd ws p) w_true with
        | true => rw [hq] at t1; exact v_orT t1
        | false =>
          rw [hq] at t1
          rcases h1 with z | z
          · rw [hq] at z; cases z
          · rw [z] at t2; exact (v_orF t1).trans t2
      refine BrS.iteT tt (BrS.of (v_seqN (m_over rfl)) ⟨_,v_ret (v_tup (v_cons rfl (v_cons (v_bin rfl rfl ?_) v_nil))),rfl⟩)
      rw [(hW p).deref]
      exact (hW p).eq (by decide)
    · rw [if_neg h1]
      have f1:isW (hd ws p) w_true = false:=by
        cases hq:isW (hd ws p) w_true with
        | true => exact absurd (.inl hq) h1
        | false => rfl
      have f2:isW (hd ws p) w_false = false:=by
        cases hq:isW (hd ws p) w_false with
        | true => exact absurd (.inr hq) h1
        | false => rfl
      rw [f1] at t1
      rw [f2] at t2
      refine BrS.skip ((v_orF t1).trans t2) ?_
      cases h3:isW (hd ws p) w_not with
      | true =>
        rw [h3] at t3
        rw [if_pos rfl]
        exact BrS.iteT t3 (BrS.into rfl rfl (BrS.ret (Br.tup2 (a:=.str w_not) rfl (Br.call rfl (f_br k 2 (wi + 1) (p + 1))))))
      | false =>
        rw [h3] at t3
        rw [if_neg (by simp)]
        refine BrS.skip t3 ?_
        cases h4:isW (hd ws p) w_so with
        | true =>
          rw [h4] at t4
          rw [if_pos rfl]
          exact BrS.take t4 (Br.call rfl (f_br k 3 wi p))
        | false =>
          rw [h4] at t4
          rw [if_neg (by simp)]
          exact BrS.skip t4 (BrS.ret (Br.call rfl (c_br hW wi p)))
  | k + 1,i + 3,wi,p => by
    show Br μ0 ws (fnOf 1 (b_p_read_so (rc_p_read_filter k)) _ _) (into wi p fun p => expc ws lpW p fun p => (gF ws k 0 (wi + 1) p).bind fun t q => expc ws rpW q fun q => .ok t q)
    exact BrS.fn (BrS.into rfl rfl (BrS.exp hW rfl (by decide) (BrS.set (Br.call rfl (f_br k 0 (wi + 1) _)) fun t q => BrS.exp hW rfl (by decide) ⟨_,v_ret rfl,rfl⟩)))
end
theorem new_eq {x:List Nat} (hx:Tx0 x) {ws:List D} (h:Lx x ws) (μ0:Mu) {ρ:En} (hρ:ρ[0]? = some (some (.str x))):mNew "Reader" f_p_Reader__init__ (mCons (mCall f_p_words_of (mCons (mVar 0) mNil)) mNil) ρ μ0 = .ok (.ref (μ0.length + 1)) (sR μ0 ws 0):=by
  have e1:mCons (mCall f_p_words_of (mCons (mVar 0) mNil)) mNil ρ μ0 = .ok [.ref μ0.length] (μ0 ++ [.lst ws]):=v_cons (v_call (v_cons (v_var 0 hρ) v_nil) (words_eq hx h μ0)) v_nil
  have hl:(μ0 ++ [Cell.lst ws]).length = μ0.length + 1:=by simp
  have at1:∀ {c:Cell},(μ0 ++ [Cell.lst ws] ++ [c])[μ0.length + 1]? = some c:=fun {c} => by
    rw [List.getElem?_append_right (by simp)]
    simp
  have st1:∀ {c d:Cell},(μ0 ++ [Cell.lst ws] ++ [c]).set (μ0.length + 1) d = μ0 ++ [Cell.lst ws] ++ [d]:=fun {c d} => by
    rw [List.set_append_right _ _ (by simp)]
    simp
  have od:∀ {ns:List Str} {ds:List D},objD oC_Reader (.ref (μ0.length + 1)) (μ0 ++ [.lst ws] ++ [.obj "Reader" ns ds]) = some (μ0.length + 1,("Reader":Str),ns,ds):=fun {ns ds} => by
    unfold objD
    dsimp only
    rw [at1]
    exact if_pos (by decide +kernel)
  have ei:f_p_Reader__init__ [.ref (μ0.length + 1),.ref μ0.length] (μ0 ++ [.lst ws] ++ [.obj "Reader" [] []]) = .ok .non (sR μ0 ws 0):=by
    refine v_fnN 0 ((v_seqN (ρ1:=[some (.ref (μ0.length + 1)),some (.ref μ0.length)]) (μ1:=μ0 ++ [.lst ws] ++ [.obj "Reader" ["words"] [.ref μ0.length]]) ?_).trans (?_:_ = Res.ok (Out.nx [some (.ref (μ0.length + 1)),some (.ref μ0.length)]) (sR μ0 ws 0)))
    · show setA oC_Reader "words" [some (.ref (μ0.length + 1)),some (.ref μ0.length)] (.ref (μ0.length + 1)) (.ref μ0.length) (μ0 ++ [.lst ws] ++ [.obj "Reader" [] []]) = _
      unfold setA
      rw [od]
      dsimp only
      rw [if_pos (by decide),st1]
      rfl
    · show setA oC_Reader "place" [some (.ref (μ0.length + 1)),some (.ref μ0.length)] (.ref (μ0.length + 1)) (.int 0) (μ0 ++ [.lst ws] ++ [.obj "Reader" ["words"] [.ref μ0.length]]) = _
      unfold setA
      rw [od]
      dsimp only
      rw [if_pos (by decide)]
      have:putN "place" (.int 0) ["words"] [.ref μ0.length] = ((["words","place"]:List Str),([.ref μ0.length,.int 0]:List D)):=by
        unfold putN
        rw [if_neg (by decide +kernel)]
        rfl
      rw [this,st1]
      rfl
  unfold mNew
  rw [e1,bind_ok]
  unfold newD
  rw [hl,ei]
  rfl
theorem read_br {x:List Nat} (hx:Tx0 x) {ws:List D} (h:Lx x ws) (hW:∀ p,WV (hd ws p)) (μ0:Mu):Br μ0 ws (f_p_read [.str x] μ0) (rdP ws):=by
  refine BrS.fn (BrS.of (v_set 1 (new_eq hx h μ0 rfl)) (BrS.set (Br.call rfl (f_br hW 64 0 0 0)) fun t q => ?_))
  have t1:=lt_r (μ0:=μ0) (ws:=ws) (p:=q) (ρ:=[some (.ref (μ0.length + 1))]) rfl
  by_cases hq:q < ws.length
  · rw [if_pos hq]
    unfold ef
    split <;> trivial
  · rw [if_neg hq]
    rw [decide_eq_false hq] at t1
    have em:mMe "Reader" "expect_end" f_m_Reader_expect_end (mVar 1) mNil [some (.str x),some (.ref (μ0.length + 1)),some t] (sR μ0 ws q) = .ok .non (sR μ0 ws q):=by
      unfold mMe
      rw [v_var 1 rfl,bind_ok,if_pos (obj_r (by decide +kernel))]
      show noX (f_m_Reader_expect_end [.ref (μ0.length + 1)] (sR μ0 ws q)) = _
      rw [show f_m_Reader_expect_end [.ref (μ0.length + 1)] (sR μ0 ws q) = .ok .non (sR μ0 ws q) from v_fnN 0 (v_iteF t1)]
      rfl
    exact ⟨_,(v_seqN (v_drop em)).trans (v_ret rfl),rfl⟩
end K10
set_option Elab.async false
set_option linter.all false
set_option maxRecDepth 100000
set_option maxHeartbeats 400000
namespace K10
open PySem PySem.Spec PyProof.Rows L2 M NumText
noncomputable def cell (ns:List Int) (k:Nat):Int:=if ns = [] then 0 else ns.getD (k % ns.length) 0
noncomputable def sc (ns:List Int):D:=.lst (ns.map .int)
theorem cell_eq (ns:List Int) (k:Nat) (μ:Mu):f_cell [sc ns,.int k] μ = .ok (.int (cell ns k)) μ:=by
  cases ns with
  | nil => rfl
  | cons n r =>
    refine v_fn 0 (v_take rfl (v_bin rfl (v_bin rfl (v_callB (d:=.int (List.map D.int (n :: r)).length) rfl rfl) (g_mod _ _ ?_)) ?_))
    · rw [List.length_map,List.length_cons]; omega
    · show atI ((n :: r).map D.int) ((k:Int) % ((List.map D.int (n :: r)).length:Nat)) = _
      rw [atI_pos (Int.emod_nonneg _ (by rw [List.length_map,List.length_cons]; omega))]
      have e2:((k:Int) % ((List.map D.int (n :: r)).length:Nat)).toNat = k % (n :: r).length:=by
        rw [List.length_map]
        omega
      have hk:k % (n :: r).length < (n :: r).length:=Nat.mod_lt _ (by simp)
      rw [e2,List.getElem?_map,List.getElem?_eq_getElem hk]
      simp only [cell,reduceCtorEq,if_false,Option.map_some]
      rw [List.getD_eq_getElem?_getD,List.getElem?_eq_getElem hk]
      rfl
noncomputable def mixv (c:Int) (k:Nat):Int:=(c + 104729 * ((k:Int) + 1)) % 4294967291 * 48271 % 4294967279
noncomputable def mix (ns:List Int) (k:Nat):Int:=(mixv (cell ns k) k / 64 * 69621 + mixv (cell ns k) k) % 4294967231
theorem mix_eq (ns:List Int) (k:Nat) (μ:Mu):f_mix [sc ns,.int k] μ = .ok (.int (mix ns k)) μ:=by
  refine v_fn 1 ((v_set 2 (d:=.int ((cell ns k + 104729 * ((k:Int) + 1)) % 4294967291)) (v_bin (v_bin (v_call rfl (cell_eq ns k μ)) (v_bin rfl (v_bin rfl rfl rfl) (g_mulL _ _ (by decide) (by decide))) rfl) rfl (g_mod _ _ (by decide)))).trans
    ((v_set 2 (d:=.int (mixv (cell ns k) k)) (v_bin (v_bin rfl rfl (g_mulR _ _ (by decide) (by decide))) rfl (g_mod _ _ (by decide)))).trans (v_ret ?_)))
  exact v_bin (x:=.int (mixv (cell ns k) k / 64 * 69621 + mixv (cell ns k) k)) (v_bin (x:=.int (mixv (cell ns k) k / 64 * 69621)) (v_bin (x:=.int (mixv (cell ns k) k / 64)) (v_bin (x:=.int (mixv (cell ns k) k)) rfl rfl (g_div _ _ (by decide) (by decide))) rfl (g_mulR _ _ (by decide) (by decide))) rfl rfl) rfl (g_mod _ _ (by decide))
theorem mix_lo (ns:List Int) (k:Nat):0 ≤ mix ns k:=Int.emod_nonneg _ (by decide)
noncomputable def iL (L:List Nat):List D:=L.map fun (g:Nat) => D.int g
theorem v_range {m:MX} {ρ:En} {μ:Mu} {n:Nat} (h:m ρ μ = .ok (.int n) μ) (hn:n < 1000000):mRange1 m ρ μ = .ok (iL (List.range' 0 n)) μ:=by
  rw [e_range1,h,bind_ok,e_kRange1]
  unfold asRange
  dsimp only
  rw [if_pos (by constructor <;> omega),Int.toNat_natCast,ofO_some]
  unfold rangeD
  rw [List.range_eq_range']
  rfl
theorem iL_cons (p m:Nat):iL (List.range' p (m + 1)) = D.int p :: iL (List.range' (p + 1) m):=by rw [List.range'_succ]; rfl
theorem mod_nat {ns:List Int} {k n:Nat} (h:0 < n):∃ a:Nat,a < n ∧ mix ns k % (n:Int) = (a:Int):=by
  have a1:=Int.emod_nonneg (mix ns k) (b:=(n:Int)) (by omega)
  have a2:=Int.emod_lt_of_pos (mix ns k) (b:=(n:Int)) (by omega)
  exact ⟨(mix ns k % (n:Int)).toNat,by omega,by omega⟩
noncomputable def opL:List (List Nat):=[w_plus,w_minus,w_times,w_over,w_rest,w_and,w_or,w_xor,w_left,w_right]
noncomputable def opw (n:Int):List Nat:=opL.getD (n % 10).toNat []
theorem opw_mem (n:Int):opw n ∈ opL:=by
  unfold opw
  have hk:(n % 10).toNat < opL.length:=by show _ < 10; omega
  rw [List.getD_eq_getElem?_getD,List.getElem?_eq_getElem hk]
  exact List.getElem_mem hk
theorem op_eq (n:Int) (μ:Mu):f_op [.int n] μ = .ok (.str (opw n)) μ:=by
  have hk:(n % 10).toNat < opL.length:=by show _ < 10; omega
  refine v_fn 0 (v_ret (v_bin (x:=.lst (opL.map .str)) rfl (v_bin rfl rfl (g_mod _ _ (by decide))) ?_))
  show atI (opL.map D.str) (n % 10) = _
  unfold opw
  rw [atI_pos (by omega),List.getElem?_map,List.getElem?_eq_getElem hk,List.getD_eq_getElem?_getD,List.getElem?_eq_getElem hk]
  rfl
theorem op_all {P:List Nat → Prop} (h:P w_plus ∧ P w_minus ∧ P w_times ∧ P w_over ∧ P w_rest ∧ P w_and ∧ P w_or ∧ P w_xor ∧ P w_left ∧ P w_right):∀ x ∈ opL,P x:=by
  intro x hx
  simp only [opL,List.mem_cons,List.not_mem_nil,or_false] at hx
  obtain ⟨h1,h2,h3,h4,h5,h6,h7,h8,h9,h10⟩:=h
  rcases hx with rfl | rfl | rfl | rfl | rfl | rfl | rfl | rfl | rfl | rfl <;> assumption
theorem at_code {ds:List D} {p:Nat} {d:D} (h:ds[p]? = some d):gIdx (.lst ds) (.int p) = some d:=by
  show atI ds (p:Int) = _
  rw [atI_pos (by omega),Int.toNat_natCast,h]
theorem mix_at (ns:List Int) (k:Nat) {i:Int} (h:i = k) (μ:Mu):f_mix [sc ns,.int i] μ = .ok (.int (mix ns k)) μ:=by rw [h]; exact mix_eq ns k μ
theorem v_div {x:Nat} {n j:Int} {μ:Mu} (h:ρ[x]? = some (some (.int n))) (h1:0 < j) (h2:j < 18446744073709551616):mBin gDiv (mVar x) (mC (.int j)) ρ μ = .ok (.int (n / j)) μ:=v_bin (v_var x h) rfl (g_div _ _ h1 h2)
theorem v_mod {i j:Int} {μ:Mu} (h:m ρ μ = .ok (.int i) μ) (h1:0 < j):mBin gMod m (mC (.int j)) ρ μ = .ok (.int (i % j)) μ:=v_bin h rfl (g_mod _ _ h1)
inductive N | num (k:Int) | len | load (s:Int) (a:N) | op (x:List Nat) (a b:N)
inductive B | tru (b:Bool) | nt (a:B) | both (a b:B) | eith (a b:B) | cmp (x:List Nat) (a b:N)
noncomputable def N.d:N → D
  | .num k => .tup [.str w_number,.int k]
  | .len => .tup [.str w_len]
  | .load s a => .tup [.str w_load,.int s,a.d]
  | .op x a b => .tup [.str x,a.d,b.d]
noncomputable def B.d:B → D
  | .tru b => .tup [.str w_truth,.bl b]
  | .nt a => .tup [.str w_not,a.d]
  | .both a b => .tup [.str w_both,a.d,b.d]
  | .eith a b => .tup [.str w_either,a.d,b.d]
  | .cmp x a b => .tup [.str x,a.d,b.d]
noncomputable def cpL:List (List Nat):=[w_same,w_unlike,w_below,w_above,w_most,w_least]
theorem cp_all {P:List Nat → Prop} (h:P w_same ∧ P w_unlike ∧ P w_below ∧ P w_above ∧ P w_most ∧ P w_least):∀ x ∈ cpL,P x:=by
  intro x hx
  simp only [cpL,List.mem_cons,List.not_mem_nil,or_false] at hx
  obtain ⟨h1,h2,h3,h4,h5,h6⟩:=h
  rcases hx with rfl | rfl | rfl | rfl | rfl | rfl <;> assumption
noncomputable def N.ok:N → Prop
  | .num k => 0 ≤ k ∧ k < 4294967296
  | .len => True
  | .load s a => (s = 1 ∨ s = 2 ∨ s = 4) ∧ a.ok
  | .op x a b => x ∈ opL ∧ a.ok ∧ b.ok
noncomputable def B.ok:B → Prop
  | .tru _ => True
  | .nt a => a.ok
  | .both a b => a.ok ∧ b.ok
  | .eith a b => a.ok ∧ b.ok
  | .cmp x a b => x ∈ cpL ∧ a.ok ∧ b.ok
noncomputable def N.c:N → Nat
  | .num _ => 1
  | .len => 1
  | .load _ a => a.c + 2
  | .op _ a b => a.c + b.c + 2
noncomputable def B.c:B → Nat
  | .tru _ => 1
  | .nt a => a.c + 2
  | .both a b => a.c + b.c + 2
  | .eith a b => a.c + b.c + 2
  | .cmp _ a b => a.c + b.c + 2
noncomputable def N.dp:N → Nat
  | .num _ => 1
  | .len => 1
  | .load _ a => a.dp + 1
  | .op _ a b => max a.dp b.dp + 1
noncomputable def B.dp:B → Nat
  | .tru _ => 1
  | .nt a => a.dp + 1
  | .both a b => max a.dp b.dp + 1
  | .eith a b => max a.dp b.dp + 1
  | .cmp _ a b => 1
noncomputable def B.nd:B → Prop
  | .tru _ => True
  | .nt a => a.nd
  | .both a b => a.nd ∧ b.nd
  | .eith a b => a.nd ∧ b.nd
  | .cmp _ a b => a.dp ≤ 3 ∧ b.dp ≤ 2
theorem rc_n (k:Nat):rc_number (k + 1) 0 = fnOf 3 (b_number (rc_number k)):=rfl
theorem rc_t (k:Nat):rc_truth (k + 1) 0 = fnOf 3 (b_truth (rc_truth k)):=rfl
noncomputable def ncN:Nat → Nat
  | 0 => 1
  | d + 1 => 2 * ncN d + 2
noncomputable def ncB:Nat → Nat
  | 0 => 16
  | d + 1 => 2 * ncB d + 2
theorem ncN_pos:∀ d,1 ≤ ncN d
  | 0 => Nat.le_refl _
  | d + 1 => by simp only [ncN]; omega
theorem cB_pos:∀ d,16 ≤ ncB d
  | 0 => Nat.le_refl _
  | d + 1 => by have:=cB_pos d; simp only [ncB]; omega
section
variable {ns:List Int} {μ:Mu}
theorem v_lin {ρ:En} {x b:Nat} (h:ρ[x]? = some (some (.int b))) (p q:Nat) (hp:p < 100):mBin gAdd (mBin gMul (mC (.int p)) (mVar x)) (mC (.int q)) ρ μ = .ok (.int ((p * b + q:Nat):Int)) μ:=by
  refine v_bin (x:=.int (p * b)) (y:=.int q) (v_bin rfl (v_var x h) (g_mulL _ _ (by omega) (by omega))) rfl ?_
  show some (D.int ((p:Int) * b + q)) = _
  congr 2
theorem v_dec {ρ:En} {x d:Nat} (h:ρ[x]? = some (some (.int ((d + 1:Nat):Int)))):mBin gSub (mVar x) (mC (.int 1)) ρ μ = .ok (.int d) μ:=by
  refine v_bin (v_var x h) rfl ?_
  show some (D.int (((d + 1:Nat):Int) - 1)) = _
  congr 2
  omega
theorem sizes {d:D} (h:d ∈ [D.int 1,.int 2,.int 4]):∃ s,d = .int s ∧ (s = 1 ∨ s = 2 ∨ s = 4):=by
  simp only [List.mem_cons,List.not_mem_nil,or_false] at h
  rcases h with rfl | rfl | rfl
  · exact ⟨1,rfl,.inl rfl⟩
  · exact ⟨2,rfl,.inr (.inl rfl)⟩
  · exact ⟨4,rfl,.inr (.inr rfl)⟩
theorem kinds {n:Int} {d:D} (h0:0 ≤ n) (h:d ∈ [D.int 0,.int 1,.int 2,.int 7,.int 12,.int 20,.int 33,.int 255,.int 4294967295,.int (n % 4294967296)]):∃ i,d = .int i ∧ 0 ≤ i ∧ i < 4294967296:=by
  simp only [List.mem_cons,List.not_mem_nil,or_false] at h
  rcases h with rfl | rfl | rfl | rfl | rfl | rfl | rfl | rfl | rfl | rfl
  all_goals first | exact ⟨_,rfl,by decide,by decide⟩ | exact ⟨_,rfl,by omega,by omega⟩
theorem leaf_eq {r:MSt} {b:Nat} {dp:D}:∃ a:N,(mSeq (mSet 4 (mBin gIdx (mLst (mCons (mC (.int 0)) (mCons (mC (.int 1)) (mCons (mC (.int 2)) (mCons (mC (.int 7)) (mCons (mC (.int 12)) (mCons (mC (.int 20)) (mCons (mC (.int 33)) (mCons (mC (.int 255)) (mCons (mC (.int 4294967295)) (mCons (mBin gMod (mVar 3) (mC (.int 4294967296))) mNil))))))))))) (mBin gMod (mBin gDiv (mVar 3) (mC (.int 5))) (mC (.int 10)))))
    (mRet (mBin gIdx (mLst (mCons (mTup (mCons (mC (.str w_len)) mNil)) (mCons (mTup (mCons (mC (.str w_number)) (mCons (mVar 4) mNil))) (mCons (mTup (mCons (mC (.str w_number)) (mCons (mVar 4) mNil))) mNil)))) (mBin gMod (mBin gDiv (mVar 3) (mC (.int 50))) (mC (.int 3)))))) [some (sc ns),some (.int b),some dp,some (.int (mix ns b)),none,none] μ = .ok (.rt a.d) μ ∧ a.ok ∧ a.c ≤ 1 ∧ a.dp ≤ 1:=by
  have h0:=mix_lo ns b
  obtain ⟨d,hd,e⟩:=v_pick (ρ:=[some (sc ns),some (.int b),some dp,some (.int (mix ns b)),none,none]) (μ:=μ) (m:=mBin gDiv (mVar 3) (mC (.int 5))) (L:=[.int 0,.int 1,.int 2,.int 7,.int 12,.int 20,.int 33,.int 255,.int 4294967295,.int (mix ns b % 4294967296)]) (n:=10)
    (ms:=mCons (mC (.int 0)) (mCons (mC (.int 1)) (mCons (mC (.int 2)) (mCons (mC (.int 7)) (mCons (mC (.int 12)) (mCons (mC (.int 20)) (mCons (mC (.int 33)) (mCons (mC (.int 255)) (mCons (mC (.int 4294967295)) (mCons (mBin gMod (mVar 3) (mC (.int 4294967296))) mNil))))))))))
    (v_cons rfl (v_cons rfl (v_cons rfl (v_cons rfl (v_cons rfl (v_cons rfl (v_cons rfl (v_cons rfl (v_cons rfl (v_cons (v_mod rfl (by decide)) v_nil)))))))))) (v_div (x:=3) rfl (by decide) (by decide)) rfl (by decide)
  obtain ⟨i,rfl,i0,i1⟩:=kinds h0 hd
  obtain ⟨d2,hd2,e2⟩:=v_pick (ρ:=[some (sc ns),some (.int b),some dp,some (.int (mix ns b)),some (.int i),none]) (μ:=μ) (m:=mBin gDiv (mVar 3) (mC (.int 50))) (L:=[.tup [.str w_len],.tup [.str w_number,.int i],.tup [.str w_number,.int i]]) (n:=3)
    (ms:=mCons (mTup (mCons (mC (.str w_len)) mNil)) (mCons (mTup (mCons (mC (.str w_number)) (mCons (mVar 4) mNil))) (mCons (mTup (mCons (mC (.str w_number)) (mCons (mVar 4) mNil))) mNil))) rfl (v_div (x:=3) rfl (by decide) (by decide)) rfl (by decide)
  simp only [List.mem_cons,List.not_mem_nil,or_false] at hd2
  rcases hd2 with rfl | rfl | rfl
  · exact ⟨.len,(v_set 4 e).trans (v_ret e2),trivial,Nat.le_refl _,Nat.le_refl _⟩
  · exact ⟨.num i,(v_set 4 e).trans (v_ret e2),⟨i0,i1⟩,Nat.le_refl _,Nat.le_refl _⟩
  · exact ⟨.num i,(v_set 4 e).trans (v_ret e2),⟨i0,i1⟩,Nat.le_refl _,Nat.le_refl _⟩
theorem number_eq (ns:List Int) (μ:Mu):∀ (k d b:Nat),d < k → ∃ a:N,rc_number k 0 [sc ns,.int b,.int d] μ = .ok a.d μ ∧ a.ok ∧ a.c ≤ ncN d ∧ a.dp ≤ d + 1
  | 0,d,b,h => absurd h (by omega)
  | k + 1,0,b,h => by
    rw [rc_n]
    obtain ⟨a,e,h1,h2,h3⟩:=leaf_eq (ns:=ns) (μ:=μ) (r:=mSkip) (b:=b) (dp:=.int ((0:Nat):Int))
    exact ⟨a,v_fn 3 ((v_set 3 (v_call rfl (mix_at ns b rfl μ))).trans (v_seqR ((v_iteT (v_orT rfl)).trans e))),h1,h2,h3⟩
  | k + 1,d + 1,b,h => by
    rw [rc_n]
    have h0:=mix_lo ns b
    have tz:mTest (mBin gEq (mVar 2) (mC (.int 0))) [some (sc ns),some (.int b),some (.int ((d + 1:Nat):Int)),some (.int (mix ns b)),none,none] μ = .ok false μ:=by
      refine v_test (v_bin rfl rfl ?_)
      rw [deref_int,deref_int,g_eqI,show (((d + 1:Nat):Int) == 0) = false by rw [beq_eq_false_iff_ne]; omega]
    have t5:mTest (mBin gLt (mBin gMod (mVar 3) (mC (.int 5))) (mC (.int 2))) [some (sc ns),some (.int b),some (.int ((d + 1:Nat):Int)),some (.int (mix ns b)),none,none] μ = .ok (decide (mix ns b % 5 < 2)) μ:=v_test (v_bin (v_mod rfl (by decide)) rfl (g_lt _ _))
    have t2:mTest (mBin gEq (mBin gMod (mVar 3) (mC (.int 5))) (mC (.int 2))) [some (sc ns),some (.int b),some (.int ((d + 1:Nat):Int)),some (.int (mix ns b)),none,none] μ = .ok (mix ns b % 5 == 2) μ:=v_test (v_bin (v_mod rfl (by decide)) rfl (g_eqI _ _))
    obtain ⟨a1,ea,oka,ca,da⟩:=number_eq ns μ k d (3 * b + 1) (by omega)
    obtain ⟨a2,eb,okb,cb,db⟩:=number_eq ns μ k d (3 * b + 2) (by omega)
    by_cases h5:mix ns b % 5 < 2
    · rw [decide_eq_true h5] at t5
      obtain ⟨a,e,h1,h2,h3⟩:=leaf_eq (ns:=ns) (μ:=μ) (r:=mSkip) (b:=b) (dp:=.int ((d + 1:Nat):Int))
      exact ⟨a,v_fn 3 ((v_set 3 (v_call rfl (mix_at ns b rfl μ))).trans (v_seqR ((v_iteT ((v_orF tz).trans t5)).trans e))),h1,by have:=ncN_pos (d + 1); omega,by omega⟩
    · rw [decide_eq_false h5] at t5
      by_cases h2:(mix ns b % 5 == 2) = true
      · rw [h2] at t2
        obtain ⟨s,hs,es⟩:=v_pick (ρ:=[some (sc ns),some (.int b),some (.int ((d + 1:Nat):Int)),some (.int (mix ns b)),none,none]) (μ:=μ) (m:=mBin gDiv (mVar 3) (mC (.int 5))) (L:=[.int 1,.int 2,.int 4]) (n:=3) (ms:=mCons (mC (.int 1)) (mCons (mC (.int 2)) (mCons (mC (.int 4)) mNil))) rfl (v_div (x:=3) rfl (by decide) (by decide)) rfl (by decide)
        obtain ⟨s,rfl,hs3⟩:=sizes hs
        exact ⟨.load s a1,v_fn 3 ((v_set 3 (v_call rfl (mix_at ns b rfl μ))).trans ((v_skip ((v_orF tz).trans t5)).trans (v_take t2 (v_tup (v_cons rfl (v_cons es (v_cons (v_call (v_cons rfl (v_cons (v_lin rfl 3 1 (by decide)) (v_cons (v_dec rfl) v_nil))) ea) v_nil))))))),⟨hs3,oka⟩,by simp only [N.c,ncN]; omega,by simp only [N.dp]; omega⟩
      · rw [Bool.not_eq_true] at h2
        rw [h2] at t2
        have eo:=op_eq (mix ns b / 5) μ
        exact ⟨.op (opw (mix ns b / 5)) a1 a2,v_fn 3 ((v_set 3 (v_call rfl (mix_at ns b rfl μ))).trans ((v_skip ((v_orF tz).trans t5)).trans ((v_skip t2).trans ((v_set 5 (v_call (v_cons rfl (v_cons (v_lin rfl 3 1 (by decide)) (v_cons (v_dec rfl) v_nil))) ea)).trans (v_ret (v_tup (v_cons (v_call (v_cons (v_div (x:=3) rfl (by decide) (by decide)) v_nil) eo) (v_cons rfl (v_cons (v_call (v_cons rfl (v_cons (v_lin rfl 3 2 (by decide)) (v_cons (v_dec rfl) v_nil))) eb) v_nil))))))))),⟨opw_mem _,oka,okb⟩,by simp only [N.c,ncN]; omega,by simp only [N.dp]; omega⟩
theorem truth_eq (ns:List Int) (μ:Mu):∀ (k d b:Nat),d < k → ∃ a:B,rc_truth k 0 [sc ns,.int b,.int d] μ = .ok a.d μ ∧ a.ok ∧ a.nd ∧ a.c ≤ ncB d ∧ a.dp ≤ d + 1
  | 0,d,b,h => absurd h (by omega)
  | k + 1,d,b,h => by
    rw [rc_t]
    have h0:=mix_lo ns b
    have t0:mTest (mBin gGt (mVar 2) (mC (.int 0))) [some (sc ns),some (.int b),some (.int d),some (.int (mix ns b)),none,none] μ = .ok (decide ((d:Int) > 0)) μ:=v_test (v_bin rfl rfl (g_gt _ _))
    have t3:mTest (mBin gLt (mBin gMod (mVar 3) (mC (.int 5))) (mC (.int 3))) [some (sc ns),some (.int b),some (.int d),some (.int (mix ns b)),none,none] μ = .ok (decide (mix ns b % 5 < 3)) μ:=v_test (v_bin (v_mod rfl (by decide)) rfl (g_lt _ _))
    have leaf:mAnd (mTest (mBin gGt (mVar 2) (mC (.int 0)))) (mTest (mBin gLt (mBin gMod (mVar 3) (mC (.int 5))) (mC (.int 3)))) [some (sc ns),some (.int b),some (.int d),some (.int (mix ns b)),none,none] μ = .ok false μ → ∃ a:B,fnOf 3 (b_truth (rc_truth k)) [sc ns,.int b,.int d] μ = .ok a.d μ ∧ a.ok ∧ a.nd ∧ a.c ≤ ncB d ∧ a.dp ≤ d + 1:=fun hf => by
      have t7:mTest (mBin gEq (mBin gMod (mBin gDiv (mVar 3) (mC (.int 5))) (mC (.int 7))) (mC (.int 0))) [some (sc ns),some (.int b),some (.int d),some (.int (mix ns b)),none,none] μ = .ok (mix ns b / 5 % 7 == 0) μ:=v_test (v_bin (v_mod (v_div (x:=3) rfl (by decide) (by decide)) (by decide)) rfl (g_eqI _ _))
      have hcb:=cB_pos d
      by_cases h7:(mix ns b / 5 % 7 == 0) = true
      · rw [h7] at t7
        exact ⟨.tru (mix ns b / 35 % 2 == 0),v_fn 3 ((v_set 3 (v_call rfl (mix_at ns b rfl μ))).trans ((v_skip hf).trans (v_take t7 (v_tup (v_cons rfl (v_cons (v_bin (v_mod (v_div (x:=3) rfl (by decide) (by decide)) (by decide)) rfl (g_eqI _ _)) v_nil)))))),trivial,trivial,by simp only [B.c]; omega,by simp only [B.dp]; omega⟩
      · rw [Bool.not_eq_true] at h7
        rw [h7] at t7
        obtain ⟨s,hs,es⟩:=v_pick (ρ:=[some (sc ns),some (.int b),some (.int d),some (.int (mix ns b)),none,none]) (μ:=μ) (m:=mBin gDiv (mVar 3) (mC (.int 35))) (L:=[.str w_same,.str w_unlike,.str w_below,.str w_above,.str w_most,.str w_least]) (n:=6) (ms:=mCons (mC (.str w_same)) (mCons (mC (.str w_unlike)) (mCons (mC (.str w_below)) (mCons (mC (.str w_above)) (mCons (mC (.str w_most)) (mCons (mC (.str w_least)) mNil)))))) rfl (v_div (x:=3) rfl (by decide) (by decide)) rfl (by decide)
        obtain ⟨x,rfl,hx⟩:∃ x,s = .str x ∧ x ∈ cpL:=by
          simp only [List.mem_cons,List.not_mem_nil,or_false] at hs
          rcases hs with rfl | rfl | rfl | rfl | rfl | rfl <;> exact ⟨_,rfl,by simp [cpL]⟩
        obtain ⟨a1,ea,oka,ca,da⟩:=number_eq ns μ 6 2 (5 * b + 3) (by decide)
        obtain ⟨a2,eb,okb,cb,db⟩:=number_eq ns μ 6 1 (5 * b + 4) (by decide)
        have c2:ncN 2 = 10:=rfl
        have c1:ncN 1 = 4:=rfl
        exact ⟨.cmp x a1 a2,v_fn 3 ((v_set 3 (v_call rfl (mix_at ns b rfl μ))).trans ((v_skip hf).trans ((v_skip t7).trans ((v_set 5 es).trans (v_ret (v_tup (v_cons rfl (v_cons (v_call (v_cons rfl (v_cons (v_lin rfl 5 3 (by decide)) (v_cons rfl v_nil))) ea) (v_cons (v_call (v_cons rfl (v_cons (v_lin rfl 5 4 (by decide)) (v_cons rfl v_nil))) eb) v_nil))))))))),⟨hx,oka,okb⟩,⟨by omega,by omega⟩,by simp only [B.c]; omega,by simp only [B.dp]; omega⟩
    cases d with
    | zero => exact leaf (v_andF t0)
    | succ d =>
      rw [decide_eq_true (show ((d + 1:Nat):Int) > 0 by omega)] at t0
      by_cases h3:mix ns b % 5 < 3
      · rw [decide_eq_true h3] at t3
        obtain ⟨a1,ea,oka,na,ca,da⟩:=truth_eq ns μ k d (2 * b + 1) (by omega)
        obtain ⟨a2,eb,okb,nb,cb,db⟩:=truth_eq ns μ k d (2 * b + 2) (by omega)
        have tn:mTest (mBin gEq (mBin gMod (mVar 3) (mC (.int 5))) (mC (.int 0))) [some (sc ns),some (.int b),some (.int ((d + 1:Nat):Int)),some (.int (mix ns b)),some a1.d,none] μ = .ok (mix ns b % 5 == 0) μ:=v_test (v_bin (v_mod rfl (by decide)) rfl (g_eqI _ _))
        have hd:∀ {r:MSt} {x:D},(mSeq (mIte (mTest (mBin gEq (mBin gMod (mVar 3) (mC (.int 5))) (mC (.int 0)))) (mRet (mTup (mCons (mC (.str w_not)) (mCons (mVar 4) mNil)))) mSkip) (mRet (mTup (mCons (mBin gIdx (mLst (mCons (mC (.str w_both)) (mCons (mC (.str w_either)) mNil))) (mBin gSub (mBin gMod (mVar 3) (mC (.int 5))) (mC (.int 1)))) (mCons (mVar 4) (mCons (mCall (rc_truth k 0) (mCons (mVar 0) (mCons (mBin gAdd (mBin gMul (mC (.int 2)) (mVar 1)) (mC (.int 2))) (mCons (mBin gSub (mVar 2) (mC (.int 1))) mNil)))) mNil)))))) [some (sc ns),some (.int b),some (.int ((d + 1:Nat):Int)),some (.int (mix ns b)),some a1.d,none] μ = .ok (.rt x) μ → fnOf 3 (b_truth (rc_truth k)) [sc ns,.int b,.int ((d + 1:Nat):Int)] μ = .ok x μ:=fun {r x} e =>
          v_fn 3 ((v_set 3 (v_call rfl (mix_at ns b rfl μ))).trans (v_seqR ((v_iteT ((v_andT t0).trans t3)).trans ((v_set 4 (v_call (v_cons rfl (v_cons (v_lin rfl 2 1 (by decide)) (v_cons (v_dec rfl) v_nil))) ea)).trans e))))
        have jn:∀ (y:List Nat) (i:Nat),mix ns b % 5 = ((i + 1:Nat):Int) → [D.str w_both,.str w_either][i]? = some (.str y) → (mSeq (mIte (mTest (mBin gEq (mBin gMod (mVar 3) (mC (.int 5))) (mC (.int 0)))) (mRet (mTup (mCons (mC (.str w_not)) (mCons (mVar 4) mNil)))) mSkip) (mRet (mTup (mCons (mBin gIdx (mLst (mCons (mC (.str w_both)) (mCons (mC (.str w_either)) mNil))) (mBin gSub (mBin gMod (mVar 3) (mC (.int 5))) (mC (.int 1)))) (mCons (mVar 4) (mCons (mCall (rc_truth k 0) (mCons (mVar 0) (mCons (mBin gAdd (mBin gMul (mC (.int 2)) (mVar 1)) (mC (.int 2))) (mCons (mBin gSub (mVar 2) (mC (.int 1))) mNil)))) mNil)))))) [some (sc ns),some (.int b),some (.int ((d + 1:Nat):Int)),some (.int (mix ns b)),some a1.d,none] μ = .ok (.rt (.tup [.str y,a1.d,a2.d])) μ:=fun y i hi hy => by
          have hn:(mix ns b % 5 == 0) = false:=by rw [beq_eq_false_iff_ne]; omega
          rw [hn] at tn
          refine (v_skip tn).trans (v_ret (v_tup (v_cons (v_bin (x:=.lst [.str w_both,.str w_either]) (y:=.int i) rfl (v_bin (v_mod rfl (by decide)) rfl ?_) (at_code hy)) (v_cons rfl (v_cons (v_call (v_cons rfl (v_cons (v_lin rfl 2 2 (by decide)) (v_cons (v_dec rfl) v_nil))) eb) v_nil)))))
          show some (D.int (mix ns b % 5 - 1)) = _
          congr 2
          omega
        have h3':mix ns b % 5 = 0 ∨ mix ns b % 5 = 1 ∨ mix ns b % 5 = 2:=by omega
        rcases h3' with e | e | e
        · rw [e] at tn
          exact ⟨.nt a1,hd (r:=mSkip) (v_take tn rfl),oka,na,by simp only [B.c,ncB]; omega,by simp only [B.dp]; omega⟩
        · exact ⟨.both a1 a2,hd (r:=mSkip) (jn w_both 0 (by omega) rfl),⟨oka,okb⟩,⟨na,nb⟩,by simp only [B.c,ncB]; omega,by simp only [B.dp]; omega⟩
        · exact ⟨.eith a1 a2,hd (r:=mSkip) (jn w_either 1 (by omega) rfl),⟨oka,okb⟩,⟨na,nb⟩,by simp only [B.c,ncB]; omega,by simp only [B.dp]; omega⟩
      · rw [decide_eq_false h3] at t3
        exact leaf ((v_andT t0).trans t3)
end
end K10
set_option Elab.async false
set_option linter.all false
set_option maxRecDepth 100000
set_option maxHeartbeats 400000
namespace K10
open PySem PySem.Spec PyProof.Rows L2 M NumText
noncomputable def dgt (n:Nat):List Nat:=(Nat.toDigits 10 n).map Char.toNat
theorem dgt_lt {n:Nat} (h:n < 10):dgt n = [(Nat.digitChar n).toNat]:=by unfold dgt; rw [Nat.toDigits_of_lt_base h]; rfl
theorem dgt_snoc {v d:Nat} (hv:0 < v) (hd:d < 10):dgt (10 * v + d) = dgt v ++ dgt d:=by
  unfold dgt
  rw [← Nat.toDigits_append_toDigits (by decide) hv hd,List.map_append]
theorem dig1:∀ d < 10,(Nat.digitChar d).toNat = d + 48:=by decide
theorem dgt_all (n:Nat):∀ c ∈ dgt n,48 ≤ c ∧ c ≤ 57:=by
  intro c hc
  obtain ⟨ch,hch,e⟩:=List.mem_map.mp hc
  have r:=digit_range (Nat.isDigit_of_mem_toDigits (by decide) (by decide) hch)
  rw [← e]
  exact r
theorem dgt_head (n:Nat):∃ c r,dgt n = c :: r ∧ (c = 48 → n = 0):=by
  induction n using Nat.strongRecOn with
  | _ n ih =>
    by_cases h:n < 10
    · refine ⟨_,_,dgt_lt h,fun e => ?_⟩
      have:=dig1 n h
      omega
    · obtain ⟨c,r,e1,e2⟩:=ih (n / 10) (by omega)
      have:=dgt_snoc (v:=n / 10) (d:=n % 10) (by omega) (by omega)
      rw [Nat.div_add_mod,e1] at this
      exact ⟨c,_,this,fun e => by have:=e2 e; omega⟩
theorem dgt_val (n:Nat):digitsVal (dgt n) = n:=PySem.W.KIN.val_back n
theorem dgt_len:∀ (k n:Nat),0 < k → n < 10 ^ k → (dgt n).length ≤ k
  | 0,_,h,_ => absurd h (by decide)
  | k + 1,n,_,h => by
    by_cases h10:n < 10
    · rw [dgt_lt h10]; simp
    · have hk:0 < k:=by
        rcases Nat.eq_zero_or_pos k with z | z
        · subst z; omega
        · exact z
      have:=dgt_len k (n / 10) hk (by rw [Nat.pow_succ] at h; omega)
      have e:=dgt_snoc (v:=n / 10) (d:=n % 10) (by omega) (by omega)
      rw [Nat.div_add_mod,dgt_lt (by omega:n % 10 < 10)] at e
      rw [e,List.length_append]
      simp only [List.length_singleton]
      omega
theorem dgt_10 {n:Nat} (h:n < 4294967296):(dgt n).length ≤ 10:=dgt_len 10 n (by decide) (by omega)
theorem dgt_ne (n:Nat):dgt n ≠ []:=by
  obtain ⟨c,r,e,_⟩:=dgt_head n
  rw [e]; simp
theorem g_strn {i:Int} (h0:0 ≤ i) (h1:i < 4294967296):gStrC [.int i] = some (.str (dgt i.toNat)):=by
  obtain ⟨n,rfl⟩:=Int.eq_ofNat_of_zero_le h0
  show (if ((n:Nat):Int).natAbs.log2 < 1920 then some (D.str (Str.ofString (toString ((n:Nat):Int))).cps.toList) else none) = _
  have:((n:Nat):Int).natAbs.log2 < 1920:=by
    rw [Int.natAbs_natCast]
    have hn2:n < 4294967296:=by omega
    by_cases z:n = 0
    · subst z; decide
    · exact Nat.lt_of_lt_of_le ((Nat.log2_lt z).mpr (show n < 2 ^ 32 by omega)) (by decide)
  rw [if_pos this,PySem.W.KIN.signs_num]
  rfl
noncomputable def tgt:List (List Nat):=[w_times,w_over,w_rest,w_and,w_left,w_right]
noncomputable def lsL:List (List Nat):=[w_plus,w_minus,w_or,w_xor]
noncomputable def sgT:List (List Nat × List Nat):=[(w_same,w37),(w_unlike,w38),(w_below,w39),(w_above,w40),(w_most,w41),(w_least,w42),(w_plus,w43),(w_minus,w44),(w_times,w45),(w_over,w46),(w_rest,w_rest),(w_and,w47),(w_or,w48),(w_xor,w49),(w_left,w50),(w_right,w51)]
noncomputable def sg (x:List Nat):List Nat:=(sgT.lookup x).getD []
noncomputable def N.hd:N → List Nat
  | .num _ => w_number
  | .len => w_len
  | .load _ _ => w_load
  | .op x _ _ => x
noncomputable def B.hd:B → List Nat
  | .tru _ => w_truth
  | .nt _ => w_not
  | .both _ _ => w_both
  | .eith _ _ => w_either
  | .cmp x _ _ => x
noncomputable def inn (h:List Nat) (ks L:List (List Nat)):List (List Nat):=if h ∈ ks then (if h ∈ [w_both,w_either] then [w_so,w53] else [w53]) ++ L ++ [w54] else L
noncomputable def ldW (s:Int):List Nat:=if s = 1 then w_byte else if s = 2 then w_half else w_word
noncomputable def tolN:N → List (List Nat)
  | .num k => [dgt k.toNat]
  | .len => [w_len]
  | .load s a => [ldW s,w35] ++ tolN a ++ [w36]
  | .op x a b => if x ∈ tgt then inn a.hd lsL (tolN a) ++ [sg x] ++ inn b.hd (lsL ++ tgt) (tolN b) else inn a.hd [] (tolN a) ++ [sg x] ++ inn b.hd lsL (tolN b)
noncomputable def tolB:B → List (List Nat)
  | .tru b => [if b then w_true else w_false]
  | .nt a => [w_not] ++ inn a.hd [w_both,w_either] (tolB a)
  | .both a b => inn a.hd [w_either] (tolB a) ++ [w_and] ++ inn b.hd [w_either,w_both] (tolB b)
  | .eith a b => inn a.hd [] (tolB a) ++ [w_or] ++ inn b.hd [w_either] (tolB b)
  | .cmp x a b => tolN a ++ [sg x] ++ tolN b
theorem inn_len (h:List Nat) (ks L:List (List Nat)):L.length ≤ (inn h ks L).length ∧ (inn h ks L).length ≤ L.length + 3:=by
  unfold inn
  split
  · split <;> simp only [List.length_append,List.length_cons,List.length_nil] <;> omega
  · exact ⟨Nat.le_refl _,by omega⟩
noncomputable abbrev sL (L:List (List Nat)):D:=.lst (L.map .str)
theorem add_s {A B:List (List Nat)} (h:A.length + B.length ≤ 1000):gAdd (sL A) (sL B) = some (sL (A ++ B)):=by
  show (if (A.map D.str).length + (B.map D.str).length ≤ 16777216 then some (D.lst (A.map D.str ++ B.map D.str)) else none) = _
  rw [if_pos (by simp; omega),← List.map_append]
theorem plain_w:∀ {ws:List (List Nat)},(∀ w ∈ ws,∀ c ∈ w,c < 128) → plainDs (ws.map .str) = true
  | [],_ => rfl
  | w :: ws,h => by
    obtain ⟨h1,h2⟩:=List.forall_mem_cons.mp h
    show (plainD (.str w) && plainDs (ws.map .str)) = true
    rw [str_plain h1,plain_w h2]
    rfl
theorem nin_at {w:List Nat} (hw:∀ c ∈ w,c < 128) {ws:List (List Nat)} (hs:∀ v ∈ ws,∀ c ∈ v,c < 128):gNotIn (.str w) (.tup (ws.map .str)) = some (.bl (!decide (w ∈ ws))):=by
  show (if inOk (.str w) (ws.map .str) = true then some (D.bl (!inD (.str w) (ws.map .str))) else none) = _
  have h1:inOk (.str w) (ws.map .str) = true:=by
    unfold inOk
    rw [str_plain hw,plain_w hs]
    rfl
  rw [if_pos h1]
  congr 3
  unfold inD
  rw [List.any_map,Bool.eq_iff_iff,List.any_eq_true,decide_eq_true_eq]
  exact ⟨fun ⟨y,hy,e⟩ => by have e:(y == w) = true:=e; rw [← eq_of_beq e]; exact hy,fun h => ⟨w,h,by show (w == w) = true; exact beq_self_eq_true w⟩⟩
section
variable {μ:Mu}
theorem rc_d (k:Nat):rc_told (k + 1) 0 = fnOf 6 (b_told (rc_told k)):=rfl
theorem rc_i (k:Nat):rc_told (k + 1) 1 = fnOf 0 (b_inner (rc_told k)):=rfl
theorem idx0 (d:D) (r:List D):gIdx (.tup (d :: r)) (.int 0) = some d:=by
  show atI (d :: r) 0 = _
  rw [atI_pos (by omega)]
  rfl
theorem t_inner {k:Nat} {h:List Nat} {r:List D} {L ks:List (List Nat)} (hh:∀ c ∈ h,c < 128) (hk:∀ v ∈ ks,∀ c ∈ v,c < 128) (ht:rc_told k 0 [.tup (.str h :: r)] μ = .ok (sL L) μ) (hl:L.length ≤ 900):rc_told (k + 1) 1 [.tup (.str h :: r),.tup (ks.map .str)] μ = .ok (sL (inn h ks L)) μ:=by
  rw [rc_i]
  have t1:mTest (mBin gNotIn (mBin gIdx (mVar 0) (mC (.int 0))) (mVar 1)) [some (.tup (.str h :: r)),some (.tup (ks.map .str))] μ = .ok (!decide (h ∈ ks)) μ:=v_test (v_bin (x:=.str h) (v_bin rfl rfl (idx0 _ _)) rfl (nin_at hh hk))
  have t2:mTest (mBin gIn (mBin gIdx (mVar 0) (mC (.int 0))) (mTup (mCons (mC (.str w_both)) (mCons (mC (.str w_either)) mNil)))) [some (.tup (.str h :: r)),some (.tup (ks.map .str))] μ = .ok (decide (h ∈ [w_both,w_either])) μ:=v_test (v_bin (x:=.str h) (y:=.tup [.str w_both,.str w_either]) (v_bin rfl rfl (idx0 _ _)) rfl (in_L hh (L:=[w_both,w_either]) (by decide)))
  unfold inn
  by_cases h1:h ∈ ks
  · rw [decide_eq_true h1] at t1
    rw [if_pos h1]
    by_cases h2:h ∈ [w_both,w_either]
    · rw [decide_eq_true h2] at t2
      rw [if_pos h2]
      exact v_fn 0 ((v_skip t1).trans (v_take t2 (v_bin (x:=sL ([w_so,w53] ++ L)) (y:=sL [w54]) (v_bin (x:=sL [w_so,w53]) rfl (v_call rfl ht) (add_s (by simp; omega))) rfl (add_s (by simp; omega)))))
    · rw [decide_eq_false h2] at t2
      rw [if_neg h2]
      exact v_fn 0 ((v_skip t1).trans ((v_skip t2).trans (v_ret (v_bin (x:=sL ([w53] ++ L)) (y:=sL [w54]) (v_bin (x:=sL [w53]) rfl (v_call rfl ht) (add_s (by simp; omega))) rfl (add_s (by simp; omega))))))
  · rw [decide_eq_false h1] at t1
    rw [if_neg h1]
    exact v_fn 0 (v_take t1 (v_call rfl ht))
theorem sg_eq {x:List Nat} (h:x ∈ opL ∨ x ∈ cpL) (μ:Mu):f_sign [.str x] μ = .ok (.str (sg x)) μ:=by
  rcases h with h | h
  · revert h
    exact op_all (P:=fun x => f_sign [.str x] μ = .ok (.str (sg x)) μ) ⟨rfl,rfl,rfl,rfl,rfl,rfl,rfl,rfl,rfl,rfl⟩ x
  · revert h
    exact cp_all (P:=fun x => f_sign [.str x] μ = .ok (.str (sg x)) μ) ⟨rfl,rfl,rfl,rfl,rfl,rfl⟩ x
theorem tgt_op {x:List Nat} (h:x ∈ tgt):x ∈ opL:=by
  have:∀ x ∈ tgt,x ∈ opL:=by decide
  exact this x h
theorem lsL_op {x:List Nat} (h:x ∈ lsL):x ∈ opL:=by
  have:∀ x ∈ lsL,x ∈ opL:=by decide
  exact this x h
theorem t_tight {k:Nat} {x:List Nat} {a b:D} {La Lb:List (List Nat)} (hx:x ∈ tgt) (ha:rc_told k 1 [a,.tup (lsL.map .str)] μ = .ok (sL La) μ) (hb:rc_told k 1 [b,.tup ((lsL ++ tgt).map .str)] μ = .ok (sL Lb) μ) (hl:La.length + Lb.length ≤ 900):rc_told (k + 1) 0 [.tup [.str x,a,b]] μ = .ok (sL (La ++ [sg x] ++ Lb)) μ:=by
  rw [rc_d]
  have hs:=sg_eq (.inl (tgt_op hx)) μ
  have hg:mLst (mCons (mCall f_sign (mCons (mVar 1) mNil)) mNil) [some (.tup [.str x,a,b]),some (.str x),none,none,some (sL Lb),some (.tup (lsL.map .str)),some (.tup (tgt.map .str))] μ = .ok (sL [sg x]) μ:=v_lst (v_cons (v_call rfl hs) v_nil)
  have h1:gAdd (sL La) (sL [sg x]) = some (sL (La ++ [sg x])):=add_s (by simp; omega)
  have h2:gAdd (sL (La ++ [sg x])) (sL Lb) = some (sL (La ++ [sg x] ++ Lb)):=add_s (by simp; omega)
  simp only [tgt,List.mem_cons,List.not_mem_nil,or_false] at hx
  rcases hx with rfl | rfl | rfl | rfl | rfl | rfl <;>
  exact v_fn 6 ((v_set 1 rfl).trans ((v_skip rfl).trans ((v_skip rfl).trans ((v_skip rfl).trans ((v_skip rfl).trans ((v_skip rfl).trans ((v_skip rfl).trans ((v_set 5 rfl).trans ((v_set 6 rfl).trans (v_seqR ((v_iteT rfl).trans ((v_set 4 (v_call rfl hb)).trans (v_ret (v_bin (v_bin (v_call rfl ha) hg h1) rfl h2))))))))))))))
theorem t_loose {k:Nat} {x:List Nat} {a b:D} {La Lb:List (List Nat)} (hx:x ∈ lsL) (ha:rc_told k 1 [a,.tup (([]:List (List Nat)).map .str)] μ = .ok (sL La) μ) (hb:rc_told k 1 [b,.tup (lsL.map .str)] μ = .ok (sL Lb) μ) (hl:La.length + Lb.length ≤ 900):rc_told (k + 1) 0 [.tup [.str x,a,b]] μ = .ok (sL (La ++ [sg x] ++ Lb)) μ:=by
  rw [rc_d]
  have hs:=sg_eq (.inl (lsL_op hx)) μ
  have hg:mLst (mCons (mCall f_sign (mCons (mVar 1) mNil)) mNil) [some (.tup [.str x,a,b]),some (.str x),none,none,none,some (.tup (lsL.map .str)),some (.tup (tgt.map .str))] μ = .ok (sL [sg x]) μ:=v_lst (v_cons (v_call rfl hs) v_nil)
  have h1:gAdd (sL La) (sL [sg x]) = some (sL (La ++ [sg x])):=add_s (by simp; omega)
  have h2:gAdd (sL (La ++ [sg x])) (sL Lb) = some (sL (La ++ [sg x] ++ Lb)):=add_s (by simp; omega)
  simp only [lsL,List.mem_cons,List.not_mem_nil,or_false] at hx
  rcases hx with rfl | rfl | rfl | rfl <;>
  exact v_fn 6 ((v_set 1 rfl).trans ((v_skip rfl).trans ((v_skip rfl).trans ((v_skip rfl).trans ((v_skip rfl).trans ((v_skip rfl).trans ((v_skip rfl).trans ((v_set 5 rfl).trans ((v_set 6 rfl).trans ((v_skip rfl).trans (v_take rfl (v_bin (v_bin (v_call rfl ha) hg h1) (v_call rfl hb) h2))))))))))))
theorem t_cmp {k:Nat} {x:List Nat} {a b:D} {La Lb:List (List Nat)} (hx:x ∈ cpL) (ha:rc_told k 0 [a] μ = .ok (sL La) μ) (hb:rc_told k 0 [b] μ = .ok (sL Lb) μ) (hl:La.length + Lb.length ≤ 900):rc_told (k + 1) 0 [.tup [.str x,a,b]] μ = .ok (sL (La ++ [sg x] ++ Lb)) μ:=by
  rw [rc_d]
  have hs:=sg_eq (.inr hx) μ
  have hg:mLst (mCons (mCall f_sign (mCons (mVar 1) mNil)) mNil) [some (.tup [.str x,a,b]),some (.str x),none,none,none,some (.tup (lsL.map .str)),some (.tup (tgt.map .str))] μ = .ok (sL [sg x]) μ:=v_lst (v_cons (v_call rfl hs) v_nil)
  have h1:gAdd (sL La) (sL [sg x]) = some (sL (La ++ [sg x])):=add_s (by simp; omega)
  have h2:gAdd (sL (La ++ [sg x])) (sL Lb) = some (sL (La ++ [sg x] ++ Lb)):=add_s (by simp; omega)
  simp only [cpL,List.mem_cons,List.not_mem_nil,or_false] at hx
  rcases hx with rfl | rfl | rfl | rfl | rfl | rfl <;>
  exact v_fn 6 ((v_set 1 rfl).trans ((v_skip rfl).trans ((v_skip rfl).trans ((v_skip rfl).trans ((v_skip rfl).trans ((v_skip rfl).trans ((v_skip rfl).trans ((v_set 5 rfl).trans ((v_set 6 rfl).trans ((v_skip rfl).trans ((v_skip rfl).trans (v_ret (v_bin (v_bin (v_call rfl ha) hg h1) (v_call rfl hb) h2)))))))))))))
theorem N.d_hd:∀ a:N,∃ r,a.d = .tup (.str a.hd :: r)
  | .num _ => ⟨_,rfl⟩
  | .len => ⟨_,rfl⟩
  | .load _ _ => ⟨_,rfl⟩
  | .op _ _ _ => ⟨_,rfl⟩
theorem B.d_hd:∀ a:B,∃ r,a.d = .tup (.str a.hd :: r)
  | .tru _ => ⟨_,rfl⟩
  | .nt _ => ⟨_,rfl⟩
  | .both _ _ => ⟨_,rfl⟩
  | .eith _ _ => ⟨_,rfl⟩
  | .cmp _ _ _ => ⟨_,rfl⟩
theorem N.asc {a:N} (h:a.ok):∀ c ∈ a.hd,c < 128:=by
  cases a with
  | num _ => show ∀ c ∈ w_number,c < 128; decide
  | len => show ∀ c ∈ w_len,c < 128; decide
  | load _ _ => show ∀ c ∈ w_load,c < 128; decide
  | op x _ _ =>
    have:∀ x ∈ opL,∀ c ∈ x,c < 128:=by decide
    exact this x h.1
theorem B.asc {a:B} (h:a.ok):∀ c ∈ a.hd,c < 128:=by
  cases a with
  | cmp x _ _ =>
    have:∀ x ∈ cpL,∀ c ∈ x,c < 128:=by decide
    exact this x h.1
  | tru _ => show ∀ c ∈ w_truth,c < 128; decide
  | nt _ => show ∀ c ∈ w_not,c < 128; decide
  | both _ _ => show ∀ c ∈ w_both,c < 128; decide
  | eith _ _ => show ∀ c ∈ w_either,c < 128; decide
theorem op_two {x:List Nat} (h:x ∈ opL) (h2:x ∉ tgt):x ∈ lsL:=by
  have:∀ x ∈ opL,x ∈ tgt ∨ x ∈ lsL:=by decide
  exact (this x h).resolve_left h2
theorem N.dp_pos (a:N):1 ≤ a.dp:=by cases a <;> simp [N.dp]
theorem B.dp_pos (a:B):1 ≤ a.dp:=by cases a <;> simp [B.dp]
theorem tolN_eq:∀ (a:N) (k:Nat),a.ok → (tolN a).length ≤ 800 → 2 * a.dp ≤ k → rc_told k 0 [a.d] μ = .ok (sL (tolN a)) μ
  | .num i,k,h,_,hk => by
    obtain ⟨k,rfl⟩:∃ j,k = j + 1:=⟨k - 1,by simp only [N.dp] at hk; omega⟩
    rw [rc_d]
    exact v_fn 6 ((v_set 1 rfl).trans (v_take rfl (v_lst (v_cons (v_callB (v_cons rfl v_nil) (g_strn h.1 h.2)) v_nil))))
  | .len,k,h,_,hk => by
    obtain ⟨k,rfl⟩:∃ j,k = j + 1:=⟨k - 1,by simp only [N.dp] at hk; omega⟩
    rfl
  | .load s a,k,h,hl,hk => by
    obtain ⟨k,rfl⟩:∃ j,k = j + 1:=⟨k - 1,by simp only [N.dp] at hk; omega⟩
    have hl':(tolN a).length + 3 ≤ 800:=by simpa [tolN] using hl
    have ih:=tolN_eq a k h.2 (by omega) (by simp only [N.dp] at hk; omega)
    rw [rc_d]
    have h1:gAdd (sL [ldW s,w35]) (sL (tolN a)) = some (sL ([ldW s,w35] ++ tolN a)):=add_s (by simp; omega)
    have h2:gAdd (sL ([ldW s,w35] ++ tolN a)) (sL [w36]) = some (sL ([ldW s,w35] ++ tolN a ++ [w36])):=add_s (by simp; omega)
    rcases h.1 with rfl | rfl | rfl <;>
    exact v_fn 6 ((v_set 1 rfl).trans ((v_skip rfl).trans ((v_skip rfl).trans ((v_skip rfl).trans (v_take rfl (v_bin (v_bin rfl (v_call rfl ih) h1) rfl h2))))))
  | .op x a b,k,h,hl,hk => by
    simp only [N.dp] at hk
    obtain ⟨k,rfl⟩:∃ j,k = j + 2:=⟨k - 2,by omega⟩
    obtain ⟨ra,ea⟩:=a.d_hd
    obtain ⟨rb,eb⟩:=b.d_hd
    show rc_told (k + 2) 0 [.tup [.str x,a.d,b.d]] μ = _
    have alsL:∀ v ∈ lsL,∀ c ∈ v,c < 128:=by decide
    have atgt:∀ v ∈ lsL ++ tgt,∀ c ∈ v,c < 128:=by decide
    by_cases hx:x ∈ tgt
    · have e:tolN (.op x a b) = inn a.hd lsL (tolN a) ++ [sg x] ++ inn b.hd (lsL ++ tgt) (tolN b):=if_pos hx
      rw [e] at hl ⊢
      have l1:=inn_len a.hd lsL (tolN a)
      have l2:=inn_len b.hd (lsL ++ tgt) (tolN b)
      simp only [List.length_append,List.length_singleton] at hl
      have ia:=tolN_eq a k h.2.1 (by omega) (by omega)
      have ib:=tolN_eq b k h.2.2 (by omega) (by omega)
      rw [ea] at ia ⊢
      rw [eb] at ib ⊢
      exact t_tight hx (t_inner (N.asc h.2.1) alsL ia (by omega)) (t_inner (N.asc h.2.2) atgt ib (by omega)) (by omega)
    · have e:tolN (.op x a b) = inn a.hd [] (tolN a) ++ [sg x] ++ inn b.hd lsL (tolN b):=if_neg hx
      rw [e] at hl ⊢
      have l1:=inn_len a.hd [] (tolN a)
      have l2:=inn_len b.hd lsL (tolN b)
      simp only [List.length_append,List.length_singleton] at hl
      have ia:=tolN_eq a k h.2.1 (by omega) (by omega)
      have ib:=tolN_eq b k h.2.2 (by omega) (by omega)
      rw [ea] at ia ⊢
      rw [eb] at ib ⊢
      exact t_loose (op_two h.1 hx) (t_inner (N.asc h.2.1) (by decide) ia (by omega)) (t_inner (N.asc h.2.2) alsL ib (by omega)) (by omega)
noncomputable def B.fd:B → Nat
  | .tru _ => 1
  | .nt a => a.fd + 2
  | .both a b => max a.fd b.fd + 2
  | .eith a b => max a.fd b.fd + 2
  | .cmp _ a b => 2 * max a.dp b.dp + 1
theorem tolB_eq:∀ (a:B) (k:Nat),a.ok → (tolB a).length ≤ 800 → a.fd ≤ k → rc_told k 0 [a.d] μ = .ok (sL (tolB a)) μ
  | .tru b,k,h,_,hk => by
    obtain ⟨k,rfl⟩:∃ j,k = j + 1:=⟨k - 1,by simp only [B.fd] at hk; omega⟩
    cases b <;> rfl
  | .nt a,k,h,hl,hk => by
    simp only [B.fd] at hk
    obtain ⟨k,rfl⟩:∃ j,k = j + 2:=⟨k - 2,by omega⟩
    obtain ⟨ra,ea⟩:=a.d_hd
    have l1:=inn_len a.hd [w_both,w_either] (tolB a)
    have hl':(inn a.hd [w_both,w_either] (tolB a)).length + 1 ≤ 800:=by simpa [tolB] using hl
    have ia:=tolB_eq a k h (by omega) (by omega)
    show rc_told (k + 1 + 1) 0 [.tup [.str w_not,a.d]] μ = .ok (sL ([w_not] ++ inn a.hd [w_both,w_either] (tolB a))) μ
    rw [ea] at ia ⊢
    have ia:=t_inner (ks:=[w_both,w_either]) (B.asc (a:=a) h) (by decide) ia (by omega)
    rw [rc_d]
    exact v_fn 6 ((v_set 1 rfl).trans ((v_skip rfl).trans ((v_skip rfl).trans ((v_skip rfl).trans ((v_skip rfl).trans (v_take rfl (v_bin (x:=sL [w_not]) rfl (v_call rfl ia) (add_s (by simp; omega)))))))))
  | .both a b,k,h,hl,hk => by
    simp only [B.fd] at hk
    obtain ⟨k,rfl⟩:∃ j,k = j + 2:=⟨k - 2,by omega⟩
    obtain ⟨ra,ea⟩:=a.d_hd
    obtain ⟨rb,eb⟩:=b.d_hd
    have l1:=inn_len a.hd [w_either] (tolB a)
    have l2:=inn_len b.hd [w_either,w_both] (tolB b)
    have hl':(inn a.hd [w_either] (tolB a)).length + 1 + (inn b.hd [w_either,w_both] (tolB b)).length ≤ 800:=by simpa [tolB,Nat.add_assoc,Nat.add_comm,Nat.add_left_comm] using hl
    have ia:=tolB_eq a k h.1 (by omega) (by omega)
    have ib:=tolB_eq b k h.2 (by omega) (by omega)
    show rc_told (k + 1 + 1) 0 [.tup [.str w_both,a.d,b.d]] μ = .ok (sL (inn a.hd [w_either] (tolB a) ++ [w_and] ++ inn b.hd [w_either,w_both] (tolB b))) μ
    rw [ea] at ia ⊢
    rw [eb] at ib ⊢
    have ia:=t_inner (ks:=[w_either]) (B.asc h.1) (by decide) ia (by omega)
    have ib:=t_inner (ks:=[w_either,w_both]) (B.asc h.2) (by decide) ib (by omega)
    rw [rc_d]
    exact v_fn 6 ((v_set 1 rfl).trans ((v_skip rfl).trans ((v_skip rfl).trans ((v_skip rfl).trans ((v_skip rfl).trans ((v_skip rfl).trans (v_seqR ((v_iteT rfl).trans ((v_set 2 rfl).trans ((v_set 3 rfl).trans ((v_set 4 (v_call rfl ib)).trans (v_ret (v_bin (v_bin (v_call rfl ia) (v_var 3 (d:=sL [w_and]) rfl) (add_s (by simp; omega))) (v_var 4 rfl) (add_s (by simp; omega)))))))))))))))
  | .eith a b,k,h,hl,hk => by
    simp only [B.fd] at hk
    obtain ⟨k,rfl⟩:∃ j,k = j + 2:=⟨k - 2,by omega⟩
    obtain ⟨ra,ea⟩:=a.d_hd
    obtain ⟨rb,eb⟩:=b.d_hd
    have l1:=inn_len a.hd [] (tolB a)
    have l2:=inn_len b.hd [w_either] (tolB b)
    have hl':(inn a.hd [] (tolB a)).length + 1 + (inn b.hd [w_either] (tolB b)).length ≤ 800:=by simpa [tolB,Nat.add_assoc,Nat.add_comm,Nat.add_left_comm] using hl
    have ia:=tolB_eq a k h.1 (by omega) (by omega)
    have ib:=tolB_eq b k h.2 (by omega) (by omega)
    show rc_told (k + 1 + 1) 0 [.tup [.str w_either,a.d,b.d]] μ = .ok (sL (inn a.hd [] (tolB a) ++ [w_or] ++ inn b.hd [w_either] (tolB b))) μ
    rw [ea] at ia ⊢
    rw [eb] at ib ⊢
    have ia:=t_inner (ks:=[]) (B.asc h.1) (by decide) ia (by omega)
    have ib:=t_inner (ks:=[w_either]) (B.asc h.2) (by decide) ib (by omega)
    rw [rc_d]
    exact v_fn 6 ((v_set 1 rfl).trans ((v_skip rfl).trans ((v_skip rfl).trans ((v_skip rfl).trans ((v_skip rfl).trans ((v_skip rfl).trans (v_seqR ((v_iteT rfl).trans ((v_set 2 rfl).trans ((v_set 3 rfl).trans ((v_set 4 (v_call rfl ib)).trans (v_ret (v_bin (v_bin (v_call rfl ia) (v_var 3 (d:=sL [w_or]) rfl) (add_s (by simp; omega))) (v_var 4 rfl) (add_s (by simp; omega)))))))))))))))
  | .cmp x a b,k,h,hl,hk => by
    simp only [B.fd] at hk
    obtain ⟨k,rfl⟩:∃ j,k = j + 1:=⟨k - 1,by omega⟩
    have hl':(tolN a).length + 1 + (tolN b).length ≤ 800:=by simpa [tolB,Nat.add_assoc,Nat.add_comm,Nat.add_left_comm] using hl
    exact t_cmp h.1 (tolN_eq a k h.2.1 (by omega) (by omega)) (tolN_eq b k h.2.2 (by omega) (by omega)) (by omega)
end
noncomputable def nbN:Nat → Nat
  | 0 => 1
  | d + 1 => 2 * nbN d + 5
noncomputable def nbB:Nat → Nat
  | 0 => 27
  | d + 1 => 2 * nbB d + 7
theorem nbN_pos:∀ d,1 ≤ nbN d
  | 0 => Nat.le_refl _
  | d + 1 => by simp only [nbN]; omega
theorem nbB_pos:∀ d,27 ≤ nbB d
  | 0 => Nat.le_refl _
  | d + 1 => by have:=nbB_pos d; simp only [nbB]; omega
theorem innN_len {a:N} (h:a.ok) (ks:List (List Nat)):(inn a.hd ks (tolN a)).length ≤ (tolN a).length + 2:=by
  unfold inn
  split
  · rw [if_neg]
    · simp
    · cases a with
      | num _ => show ¬ w_number ∈ [w_both,w_either]; decide
      | len => show ¬ w_len ∈ [w_both,w_either]; decide
      | load _ _ => show ¬ w_load ∈ [w_both,w_either]; decide
      | op x _ _ =>
        have:∀ x ∈ opL,x ∉ [w_both,w_either]:=by decide
        exact this x h.1
  · omega
theorem tolN_len:∀ (a:N) (d:Nat),a.ok → a.dp ≤ d + 1 → (tolN a).length ≤ nbN d
  | .num _,d,_,_ => nbN_pos d
  | .len,d,_,_ => nbN_pos d
  | .load s a,d,h,hd => by
    simp only [N.dp] at hd
    obtain ⟨d,rfl⟩:∃ j,d = j + 1:=⟨d - 1,by have:=a.dp_pos; omega⟩
    have:=tolN_len a d h.2 (by omega)
    simp only [tolN,nbN,List.length_append,List.length_cons,List.length_nil]
    omega
  | .op x a b,d,h,hd => by
    simp only [N.dp] at hd
    obtain ⟨d,rfl⟩:∃ j,d = j + 1:=⟨d - 1,by have:=a.dp_pos; omega⟩
    have i1:=tolN_len a d h.2.1 (by omega)
    have i2:=tolN_len b d h.2.2 (by omega)
    have l1:=innN_len h.2.1 lsL
    have l2:=innN_len h.2.2 (lsL ++ tgt)
    have l3:=innN_len h.2.1 []
    have l4:=innN_len h.2.2 lsL
    unfold tolN
    split <;> simp only [nbN,List.length_append,List.length_cons,List.length_nil] <;> omega
theorem tolB_len:∀ (a:B) (d:Nat),a.ok → a.nd → a.dp ≤ d + 1 → (tolB a).length ≤ nbB d
  | .tru _,d,_,_,_ => by have:=nbB_pos d; simp only [tolB,List.length_singleton]; omega
  | .nt a,d,h,n,hd => by
    simp only [B.dp] at hd
    obtain ⟨d,rfl⟩:∃ j,d = j + 1:=⟨d - 1,by have:=a.dp_pos; omega⟩
    have:=tolB_len a d h n (by omega)
    have l1:=inn_len a.hd [w_both,w_either] (tolB a)
    simp only [tolB,nbB,List.length_append,List.length_cons,List.length_nil]
    omega
  | .both a b,d,h,n,hd => by
    simp only [B.dp] at hd
    obtain ⟨d,rfl⟩:∃ j,d = j + 1:=⟨d - 1,by have:=a.dp_pos; omega⟩
    have i1:=tolB_len a d h.1 n.1 (by omega)
    have i2:=tolB_len b d h.2 n.2 (by omega)
    have l1:=inn_len a.hd [w_either] (tolB a)
    have l2:=inn_len b.hd [w_either,w_both] (tolB b)
    simp only [tolB,nbB,List.length_append,List.length_cons,List.length_nil]
    omega
  | .eith a b,d,h,n,hd => by
    simp only [B.dp] at hd
    obtain ⟨d,rfl⟩:∃ j,d = j + 1:=⟨d - 1,by have:=a.dp_pos; omega⟩
    have i1:=tolB_len a d h.1 n.1 (by omega)
    have i2:=tolB_len b d h.2 n.2 (by omega)
    have l1:=inn_len a.hd [] (tolB a)
    have l2:=inn_len b.hd [w_either] (tolB b)
    simp only [tolB,nbB,List.length_append,List.length_cons,List.length_nil]
    omega
  | .cmp x a b,d,h,n,hd => by
    have i1:=tolN_len a 2 h.2.1 n.1
    have i2:=tolN_len b 1 h.2.2 n.2
    have:=nbB_pos d
    have e2:nbN 2 = 19:=rfl
    have e1:nbN 1 = 7:=rfl
    simp only [tolB,List.length_append,List.length_cons,List.length_nil]
    omega
theorem B.fd_le:∀ a:B,a.nd → a.fd ≤ 2 * a.dp + 5
  | .tru _,_ => by simp only [B.fd,B.dp]; omega
  | .nt a,n => by have:=B.fd_le a n; simp only [B.fd,B.dp]; omega
  | .both a b,n => by have:=B.fd_le a n.1; have:=B.fd_le b n.2; simp only [B.fd,B.dp]; omega
  | .eith a b,n => by have:=B.fd_le a n.1; have:=B.fd_le b n.2; simp only [B.fd,B.dp]; omega
  | .cmp _ a b,n => by obtain ⟨h1,h2⟩:=n; simp only [B.fd,B.dp]; omega
end K10
set_option Elab.async false
set_option linter.all false
set_option maxRecDepth 100000
set_option maxHeartbeats 400000
namespace K10
open PySem PySem.Spec PyProof.Rows L2 M NumText
noncomputable abbrev pT:D → Option D:=opD ks_PRODUCT_OPS ds_PRODUCT_OPS
noncomputable abbrev sT:D → Option D:=opD ks_SUM_OPS ds_SUM_OPS
noncomputable abbrev cT:D → Option D:=opD ks_COMPARISONS ds_COMPARISONS
noncomputable abbrev zT:D → Option D:=opD ks_LOAD_SIZES ds_LOAD_SIZES
noncomputable def Sg (ws:List D):Nat → List (List Nat) → Nat → Prop
  | p,[],q => p = q
  | p,w :: L,q => hd ws p = wd w ∧ Sg ws (p + 1) L q
section
variable {ws:List D}
theorem sg_app:∀ {A B:List (List Nat)} {p q:Nat},Sg ws p (A ++ B) q → ∃ m,Sg ws p A m ∧ Sg ws m B q
  | [],B,p,q,h => ⟨p,rfl,h⟩
  | w :: A,B,p,q,h => by
    obtain ⟨m,h1,h2⟩:=sg_app (A:=A) h.2
    exact ⟨m,⟨h.1,h1⟩,h2⟩
theorem sg_mid {A B:List (List Nat)} {w:List Nat} {p q:Nat} (h:Sg ws p (A ++ [w] ++ B) q):∃ m,Sg ws p A m ∧ hd ws m = wd w ∧ Sg ws (m + 1) B q:=by
  obtain ⟨m,h1,h2⟩:=sg_app h
  obtain ⟨n,h3,h4⟩:=sg_app h1
  obtain ⟨h5,h6⟩:=h4
  have h6:n + 1 = m:=h6
  subst h6
  exact ⟨n,h3,h5,h2⟩
theorem lp_end {T:D → Option D} {f:Nat → PR} {n:Nat} {t:D} {p:Nat} (hn:0 < n) (h:T (hd ws p) = none):lp ws T f n t p = .ok t p:=by
  obtain ⟨n,rfl⟩:∃ m,n = m + 1:=⟨n - 1,by omega⟩
  unfold lp
  rw [h]
theorem lp_go {T:D → Option D} {f:Nat → PR} {n:Nat} {t:D} {p:Nat} {o t2:D} {q:Nat} (hn:0 < n) (h:T (hd ws p) = some o) (hf:f (p + 1) = .ok t2 q):lp ws T f n t p = lp ws T f (n - 1) (.tup [o,t,t2]) q:=by
  obtain ⟨n,rfl⟩:∃ m,n = m + 1:=⟨n - 1,by omega⟩
  rw [lp,h]
  show (f (p + 1)).bind _ = _
  rw [hf]
  rfl
theorem pO_t:∀ x ∈ tgt,pT (wd (sg x)) = some (.str x):=by
  simp only [tgt,List.forall_mem_cons,List.not_mem_nil,false_implies,implies_true,and_true]
  exact ⟨rfl,rfl,rfl,rfl,rfl,rfl⟩
theorem sO_l:∀ x ∈ lsL,sT (wd (sg x)) = some (.str x) ∧ pT (wd (sg x)) = none:=by
  simp only [lsL,List.forall_mem_cons,List.not_mem_nil,false_implies,implies_true,and_true]
  exact ⟨⟨rfl,rfl⟩,⟨rfl,rfl⟩,⟨rfl,rfl⟩,⟨rfl,rfl⟩⟩
theorem cO_c:∀ x ∈ cpL,cT (wd (sg x)) = some (.str x) ∧ pT (wd (sg x)) = none ∧ sT (wd (sg x)) = none:=by
  simp only [cpL,List.forall_mem_cons,List.not_mem_nil,false_implies,implies_true,and_true]
  exact ⟨⟨rfl,rfl,rfl⟩,⟨rfl,rfl,rfl⟩,⟨rfl,rfl,rfl⟩,⟨rfl,rfl,rfl⟩,⟨rfl,rfl,rfl⟩,⟨rfl,rfl,rfl⟩⟩
theorem N.nb {a:N} (h:a.ok):a.hd ∉ [w_both,w_either]:=by
  cases a with
  | num _ => show ¬ w_number ∈ [w_both,w_either]; decide
  | len => show ¬ w_len ∈ [w_both,w_either]; decide
  | load _ _ => show ¬ w_load ∈ [w_both,w_either]; decide
  | op x _ _ =>
    have:∀ x ∈ opL,x ∉ [w_both,w_either]:=by decide
    exact this x h.1
theorem innN_t {a:N} (h:a.ok) {ks:List (List Nat)} (hk:a.hd ∈ ks):inn a.hd ks (tolN a) = [w53] ++ tolN a ++ [w54]:=by
  unfold inn
  rw [if_pos hk,if_neg (N.nb h)]
theorem inn_f {h:List Nat} {ks L:List (List Nat)} (hk:h ∉ ks):inn h ks L = L:=by
  unfold inn
  rw [if_neg hk]
theorem wd_num {k:Int} (h0:0 ≤ k) (h1:k < 4294967296):wd (dgt k.toNat) = .int k:=by
  obtain ⟨c,r,e,_⟩:=dgt_head k.toNat
  have hc:=dgt_all k.toNat c (by rw [e]; exact List.mem_cons_self)
  have hl:=dgt_10 (n:=k.toNat) (by omega)
  have hv:=dgt_val k.toNat
  unfold wd nm
  rw [if_pos (by rw [e]; show dig c = true; simp [dig,hc.1,hc.2]),if_neg (by omega),hv,if_pos (by omega)]
  congr 1
  omega
theorem gS2 (k wi p:Nat):gS ws (k + 1) 2 wi p = if (zT (hd ws p)).isSome = true then gS ws k 3 wi p else if isW (hd ws p) lpW = true then gS ws k 4 wi p else if isW (hd ws p) w_len = true then .ok (.tup [.str w_len]) (p + 1) else match hd ws p with
      | .int i => .ok (.tup [.str w_number,.int i]) (p + 1)
      | _ => ef p:=rfl
theorem gS3 (k wi p:Nat):gS ws (k + 1) 3 wi p = match zT (hd ws p) with
      | some sz => into wi p fun p => expc ws lbW p fun p => (gS ws k 0 (wi + 1) p).bind fun t q => expc ws rbW q fun q => .ok (.tup [.str w_load,sz,t]) q
      | none => .out:=rfl
theorem exp_y {w:List Nat} {p:Nat} {k:Nat → PR} (h:isW (hd ws p) w = true):expc ws w p k = k (p + 1):=if_pos h
theorem into_y {wi p:Nat} {k:Nat → PR} (h:wi < 12):into wi p k = k (p + 1):=if_neg (by omega)
theorem n_br {b:N} {k wi p q:Nat} (h3:∀ p q,Sg ws p (tolN b) q → pT (hd ws q) = none → ∃ j,j ≤ b.dp ∧ gS ws (k + 2) 0 (wi + 1) p = lp ws sT (fun q => gS ws (k + 1) 1 (wi + 1) q) (100 - j) b.d q) (hb:b.dp ≤ 12) (hwi:wi < 12) (h:Sg ws p ([w53] ++ tolN b ++ [w54]) q):gS ws (k + 4) 2 wi p = .ok b.d q:=by
  obtain ⟨h1,h2⟩:hd ws p = wd w53 ∧ Sg ws (p + 1) (tolN b ++ [w54]) q:=h
  obtain ⟨m,h4,h5,h6⟩:=sg_app h2
  have h6:m + 1 = q:=h6
  subst h6
  obtain ⟨j,hj,e⟩:=h3 _ _ h4 (by rw [h5]; rfl)
  rw [gS2,h1,if_neg (by decide),if_pos (by decide)]
  show into wi p (fun p => (gS ws (k + 2) 0 (wi + 1) p).bind fun t q => expc ws rpW q fun q => .ok t q) = _
  rw [into_y hwi,e,lp_end (by omega) (by rw [h5]; rfl)]
  show expc ws rpW m _ = _
  rw [exp_y (by rw [h5]; rfl)]
theorem n_rd:∀ (a:N) (k wi p q:Nat),a.ok → 4 * a.dp ≤ k → wi + a.dp ≤ 12 → Sg ws p (tolN a) q →
    (a.hd ∉ opL → gS ws k 2 wi p = .ok a.d q)
    ∧ (a.hd ∉ lsL → ∃ j,j ≤ a.dp ∧ gS ws (k + 1) 1 wi p = lp ws pT (fun q => gS ws k 2 wi q) (100 - j) a.d q)
    ∧ (pT (hd ws q) = none → ∃ j,j ≤ a.dp ∧ gS ws (k + 2) 0 wi p = lp ws sT (fun q => gS ws (k + 1) 1 wi q) (100 - j) a.d q):=by
  intro a
  have up:∀ (a:N) {k wi p q:Nat},(gS ws k 2 wi p = .ok a.d q) → ∃ j,j ≤ a.dp ∧ gS ws (k + 1) 1 wi p = lp ws pT (fun q => gS ws k 2 wi q) (100 - j) a.d q:=fun a k wi p q h => by
    refine ⟨0,Nat.zero_le _,?_⟩
    show (gS ws k 2 wi p).bind _ = _
    rw [h]
    rfl
  have up2:∀ (a:N) {k wi p q:Nat},a.dp ≤ 12 → (∃ j,j ≤ a.dp ∧ gS ws (k + 1) 1 wi p = lp ws pT (fun q => gS ws k 2 wi q) (100 - j) a.d q) → pT (hd ws q) = none → gS ws (k + 1) 1 wi p = .ok a.d q:=fun a k wi p q ha h hq => by
    obtain ⟨j,hj,e⟩:=h
    rw [e,lp_end (by omega) hq]
  have up3:∀ (a:N) {k wi p q:Nat},a.dp ≤ 12 → (∃ j,j ≤ a.dp ∧ gS ws (k + 1) 1 wi p = lp ws pT (fun q => gS ws k 2 wi q) (100 - j) a.d q) → pT (hd ws q) = none → ∃ j,j ≤ a.dp ∧ gS ws (k + 2) 0 wi p = lp ws sT (fun q => gS ws (k + 1) 1 wi q) (100 - j) a.d q:=fun a k wi p q ha h hq => by
    refine ⟨0,Nat.zero_le _,?_⟩
    show (gS ws (k + 1) 1 wi p).bind _ = _
    rw [up2 a ha h hq]
    rfl
  induction a with
  | num i =>
    intro k wi p q h hk hw hs
    obtain ⟨h1,h2⟩:hd ws p = wd (dgt i.toNat) ∧ p + 1 = q:=hs
    subst h2
    rw [wd_num h.1 h.2] at h1
    have e:gS ws k 2 wi p = .ok (N.num i).d (p + 1):=by
      obtain ⟨k,rfl⟩:∃ j,k = j + 1:=⟨k - 1,by simp only [N.dp] at hk; omega⟩
      rw [gS2,h1,if_neg (show ¬ (zT (.int i)).isSome = true from fun e => nomatch e),if_neg (show ¬ isW (.int i) lpW = true from fun e => nomatch e),if_neg (show ¬ isW (.int i) w_len = true from fun e => nomatch e)]
      rfl
    exact ⟨fun _ => e,fun _ => up _ e,fun hq => up3 _ (by omega) (up _ e) hq⟩
  | len =>
    intro k wi p q h hk hw hs
    obtain ⟨h1,h2⟩:hd ws p = wd w_len ∧ p + 1 = q:=hs
    subst h2
    have e:gS ws k 2 wi p = .ok N.len.d (p + 1):=by
      obtain ⟨k,rfl⟩:∃ j,k = j + 1:=⟨k - 1,by simp only [N.dp] at hk; omega⟩
      rw [gS2,h1,if_neg (by decide),if_neg (by decide),if_pos (by decide)]
      rfl
    exact ⟨fun _ => e,fun _ => up _ e,fun hq => up3 _ (by omega) (up _ e) hq⟩
  | load s a ih =>
    intro k wi p q h hk hw hs
    obtain ⟨h1,h2⟩:hd ws p = wd (ldW s) ∧ (hd ws (p + 1) = wd w35 ∧ Sg ws (p + 2) (tolN a ++ [w36]) q):=hs
    obtain ⟨h2,h3⟩:=h2
    obtain ⟨m,h4,h5,h6⟩:=sg_app h3
    have h6:m + 1 = q:=h6
    subst h6
    have hk':=hk
    have hw':=hw
    simp only [N.dp] at hk' hw'
    have e:gS ws k 2 wi p = .ok (N.load s a).d (m + 1):=by
      obtain ⟨k,rfl⟩:∃ j,k = j + 4:=⟨k - 4,by omega⟩
      obtain ⟨j,hj,e⟩:=(ih k (wi + 1) (p + 2) m h.2 (by omega) (by omega) h4).2.2 (by rw [h5]; rfl)
      have hz:zT (wd (ldW s)) = some (.int s):=by
        rcases h.1 with rfl | rfl | rfl <;> rfl
      rw [gS2,h1,if_pos (by rw [hz]; rfl),gS3,h1,hz]
      dsimp only
      rw [into_y (by omega),exp_y (by rw [h2]; rfl),e,lp_end (by omega) (by rw [h5]; rfl)]
      show expc ws rbW m _ = _
      rw [exp_y (by rw [h5]; rfl)]
      rfl
    exact ⟨fun _ => e,fun _ => up _ e,fun hq => up3 _ (by omega) (up _ e) hq⟩
  | op x a b iha ihb =>
    intro k wi p q h hk hw hs
    have hk':=hk
    have hw':=hw
    simp only [N.dp] at hk' hw'
    obtain ⟨k,rfl⟩:∃ j,k = j + 4:=⟨k - 4,by omega⟩
    have bra:∀ p q,Sg ws p ([w53] ++ tolN a ++ [w54]) q → gS ws (k + 4) 2 wi p = .ok a.d q:=fun p q hp => n_br (fun p q hp hq => (iha k (wi + 1) p q h.2.1 (by omega) (by omega) hp).2.2 hq) (by omega) (by omega) hp
    have brb:∀ p q,Sg ws p ([w53] ++ tolN b ++ [w54]) q → gS ws (k + 4) 2 wi p = .ok b.d q:=fun p q hp => n_br (fun p q hp hq => (ihb k (wi + 1) p q h.2.2 (by omega) (by omega) hp).2.2 hq) (by omega) (by omega) hp
    by_cases hx:x ∈ tgt
    · have e:tolN (.op x a b) = inn a.hd lsL (tolN a) ++ [sg x] ++ inn b.hd (lsL ++ tgt) (tolN b):=if_pos hx
      rw [e] at hs
      obtain ⟨m,s1,s2,s3⟩:=sg_mid hs
      have hl:∃ j,j ≤ a.dp ∧ gS ws (k + 4 + 1) 1 wi p = lp ws pT (fun q => gS ws (k + 4) 2 wi q) (100 - j) a.d m:=by
        by_cases ha:a.hd ∈ lsL
        · rw [innN_t h.2.1 ha] at s1
          exact up a (bra _ _ s1)
        · rw [inn_f ha] at s1
          exact (iha (k + 4) wi p m h.2.1 (by omega) (by omega) s1).2.1 ha
      have hr:gS ws (k + 4) 2 wi (m + 1) = .ok b.d q:=by
        by_cases hb:b.hd ∈ lsL ++ tgt
        · rw [innN_t h.2.2 hb] at s3
          exact brb _ _ s3
        · rw [inn_f hb] at s3
          have:∀ x ∈ opL,x ∈ lsL ++ tgt:=by decide
          exact (ihb (k + 4) wi _ _ h.2.2 (by omega) (by omega) s3).1 fun z => hb (this _ z)
      have e2:∃ j,j ≤ (N.op x a b).dp ∧ gS ws (k + 4 + 1) 1 wi p = lp ws pT (fun q => gS ws (k + 4) 2 wi q) (100 - j) (N.op x a b).d q:=by
        obtain ⟨j,hj,e3⟩:=hl
        refine ⟨j + 1,by simp only [N.dp]; omega,?_⟩
        rw [e3,lp_go (by omega) (by rw [s2]; exact pO_t x hx) hr]
        rfl
      exact ⟨fun z => absurd h.1 z,fun _ => e2,fun hq => up3 _ (by simp only [N.dp]; omega) e2 hq⟩
    · have e:tolN (.op x a b) = inn a.hd [] (tolN a) ++ [sg x] ++ inn b.hd lsL (tolN b):=if_neg hx
      rw [e] at hs
      obtain ⟨m,s1,s2,s3⟩:=sg_mid hs
      have hx':=op_two h.1 hx
      obtain ⟨g1,g2⟩:=sO_l x hx'
      refine ⟨fun z => absurd h.1 z,fun z => absurd hx' z,fun hq => ?_⟩
      rw [inn_f (by simp)] at s1
      obtain ⟨j,hj,e3⟩:=(iha (k + 4) wi p m h.2.1 (by omega) (by omega) s1).2.2 (by rw [s2]; exact g2)
      have hr:gS ws (k + 4 + 1) 1 wi (m + 1) = .ok b.d q:=by
        by_cases hb:b.hd ∈ lsL
        · rw [innN_t h.2.2 hb] at s3
          exact up2 b (by omega) (up b (brb _ _ s3)) hq
        · rw [inn_f hb] at s3
          exact up2 b (by omega) ((ihb (k + 4) wi _ _ h.2.2 (by omega) (by omega) s3).2.1 hb) hq
      refine ⟨j + 1,by simp only [N.dp]; omega,?_⟩
      rw [e3,lp_go (by omega) (by rw [s2]; exact g1) hr]
      rfl
theorem n_sum {a:N} {k wi p q:Nat} (h:a.ok) (hk:4 * a.dp + 2 ≤ k) (hw:wi + a.dp ≤ 12) (hs:Sg ws p (tolN a) q) (hp:pT (hd ws q) = none) (hq:sT (hd ws q) = none):gS ws k 0 wi p = .ok a.d q:=by
  obtain ⟨k,rfl⟩:∃ j,k = j + 2:=⟨k - 2,by omega⟩
  obtain ⟨j,hj,e⟩:=(n_rd a k wi p q h (by omega) hw hs).2.2 hp
  rw [e,lp_end (by omega) hq]
theorem n_first:∀ a:N,a.ok → ∃ w r,tolN a = w :: r ∧ ∀ v ∈ [w_true,w_false,w_not,w_so],isW (wd w) v = false
  | .num k,h => ⟨_,_,rfl,by rw [wd_num h.1 h.2]; exact fun _ _ => rfl⟩
  | .len,h => ⟨_,_,rfl,by decide⟩
  | .load s a,h => by
    refine ⟨ldW s,_,rfl,?_⟩
    rcases h.1 with rfl | rfl | rfl <;> decide
  | .op x a b,h => by
    have key:∀ ks:List (List Nat),∃ w r,inn a.hd ks (tolN a) = w :: r ∧ ∀ v ∈ [w_true,w_false,w_not,w_so],isW (wd w) v = false:=fun ks => by
      by_cases ha:a.hd ∈ ks
      · exact ⟨w53,_,innN_t h.2.1 ha,by decide⟩
      · rw [inn_f ha]
        exact n_first a h.2.1
    unfold tolN
    split
    · obtain ⟨w,r,e,hw⟩:=key lsL
      rw [e]
      exact ⟨w,_,rfl,hw⟩
    · obtain ⟨w,r,e,hw⟩:=key []
      rw [e]
      exact ⟨w,_,rfl,hw⟩
structure Fol (ws:List D) (q:Nat):Prop where
  p:pT (hd ws q) = none
  s:sT (hd ws q) = none
theorem gF2 (k wi p:Nat):gF ws (k + 1) 2 wi p = if isW (hd ws p) w_true = true ∨ isW (hd ws p) w_false = true then .ok (.tup [.str w_truth,.bl (isW (hd ws p) w_true)]) (p + 1) else if isW (hd ws p) w_not = true then into wi p fun p => (gF ws k 2 (wi + 1) p).bind fun t q => .ok (.tup [.str w_not,t]) q else if isW (hd ws p) w_so = true then gF ws k 3 wi p else cmpP ws wi p:=rfl
theorem gF3 (k wi p:Nat):gF ws (k + 1) 3 wi p = into wi p fun p => expc ws lpW p fun p => (gF ws k 0 (wi + 1) p).bind fun t q => expc ws rpW q fun q => .ok t q:=rfl
theorem innB_t {a:B} (hh:a.hd ∈ [w_both,w_either]) {ks:List (List Nat)} (hk:a.hd ∈ ks):inn a.hd ks (tolB a) = [w_so,w53] ++ tolB a ++ [w54]:=by
  unfold inn
  rw [if_pos hk,if_pos hh]
theorem b_br {b:B} {k wi p q:Nat} (h3:∀ p q,Sg ws p (tolB b) q → Fol ws q → andT (hd ws q) = none → ∃ j,j ≤ b.dp ∧ gF ws (k + 2) 0 (wi + 1) p = lp ws orT (fun q => gF ws (k + 1) 1 (wi + 1) q) (100 - j) b.d q) (hb:b.dp ≤ 12) (hwi:wi < 12) (h:Sg ws p ([w_so,w53] ++ tolB b ++ [w54]) q):gF ws (k + 4) 2 wi p = .ok b.d q:=by
  obtain ⟨h1,h0,h2⟩:hd ws p = wd w_so ∧ hd ws (p + 1) = wd w53 ∧ Sg ws (p + 2) (tolB b ++ [w54]) q:=h
  obtain ⟨m,h4,h5,h6⟩:=sg_app h2
  have h6:m + 1 = q:=h6
  subst h6
  obtain ⟨j,hj,e⟩:=h3 _ _ h4 ⟨by rw [h5]; rfl,by rw [h5]; rfl⟩ (by rw [h5]; rfl)
  rw [gF2,h1,if_neg (by decide),if_neg (by decide),if_pos (by decide),gF3,into_y hwi,exp_y (by rw [h0]; rfl),e,lp_end (by omega) (by rw [h5]; rfl)]
  show expc ws rpW m _ = _
  rw [exp_y (by rw [h5]; rfl)]
theorem b_rd:∀ (a:B) (k wi p q:Nat),a.ok → a.nd → 5 * a.dp ≤ k → wi + 2 * a.dp ≤ 9 → Sg ws p (tolB a) q → Fol ws q →
    (a.hd ∉ [w_both,w_either] → gF ws k 2 wi p = .ok a.d q)
    ∧ (a.hd ≠ w_either → ∃ j,j ≤ a.dp ∧ gF ws (k + 1) 1 wi p = lp ws andT (fun q => gF ws k 2 wi q) (100 - j) a.d q)
    ∧ (andT (hd ws q) = none → ∃ j,j ≤ a.dp ∧ gF ws (k + 2) 0 wi p = lp ws orT (fun q => gF ws (k + 1) 1 wi q) (100 - j) a.d q):=by
  intro a
  have up:∀ (a:B) {k wi p q:Nat},(gF ws k 2 wi p = .ok a.d q) → ∃ j,j ≤ a.dp ∧ gF ws (k + 1) 1 wi p = lp ws andT (fun q => gF ws k 2 wi q) (100 - j) a.d q:=fun a k wi p q h => by
    refine ⟨0,Nat.zero_le _,?_⟩
    show (gF ws k 2 wi p).bind _ = _
    rw [h]
    rfl
  have up2:∀ (a:B) {k wi p q:Nat},a.dp ≤ 12 → (∃ j,j ≤ a.dp ∧ gF ws (k + 1) 1 wi p = lp ws andT (fun q => gF ws k 2 wi q) (100 - j) a.d q) → andT (hd ws q) = none → gF ws (k + 1) 1 wi p = .ok a.d q:=fun a k wi p q ha h hq => by
    obtain ⟨j,hj,e⟩:=h
    rw [e,lp_end (by omega) hq]
  have up3:∀ (a:B) {k wi p q:Nat},a.dp ≤ 12 → (∃ j,j ≤ a.dp ∧ gF ws (k + 1) 1 wi p = lp ws andT (fun q => gF ws k 2 wi q) (100 - j) a.d q) → andT (hd ws q) = none → ∃ j,j ≤ a.dp ∧ gF ws (k + 2) 0 wi p = lp ws orT (fun q => gF ws (k + 1) 1 wi q) (100 - j) a.d q:=fun a k wi p q ha h hq => by
    refine ⟨0,Nat.zero_le _,?_⟩
    show (gF ws (k + 1) 1 wi p).bind _ = _
    rw [up2 a ha h hq]
    rfl
  induction a with
  | tru b =>
    intro k wi p q h hn hk hw hs hf
    obtain ⟨h1,h2⟩:hd ws p = wd (if b then w_true else w_false) ∧ p + 1 = q:=hs
    subst h2
    have e:gF ws k 2 wi p = .ok (B.tru b).d (p + 1):=by
      obtain ⟨k,rfl⟩:∃ j,k = j + 1:=⟨k - 1,by simp only [B.dp] at hk; omega⟩
      rw [gF2,h1]
      cases b <;> rfl
    exact ⟨fun _ => e,fun _ => up _ e,fun hq => up3 _ (by omega) (up _ e) hq⟩
  | nt a ih =>
    intro k wi p q h hn hk hw hs hf
    obtain ⟨h1,h2⟩:hd ws p = wd w_not ∧ Sg ws (p + 1) (inn a.hd [w_both,w_either] (tolB a)) q:=hs
    have hk':=hk
    have hw':=hw
    simp only [B.dp] at hk' hw'
    have ap:=a.dp_pos
    have e:gF ws k 2 wi p = .ok (B.nt a).d q:=by
      obtain ⟨k,rfl⟩:∃ j,k = j + 5:=⟨k - 5,by omega⟩
      have hr:gF ws (k + 4) 2 (wi + 1) (p + 1) = .ok a.d q:=by
        by_cases ha:a.hd ∈ [w_both,w_either]
        · rw [innB_t ha ha] at h2
          exact b_br (fun p q hp hf hq => (ih k (wi + 1 + 1) p q h hn (by omega) (by omega) hp hf).2.2 hq) (by omega) (by omega) h2
        · rw [inn_f ha] at h2
          exact (ih (k + 4) (wi + 1) _ _ h hn (by omega) (by omega) h2 hf).1 ha
      rw [gF2,h1,if_neg (by decide),if_pos (by decide),into_y (by omega),hr]
      rfl
    exact ⟨fun _ => e,fun _ => up _ e,fun hq => up3 _ (by omega) (up _ e) hq⟩
  | both a b iha ihb =>
    intro k wi p q h hn hk hw hs hf
    have hk':=hk
    have hw':=hw
    simp only [B.dp] at hk' hw'
    obtain ⟨k,rfl⟩:∃ j,k = j + 4:=⟨k - 4,by omega⟩
    obtain ⟨m,s1,s2,s3⟩:=sg_mid (A:=inn a.hd [w_either] (tolB a)) (w:=w_and) hs
    have hm:Fol ws m:=⟨by rw [s2]; rfl,by rw [s2]; rfl⟩
    have hl:∃ j,j ≤ a.dp ∧ gF ws (k + 4 + 1) 1 wi p = lp ws andT (fun q => gF ws (k + 4) 2 wi q) (100 - j) a.d m:=by
      by_cases ha:a.hd ∈ [w_either]
      · rw [innB_t (List.mem_cons_of_mem _ ha) ha] at s1
        exact up a (b_br (fun p q hp hf hq => (iha k (wi + 1) p q h.1 hn.1 (by omega) (by omega) hp hf).2.2 hq) (by omega) (by omega) s1)
      · rw [inn_f ha] at s1
        exact (iha (k + 4) wi p m h.1 hn.1 (by omega) (by omega) s1 hm).2.1 fun z => ha (List.mem_singleton.mpr z)
    have hr:gF ws (k + 4) 2 wi (m + 1) = .ok b.d q:=by
      by_cases hb:b.hd ∈ [w_either,w_both]
      · rw [innB_t (by simp only [List.mem_cons,List.not_mem_nil,or_false] at hb ⊢; exact hb.symm) hb] at s3
        exact b_br (fun p q hp hf hq => (ihb k (wi + 1) p q h.2 hn.2 (by omega) (by omega) hp hf).2.2 hq) (by omega) (by omega) s3
      · rw [inn_f hb] at s3
        exact (ihb (k + 4) wi _ _ h.2 hn.2 (by omega) (by omega) s3 hf).1 fun z => hb (by simp only [List.mem_cons,List.not_mem_nil,or_false] at z ⊢; exact z.symm)
    have e2:∃ j,j ≤ (B.both a b).dp ∧ gF ws (k + 4 + 1) 1 wi p = lp ws andT (fun q => gF ws (k + 4) 2 wi q) (100 - j) (B.both a b).d q:=by
      obtain ⟨j,hj,e3⟩:=hl
      refine ⟨j + 1,by simp only [B.dp]; omega,?_⟩
      rw [e3,lp_go (by omega) (by rw [s2]; rfl) hr]
      rfl
    exact ⟨fun z => absurd (show w_both ∈ [w_both,w_either] from List.mem_cons_self) z,fun _ => e2,fun hq => up3 _ (by simp only [B.dp]; omega) e2 hq⟩
  | eith a b iha ihb =>
    intro k wi p q h hn hk hw hs hf
    have hk':=hk
    have hw':=hw
    simp only [B.dp] at hk' hw'
    obtain ⟨k,rfl⟩:∃ j,k = j + 4:=⟨k - 4,by omega⟩
    obtain ⟨m,s1,s2,s3⟩:=sg_mid (A:=inn a.hd [] (tolB a)) (w:=w_or) hs
    have hm:Fol ws m:=⟨by rw [s2]; rfl,by rw [s2]; rfl⟩
    refine ⟨fun z => absurd (show w_either ∈ [w_both,w_either] from List.mem_cons_of_mem _ List.mem_cons_self) z,fun z => absurd (show w_either = w_either from rfl) z,fun hq => ?_⟩
    rw [inn_f (by simp)] at s1
    obtain ⟨j,hj,e3⟩:=(iha (k + 4) wi p m h.1 hn.1 (by omega) (by omega) s1 hm).2.2 (by rw [s2]; rfl)
    have hr:gF ws (k + 4 + 1) 1 wi (m + 1) = .ok b.d q:=by
      by_cases hb:b.hd ∈ [w_either]
      · rw [innB_t (List.mem_cons_of_mem _ hb) hb] at s3
        exact up2 b (by omega) (up b (b_br (fun p q hp hf hq => (ihb k (wi + 1) p q h.2 hn.2 (by omega) (by omega) hp hf).2.2 hq) (by omega) (by omega) s3)) hq
      · rw [inn_f hb] at s3
        exact up2 b (by omega) ((ihb (k + 4) wi _ _ h.2 hn.2 (by omega) (by omega) s3 hf).2.1 fun z => hb (List.mem_singleton.mpr z)) hq
    refine ⟨j + 1,by simp only [B.dp]; omega,?_⟩
    rw [e3,lp_go (by omega) (by rw [s2]; rfl) hr]
    rfl
  | cmp x a b =>
    intro k wi p q h hn hk hw hs hf
    obtain ⟨m,s1,s2,s3⟩:=sg_mid (A:=tolN a) (w:=sg x) hs
    obtain ⟨c1,c2,c3⟩:=cO_c x h.1
    obtain ⟨n1,n2⟩:=hn
    simp only [B.dp] at hk hw
    have ec:cmpP ws wi p = .ok (B.cmp x a b).d q:=by
      unfold cmpP
      rw [n_sum h.2.1 (by omega) (by omega) s1 (by rw [s2]; exact c2) (by rw [s2]; exact c3)]
      show (match cT (hd ws m) with
        | none => ef m
        | some c => (gS ws 64 0 wi (m + 1)).bind fun t2 q2 => .ok (.tup [c,a.d,t2]) q2) = _
      rw [s2,c1]
      dsimp only
      rw [n_sum h.2.2 (by omega) (by omega) s3 hf.p hf.s]
      rfl
    have e:gF ws k 2 wi p = .ok (B.cmp x a b).d q:=by
      obtain ⟨k,rfl⟩:∃ j,k = j + 1:=⟨k - 1,by omega⟩
      obtain ⟨w,r,e1,hw1⟩:=n_first a h.2.1
      rw [e1] at s1
      have h1:hd ws p = wd w:=s1.1
      rw [gF2,h1,hw1 w_true (by decide),hw1 w_false (by decide),hw1 w_not (by decide),hw1 w_so (by decide),if_neg (by decide),if_neg (by decide),if_neg (by decide)]
      exact ec
    exact ⟨fun _ => e,fun _ => up _ e,fun hq => up3 _ (by simp only [B.dp]; omega) (up _ e) hq⟩
end
theorem sg_all:∀ (L:List (List Nat)) (P:List D),Sg (P ++ L.map wd) P.length L (P ++ L.map wd).length
  | [],P => by show P.length = _; simp
  | w :: L,P => by
    refine ⟨?_,?_⟩
    · unfold hd
      rw [List.getElem?_append_right (Nat.le_refl _),Nat.sub_self]
      rfl
    · have:=sg_all L (P ++ [wd w])
      simpa using this
theorem rd_all {a:B} (h:a.ok) (hn:a.nd) (hd4:a.dp ≤ 4):∃ q,rdP ((tolB a).map wd) = .ok a.d q:=by
  have hs:=sg_all (tolB a) []
  rw [List.nil_append] at hs
  have hq:hd ((tolB a).map wd) ((tolB a).map wd).length = .non:=by
    unfold hd
    rw [List.getElem?_eq_none (Nat.le_refl _)]
    rfl
  obtain ⟨j,hj,e⟩:=(b_rd a 62 0 0 _ h hn (by omega) (by omega) hs ⟨by rw [hq]; rfl,by rw [hq]; rfl⟩).2.2 (by rw [hq]; rfl)
  refine ⟨((tolB a).map wd).length,?_⟩
  unfold rdP
  rw [e,lp_end (by omega) (by rw [hq]; rfl)]
  show (if _ then _ else _) = _
  rw [if_neg (Nat.lt_irrefl _)]
end K10
set_option Elab.async false
set_option linter.all false
set_option maxRecDepth 100000
set_option maxHeartbeats 400000
namespace K10
open PySem PySem.Spec PyProof.Rows L2 M NumText
inductive Wk (w:List Nat):Prop
  | fig:w ≠ [] → (∀ c ∈ w,dig c = true) → w.length ≤ 10 → Wk w
  | nam:w ∈ nmL → Wk w
  | lng:w ∈ longL → Wk w
  | sgn:w ∈ sgnL → Wk w
noncomputable abbrev ltr:List Nat:=w_abcdefghijklmnopqrstuvwxyz
noncomputable abbrev dgs:List Nat:=w_0123456789
noncomputable def alt (n:Int) (w:List Nat):List Nat:=if (w.head?.any fun c => decide (c ∈ dgs)) = true ∧ w.length < 10 ∧ n / 3 % 4 = 0 then 48 :: w else w
noncomputable def rn (l a:Nat):Bool:=(decide (l ∈ ltr) && decide (a ∈ ltr)) || (decide (l ∈ dgs) && decide (a ∈ dgs))
noncomputable def spL (l a:Nat):List (List Nat):=[w24,w28,if rn l a = true ∨ l ∈ w29 then w24 else w25]
noncomputable def spc (n:Int) (l a:Nat):List Nat:=(spL l a).getD (n % 3).toNat []
noncomputable def nxc:List (List Nat) → Nat
  | [] => 32
  | w :: _ => w.headD 32
noncomputable def pcs (ns:List Int) (k:Nat) (w:List Nat) (L:List (List Nat)):List Nat:=alt (mix ns (20 + k)) w ++ spc (mix ns (20 + k)) ((alt (mix ns (20 + k)) w).getLastD 0) (nxc L)
noncomputable def tx (ns:List Int):Nat → List (List Nat) → List Nat
  | _,[] => []
  | k,w :: L => pcs ns k w L ++ tx ns (k + 1) L
theorem dig_in {c:Nat}:dig c = decide (c ∈ dgs):=by
  rw [Bool.eq_iff_iff,decide_eq_true_eq]
  unfold dig
  simp only [Bool.and_eq_true,decide_eq_true_eq]
  show _ ↔ c ∈ [48,49,50,51,52,53,54,55,56,57]
  simp only [List.mem_cons,List.not_mem_nil,or_false]
  omega
theorem wk_ne {w:List Nat} (h:Wk w):∃ c r,w = c :: r:=by
  cases w with
  | cons c r => exact ⟨c,r,rfl⟩
  | nil =>
    cases h with
    | fig h _ _ => exact absurd rfl h
    | nam h => exact absurd h (by decide)
    | lng h => exact absurd h (by decide)
    | sgn h => exact absurd h (by decide)
theorem alt_ne {n:Int} {w:List Nat} (h:w ≠ []):alt n w ≠ []:=by
  unfold alt
  split
  · simp
  · exact h
theorem spc_or (n:Int) (l a:Nat):spc n l a = w24 ∨ spc n l a = w28 ∨ (spc n l a = [] ∧ rn l a = false ∧ l ∉ w29):=by
  have h:(n % 3).toNat = 0 ∨ (n % 3).toNat = 1 ∨ (n % 3).toNat = 2:=by omega
  unfold spc
  rcases h with h | h | h <;> rw [h]
  · exact .inl rfl
  · exact .inr (.inl rfl)
  · show (if _ then _ else _) = _ ∨ (if _ then _ else _) = _ ∨ ((if _ then _ else _) = _ ∧ _)
    by_cases z:rn l a = true ∨ l ∈ w29
    · rw [if_pos z]; exact .inl rfl
    · rw [if_neg z]
      exact .inr (.inr ⟨rfl,by cases hq:rn l a with | true => exact absurd (.inl hq) z | false => rfl,fun y => z (.inr y)⟩)
theorem g_in1 (c:Nat) (y:List Nat):gInT (.str [c]) (.str y) = some (.bl (decide (c ∈ y))):=by
  show some (D.bl (!(Builtin.Str.occurrences (mkS y) ⟨#[c]⟩ 0 (mkS y).length 1).isEmpty)) = _
  rw [PySem.StrLaws.found_one]
theorem add_t {x y:List Nat} (h:x.length + y.length ≤ 100000):gAdd (.str x) (.str y) = some (.str (x ++ y)):=by
  show (if x.length + y.length ≤ 16777216 then some (D.str (x ++ y)) else none) = _
  rw [if_pos (by omega)]
theorem ix_0 {c:Nat} {r:List Nat} (h:(c :: r).length ≤ 1000):gIdx (.str (c :: r)) (.int 0) = some (.str [c]):=by
  show (if (c :: r).length ≤ 16777216 then (atI (c :: r) 0).map fun c => D.str [c] else none) = _
  rw [if_pos (by omega),atI_pos (by omega)]
  rfl
theorem ix_l {x:List Nat} (hx:x ≠ []) (h:x.length ≤ 1000):gIdx (.str x) (.int (-1)) = some (.str [x.getLastD 0]):=by
  show (if x.length ≤ 16777216 then (atI x (-1)).map fun c => D.str [c] else none) = _
  have hl:0 < x.length:=List.length_pos_iff.mpr hx
  rw [if_pos (by omega),atI_neg (by omega) (by omega),show (-1 + (x.length:Int)).toNat = x.length - 1 by omega,← List.getLast?_eq_getElem?]
  cases x with
  | nil => exact absurd rfl hx
  | cons a r => rw [List.getLast?_eq_getLast (by simp),List.getLastD_eq_getLast?,List.getLast?_eq_getLast (by simp)]; rfl
theorem wk_len {w:List Nat} (h:Wk w):w.length ≤ 10:=by
  have h1:∀ w ∈ nmL,w.length ≤ 10:=by decide
  have h2:∀ w ∈ longL,w.length ≤ 10:=by decide
  have h3:∀ w ∈ sgnL,w.length ≤ 10:=by decide
  cases h with
  | fig _ _ h => exact h
  | nam h => exact h1 w h
  | lng h => exact h2 w h
  | sgn h => exact h3 w h
theorem alt_len {n:Int} {w:List Nat} (h:Wk w):(alt n w).length ≤ 10:=by
  have:=wk_len h
  unfold alt
  split
  · rename_i h; simp only [List.length_cons]; omega
  · exact this
theorem spc_len (n:Int) (l a:Nat):(spc n l a).length ≤ 2:=by
  rcases spc_or n l a with e | e | ⟨e,_⟩ <;> rw [e] <;> decide
theorem pcs_len {ns:List Int} {k:Nat} {w:List Nat} {L:List (List Nat)} (h:Wk w):(pcs ns k w L).length ≤ 12:=by
  unfold pcs
  rw [List.length_append]
  have:=alt_len (n:=mix ns (20 + k)) h
  have:=spc_len (mix ns (20 + k)) ((alt (mix ns (20 + k)) w).getLastD 0) (nxc L)
  omega
theorem tx_len {ns:List Int}:∀ (L:List (List Nat)) (k:Nat),(∀ w ∈ L,Wk w) → (tx ns k L).length ≤ 12 * L.length
  | [],_,_ => by simp [tx]
  | w :: L,k,h => by
    obtain ⟨h1,h2⟩:=List.forall_mem_cons.mp h
    have:=tx_len (ns:=ns) L (k + 1) h2
    have:=pcs_len (ns:=ns) (k:=k) (L:=L) h1
    simp only [tx,List.length_append,List.length_cons]
    omega
section
variable {ns:List Int} {μ:Mu}
theorem t_step {P L:List (List Nat)} {w acc:List Nat} {e6 e7 e8 e9 e10:Option D} (hw:Wk w) (hL:∀ v ∈ L,Wk v) (ha:acc.length ≤ 90000) (hn:P.length + L.length ≤ 900):∃ d6 d7 d8 d9 d10,l_text_1 [some (sc ns),some (.int 20),some (sL (P ++ w :: L)),some (.str ltr),some (.str acc),some (.int (P.length:Nat)),e6,e7,e8,e9,e10] μ = .ok (.nx [some (sc ns),some (.int 20),some (sL (P ++ w :: L)),some (.str ltr),some (.str (acc ++ pcs ns P.length w L)),some (.int (P.length:Nat)),d6,d7,d8,d9,d10]) μ:=by
  have hn0:=mix_lo ns (20 + P.length)
  have hal:=alt_len (n:=mix ns (20 + P.length)) hw
  have hsl:=spc_len (mix ns (20 + P.length)) ((alt (mix ns (20 + P.length)) w).getLastD 0) (nxc L)
  have hwl:=wk_len hw
  have hlt:=pcs_len (ns:=ns) (k:=P.length) (L:=L) hw
  have hm:=mix_at ns (20 + P.length) (i:=20 + (P.length:Int)) (by omega) μ
  have hp:pcs ns P.length w L = alt (mix ns (20 + P.length)) w ++ spc (mix ns (20 + P.length)) ((alt (mix ns (20 + P.length)) w).getLastD 0) (nxc L):=rfl
  rw [hp] at hlt ⊢
  clear hp
  have hane:=alt_ne (n:=mix ns (20 + P.length)) (w:=w) (by obtain ⟨c,r,rfl⟩:=wk_ne hw; simp)
  have hadef:∀ n,alt n w = if (w.head?.any fun c => decide (c ∈ dgs)) = true ∧ w.length < 10 ∧ n / 3 % 4 = 0 then 48 :: w else w:=fun _ => rfl
  have hadef:=hadef (mix ns (20 + P.length))
  have hspdef:∀ l,spc (mix ns (20 + P.length)) l (nxc L) = (spL l (nxc L)).getD (mix ns (20 + P.length) % 3).toNat []:=fun _ => rfl
  generalize mix ns (20 + P.length) = n at *
  have hspdef:=hspdef ((alt n w).getLastD 0)
  generalize alt n w = y at *
  generalize hl:y.getLastD 0 = l at *
  generalize spc n l (nxc L) = sp at *
  have x7:gIdx (sL (P ++ w :: L)) (.int (P.length:Nat)) = some (.str w):=at_code (by rw [List.getElem?_map,List.getElem?_append_right (Nat.le_refl _),Nat.sub_self]; rfl)
  have t3:mIte (mAnd (mTest (mBin gInT (mBin gIdx (mVar 7) (mC (.int 0))) (mC (.str w_0123456789)))) (mAnd (mTest (mBin gLt (mCallB gLen (mCons (mVar 7) mNil)) (mC (.int 10)))) (mTest (mBin gEq (mBin gMod (mBin gDiv (mVar 6) (mC (.int 3))) (mC (.int 4))) (mC (.int 0))))))
    (mSet 7 (mBin gAdd (mC (.str w_0)) (mVar 7)))
    mSkip [some (sc ns),some (.int 20),some (sL (P ++ w :: L)),some (.str ltr),some (.str acc),some (.int (P.length:Nat)),some (.int n),some (.str w),e8,e9,e10] μ = .ok (.nx [some (sc ns),some (.int 20),some (sL (P ++ w :: L)),some (.str ltr),some (.str acc),some (.int (P.length:Nat)),some (.int n),some (.str y),e8,e9,e10]) μ:=by
    obtain ⟨c,r,rfl⟩:=wk_ne hw
    have a1:mTest (mBin gInT (mBin gIdx (mVar 7) (mC (.int 0))) (mC (.str w_0123456789))) [some (sc ns),some (.int 20),some (sL (P ++ (c :: r) :: L)),some (.str ltr),some (.str acc),some (.int (P.length:Nat)),some (.int n),some (.str (c :: r)),e8,e9,e10] μ = .ok (decide (c ∈ dgs)) μ:=v_test (v_bin (x:=.str [c]) (v_bin rfl rfl (ix_0 (by omega))) rfl (g_in1 c dgs))
    have a2:mTest (mBin gLt (mCallB gLen (mCons (mVar 7) mNil)) (mC (.int 10))) [some (sc ns),some (.int 20),some (sL (P ++ (c :: r) :: L)),some (.str ltr),some (.str acc),some (.int (P.length:Nat)),some (.int n),some (.str (c :: r)),e8,e9,e10] μ = .ok (decide ((c :: r).length < 10)) μ:=by
      refine v_test (v_bin (x:=.int ((c :: r).length:Nat)) (v_callB (v_cons rfl v_nil) ?_) rfl ?_)
      · show (if (c :: r).length ≤ 16777216 then some (D.int (c :: r).length) else none) = _
        rw [if_pos (by omega)]
      · show some (D.bl (decide (((c :: r).length:Int) < 10))) = _
        by_cases z:(c :: r).length < 10
        · rw [decide_eq_true z,decide_eq_true (by omega)]
        · rw [decide_eq_false z,decide_eq_false (by omega)]
    have a3:mTest (mBin gEq (mBin gMod (mBin gDiv (mVar 6) (mC (.int 3))) (mC (.int 4))) (mC (.int 0))) [some (sc ns),some (.int 20),some (sL (P ++ (c :: r) :: L)),some (.str ltr),some (.str acc),some (.int (P.length:Nat)),some (.int n),some (.str (c :: r)),e8,e9,e10] μ = .ok (n / 3 % 4 == 0) μ:=v_test (v_bin (v_mod (v_div (x:=6) rfl (by decide) (by decide)) (by decide)) rfl (g_eqI _ _))
    have hh:((c :: r).head?.any fun c => decide (c ∈ dgs)) = decide (c ∈ dgs):=rfl
    rw [hh] at hadef
    by_cases z1:c ∈ dgs
    · rw [decide_eq_true z1] at a1
      by_cases z2:(c :: r).length < 10
      · rw [decide_eq_true z2] at a2
        by_cases z3:n / 3 % 4 = 0
        · rw [show (n / 3 % 4 == 0) = true by rw [z3]; rfl] at a3
          rw [if_pos ⟨decide_eq_true z1,z2,z3⟩] at hadef
          subst hadef
          refine (v_iteT ((v_andT a1).trans ((v_andT a2).trans a3))).trans ?_
          have:mBin gAdd (mC (.str w_0)) (mVar 7) [some (sc ns),some (.int 20),some (sL (P ++ (c :: r) :: L)),some (.str ltr),some (.str acc),some (.int (P.length:Nat)),some (.int n),some (.str (c :: r)),e8,e9,e10] μ = .ok (.str (48 :: c :: r)) μ:=v_bin (x:=.str [48]) (y:=.str (c :: r)) rfl rfl (add_t (x:=[48]) (y:=c :: r) (by simp at hwl ⊢; omega))
          unfold mSet
          rw [this]
          rfl
        · rw [show (n / 3 % 4 == 0) = false by rw [beq_eq_false_iff_ne]; exact z3] at a3
          rw [if_neg (fun z => z3 z.2.2)] at hadef
          subst hadef
          exact v_iteF ((v_andT a1).trans ((v_andT a2).trans a3))
      · rw [decide_eq_false z2] at a2
        rw [if_neg (fun z => z2 z.2.1)] at hadef
        subst hadef
        exact v_iteF ((v_andT a1).trans (v_andF a2))
    · rw [decide_eq_false z1] at a1
      rw [if_neg (fun z => z1 (of_decide_eq_true z.1))] at hadef
      subst hadef
      exact v_iteF (v_andF a1)
  have x8:gIdx (.str y) (.int (-1)) = some (.str [l]):=by rw [← hl]; exact ix_l hane (by omega)
  have x9:mBin gIdx (mBin gIdx (mBin gAdd (mSl (mVar 2) (mPart (mBin gAdd (mVar 5) (mC (.int 1)))) mNoP) (mLst (mCons (mC (.str w24)) mNil))) (mC (.int 0))) (mC (.int 0)) [some (sc ns),some (.int 20),some (sL (P ++ w :: L)),some (.str ltr),some (.str acc),some (.int (P.length:Nat)),some (.int n),some (.str y),some (.str [l]),e9,e10] μ = .ok (.str [nxc L]) μ:=by
    have s1:mSl (mVar 2) (mPart (mBin gAdd (mVar 5) (mC (.int 1)))) mNoP [some (sc ns),some (.int 20),some (sL (P ++ w :: L)),some (.str ltr),some (.str acc),some (.int (P.length:Nat)),some (.int n),some (.str y),some (.str [l]),e9,e10] μ = .ok (sL L) μ:=by
      show ofO μ (some (D.lst (M.cutD ((P ++ w :: L).map .str) (some ((P.length:Int) + 1)) none))) = _
      unfold M.cutD
      rw [show (P.length:Int) + 1 = ((P.length + 1:Nat):Int) by omega,HT.sIx_nat,HT.sIx_none,List.length_map]
      have e1:min (P.length + 1) (P ++ w :: L).length = P.length + 1:=by simp only [List.length_append,List.length_cons]; omega
      have e2:(P ++ w :: L).drop (P.length + 1) = L:=by rw [List.drop_append]; simp
      rw [e1,← List.map_drop,e2,List.take_of_length_le (by simp; omega)]
      rfl
    have s2:mBin gAdd (mSl (mVar 2) (mPart (mBin gAdd (mVar 5) (mC (.int 1)))) mNoP) (mLst (mCons (mC (.str w24)) mNil)) [some (sc ns),some (.int 20),some (sL (P ++ w :: L)),some (.str ltr),some (.str acc),some (.int (P.length:Nat)),some (.int n),some (.str y),some (.str [l]),e9,e10] μ = .ok (sL (L ++ [w24])) μ:=v_bin s1 (y:=sL [w24]) rfl (add_s (by simp; omega))
    cases L with
    | nil => exact v_bin (x:=.str w24) (v_bin s2 rfl (at_code (p:=0) rfl)) rfl (ix_0 (by decide))
    | cons v L =>
      obtain ⟨h1,h2⟩:=List.forall_mem_cons.mp hL
      obtain ⟨c,r,rfl⟩:=wk_ne h1
      have:=wk_len h1
      exact v_bin (x:=.str (c :: r)) (v_bin s2 rfl (at_code (p:=0) rfl)) rfl (ix_0 (by omega))
  generalize nxc L = a at *
  have x10:mOrV (mAndV (mBin gInT (mVar 8) (mVar 3)) (mBin gInT (mVar 9) (mVar 3))) (mAndV (mBin gInT (mVar 8) (mC (.str w_0123456789))) (mBin gInT (mVar 9) (mC (.str w_0123456789)))) [some (sc ns),some (.int 20),some (sL (P ++ w :: L)),some (.str ltr),some (.str acc),some (.int (P.length:Nat)),some (.int n),some (.str y),some (.str [l]),some (.str [a]),e10] μ = .ok (.bl (rn l a)) μ :=
    v_orVB (v_andVB (v_bin (x:=.str [l]) (y:=.str ltr) rfl rfl (g_in1 l ltr)) (v_bin (x:=.str [a]) (y:=.str ltr) rfl rfl (g_in1 a ltr))) (v_andVB (v_bin (x:=.str [l]) rfl rfl (g_in1 l dgs)) (v_bin (x:=.str [a]) rfl rfl (g_in1 a dgs)))
  have x11:mIf (mOr (mTru (mVar 10)) (mTest (mBin gInT (mVar 8) (mC (.str w29))))) (mC (.str w24)) (mC (.str w25)) [some (sc ns),some (.int 20),some (sL (P ++ w :: L)),some (.str ltr),some (.str acc),some (.int (P.length:Nat)),some (.int n),some (.str y),some (.str [l]),some (.str [a]),some (.bl (rn l a))] μ = .ok (.str (if rn l a = true ∨ l ∈ w29 then w24 else w25)) μ:=by
    have b2:mTest (mBin gInT (mVar 8) (mC (.str w29))) [some (sc ns),some (.int 20),some (sL (P ++ w :: L)),some (.str ltr),some (.str acc),some (.int (P.length:Nat)),some (.int n),some (.str y),some (.str [l]),some (.str [a]),some (.bl (rn l a))] μ = .ok (decide (l ∈ w29)) μ:=v_test (v_bin (x:=.str [l]) rfl rfl (g_in1 l w29))
    have b1:mTru (mVar 10) [some (sc ns),some (.int 20),some (sL (P ++ w :: L)),some (.str ltr),some (.str acc),some (.int (P.length:Nat)),some (.int n),some (.str y),some (.str [l]),some (.str [a]),some (.bl (rn l a))] μ = .ok (rn l a) μ:=v_tru (d:=.bl (rn l a)) rfl rfl
    generalize rn l a = b at *
    cases b with
    | true => rw [if_pos (.inl rfl)]; exact v_ifT (v_orT b1)
    | false =>
      by_cases z:l ∈ w29
      · rw [decide_eq_true z] at b2
        rw [if_pos (.inr z)]
        exact v_ifT ((v_orF b1).trans b2)
      · rw [decide_eq_false z] at b2
        rw [if_neg (fun y => y.elim (fun y => by cases y) z)]
        exact v_ifF ((v_orF b1).trans b2)
  have x12:mBin gIdx (mLst (mCons (mC (.str w24)) (mCons (mC (.str w28)) (mCons (mIf (mOr (mTru (mVar 10)) (mTest (mBin gInT (mVar 8) (mC (.str w29))))) (mC (.str w24)) (mC (.str w25))) mNil)))) (mBin gMod (mVar 6) (mC (.int 3))) [some (sc ns),some (.int 20),some (sL (P ++ w :: L)),some (.str ltr),some (.str acc),some (.int (P.length:Nat)),some (.int n),some (.str y),some (.str [l]),some (.str [a]),some (.bl (rn l a))] μ = .ok (.str sp) μ:=by
    refine v_bin (x:=sL (spL l a)) (v_lst (v_cons rfl (v_cons rfl (v_cons x11 v_nil)))) (v_mod rfl (by decide)) ?_
    have hk:(n % 3).toNat < (spL l a).length:=by show _ < 3; omega
    show atI ((spL l a).map D.str) (n % 3) = _
    rw [hspdef,atI_pos (by omega),List.getElem?_map,List.getElem?_eq_getElem hk,List.getD_eq_getElem?_getD,List.getElem?_eq_getElem hk]
    rfl
  refine ⟨some (.int n),some (.str y),some (.str [l]),some (.str [a]),some (.bl (rn l a)),?_⟩
  have x13:mBin gAdd (mBin gAdd (mVar 4) (mVar 7)) (mBin gIdx (mLst (mCons (mC (.str w24)) (mCons (mC (.str w28)) (mCons (mIf (mOr (mTru (mVar 10)) (mTest (mBin gInT (mVar 8) (mC (.str w29))))) (mC (.str w24)) (mC (.str w25))) mNil)))) (mBin gMod (mVar 6) (mC (.int 3)))) [some (sc ns),some (.int 20),some (sL (P ++ w :: L)),some (.str ltr),some (.str acc),some (.int (P.length:Nat)),some (.int n),some (.str y),some (.str [l]),some (.str [a]),some (.bl (rn l a))] μ = .ok (.str (acc ++ (y ++ sp))) μ:=by
    rw [← List.append_assoc]
    exact v_bin (x:=.str (acc ++ y)) (y:=.str sp) (v_bin (x:=.str acc) (y:=.str y) rfl rfl (add_t (by omega))) x12 (add_t (by rw [List.length_append]; omega))
  refine (v_set 6 (v_call (v_cons rfl (v_cons rfl v_nil)) hm)).trans ((v_set 7 (v_bin rfl rfl x7)).trans ((v_seqN t3).trans ((v_set 8 (v_bin (x:=.str y) (y:=.int (-1)) rfl rfl x8)).trans ((v_set 9 x9).trans ((v_set 10 x10).trans ?_)))))
  unfold mSet
  refine (congrArg (fun r => Res.bind r _) x13).trans ?_
  rfl
theorem t_loop:∀ (L P:List (List Nat)) (acc:List Nat) (e5 e6 e7 e8 e9 e10:Option D),(∀ v ∈ L,Wk v) → acc.length + 12 * L.length ≤ 90000 → P.length + L.length ≤ 900 → ∃ d5 d6 d7 d8 d9 d10,forGo (gN 5) l_text_1 (iL (List.range' P.length L.length)) [some (sc ns),some (.int 20),some (sL (P ++ L)),some (.str ltr),some (.str acc),e5,e6,e7,e8,e9,e10] μ = .ok (.nx [some (sc ns),some (.int 20),some (sL (P ++ L)),some (.str ltr),some (.str (acc ++ tx ns P.length L)),d5,d6,d7,d8,d9,d10]) μ
  | [],P,acc,e5,e6,e7,e8,e9,e10,_,_,_ => ⟨e5,e6,e7,e8,e9,e10,by rw [show tx ns P.length [] = [] from rfl,List.append_nil,List.append_nil]; rfl⟩
  | w :: L,P,acc,e5,e6,e7,e8,e9,e10,h,ha,hn => by
    obtain ⟨h1,h2⟩:=List.forall_mem_cons.mp h
    simp only [List.length_cons] at ha hn
    obtain ⟨d6,d7,d8,d9,d10,e⟩:=t_step (ns:=ns) (μ:=μ) (P:=P) (L:=L) (acc:=acc) (e6:=e6) (e7:=e7) (e8:=e8) (e9:=e9) (e10:=e10) h1 h2 (by omega) (by omega)
    have hpl:=pcs_len (ns:=ns) (k:=P.length) (L:=L) h1
    obtain ⟨f5,f6,f7,f8,f9,f10,e2⟩:=t_loop L (P ++ [w]) (acc ++ pcs ns P.length w L) (some (.int (P.length:Nat))) d6 d7 d8 d9 d10 h2 (by rw [List.length_append]; omega) (by simp; omega)
    refine ⟨f5,f6,f7,f8,f9,f10,?_⟩
    rw [List.length_cons,iL_cons]
    refine (v_forN 5 e).trans ?_
    have hP:(P ++ [w]).length = P.length + 1:=by simp
    rw [hP,show P ++ [w] ++ L = P ++ w :: L by simp] at e2
    rw [e2,List.append_assoc]
    rfl
noncomputable def t0 (ns:List Int):List Nat:=[w24,w25].getD (mix ns 20 % 2).toNat []
theorem text_eq {W:List (List Nat)} (hW:∀ v ∈ W,Wk v) (hl:W.length ≤ 800):f_text [sc ns,.int 20,sL W] μ = .ok (.str (t0 ns ++ tx ns 0 W)) μ:=by
  have e1:mBin gIdx (mLst (mCons (mC (.str w24)) (mCons (mC (.str w25)) mNil))) (mBin gMod (mCall f_mix (mCons (mVar 0) (mCons (mVar 1) mNil))) (mC (.int 2))) [some (sc ns),some (.int 20),some (sL W),some (.str ltr),none,none,none,none,none,none,none] μ = .ok (.str (t0 ns)) μ:=by
    refine v_bin (x:=sL [w24,w25]) rfl (v_mod (v_call rfl (mix_at ns 20 rfl μ)) (by decide)) ?_
    have hk:(mix ns 20 % 2).toNat < [w24,w25].length:=by show _ < 2; omega
    show atI ([w24,w25].map D.str) (mix ns 20 % 2) = _
    unfold t0
    rw [atI_pos (by omega),List.getElem?_map,List.getElem?_eq_getElem hk,List.getD_eq_getElem?_getD,List.getElem?_eq_getElem hk]
    rfl
  have hl0:(t0 ns).length ≤ 1:=by
    unfold t0
    have h:(mix ns 20 % 2).toNat = 0 ∨ (mix ns 20 % 2).toNat = 1:=by omega
    rcases h with h | h <;> rw [h] <;> decide
  obtain ⟨f5,f6,f7,f8,f9,f10,e2⟩:=t_loop (ns:=ns) (μ:=μ) W [] (t0 ns) none none none none none none hW (by omega) (by simp; omega)
  refine v_fn 8 ((v_set 3 rfl).trans ((v_set 4 e1).trans ((v_seqN (ρ1:=[some (sc ns),some (.int 20),some (sL W),some (.str ltr),some (.str (t0 ns ++ tx ns 0 W)),f5,f6,f7,f8,f9,f10]) ?_).trans (v_ret rfl))))
  unfold mFor
  rw [v_range (n:=W.length) (v_callB (ds:=[sL W]) rfl (by show some (D.int (W.map D.str).length) = _; rw [List.length_map])) (by omega),bind_ok]
  exact e2
end
end K10
set_option Elab.async false
set_option linter.all false
set_option maxRecDepth 100000
set_option maxHeartbeats 400000
namespace K10
open PySem PySem.Spec PyProof.Rows L2 M NumText
theorem alt_no {n:Int} {w:List Nat} (h:(w.head?.any dig) = false):alt n w = w:=by
  unfold alt
  rw [if_neg]
  rintro ⟨h1,_⟩
  have:(w.head?.any dig) = true:=by
    cases w with
    | nil => cases h1
    | cons c r => show dig c = true; rw [dig_in]; exact h1
  rw [h] at this
  cases this
theorem alt_fig {n:Int} {w:List Nat} (hn:w ≠ []) (h:∀ c ∈ w,dig c = true) (hl:w.length ≤ 10):(∀ c ∈ alt n w,dig c = true) ∧ wd (alt n w) = wd w:=by
  cases w with
  | nil => exact absurd rfl hn
  | cons c r =>
    have hc:=h c List.mem_cons_self
    unfold alt
    by_cases z:((c :: r).head?.any fun c => decide (c ∈ dgs)) = true ∧ (c :: r).length < 10 ∧ n / 3 % 4 = 0
    · rw [if_pos z]
      refine ⟨fun d hd => ?_,?_⟩
      · rcases List.mem_cons.mp hd with rfl | hd
        · rfl
        · exact h d hd
      · have e:digitsVal (48 :: c :: r) = digitsVal (c :: r):=rfl
        unfold wd nm
        rw [e]
        have g1:((48 :: c :: r).head?.any dig) = true:=rfl
        have g2:((c :: r).head?.any dig) = true:=hc
        rw [if_pos g1,if_pos g2,if_neg (show ¬ 10 < (48 :: c :: r).length by have:=z.2.1; simp only [List.length_cons] at this ⊢; omega),if_neg (show ¬ 10 < (c :: r).length by omega)]
    · rw [if_neg z]
      exact ⟨h,rfl⟩
theorem last_mem {x:List Nat} (h:x ≠ []):x.getLastD 0 ∈ x:=by
  rw [List.getLastD_eq_getLast?,List.getLast?_eq_getLast h]
  exact List.getLast_mem h
theorem wk_head {w:List Nat} (h:Wk w):(w.headD 32) ≠ 32 ∧ (alp (w.headD 32) = true → w.headD 32 ∈ ltr):=by
  have h1:∀ w ∈ nmL,(w.headD 32) ≠ 32 ∧ (alp (w.headD 32) = true → w.headD 32 ∈ ltr):=by decide
  have h2:∀ w ∈ longL,(w.headD 32) ≠ 32 ∧ (alp (w.headD 32) = true → w.headD 32 ∈ ltr):=by decide
  have h3:∀ w ∈ sgnL,(w.headD 32) ≠ 32 ∧ (alp (w.headD 32) = true → w.headD 32 ∈ ltr):=by decide
  cases h with
  | nam h => exact h1 w h
  | lng h => exact h2 w h
  | sgn h => exact h3 w h
  | fig hn h _ =>
    cases w with
    | nil => exact absurd rfl hn
    | cons c r =>
      have hc:dig c = true:=h c List.mem_cons_self
      refine ⟨fun e => ?_,fun ha => ?_⟩
      · have e:c = 32:=e
        subst e
        cases hc
      · have ha:alp c = true:=ha
        rw [not_da ha] at hc
        cases hc
theorem alt_head {n:Int} {w:List Nat} (h:w ≠ []):∃ c r,alt n w = c :: r ∧ (c = w.headD 32 ∨ (c = 48 ∧ dig (w.headD 32) = true)):=by
  cases w with
  | nil => exact absurd rfl h
  | cons c r =>
    unfold alt
    split
    · rename_i z
      exact ⟨48,_,rfl,.inr ⟨rfl,by show dig c = true; rw [dig_in]; exact z.1⟩⟩
    · exact ⟨c,r,rfl,.inl rfl⟩
theorem tx_head {ns:List Int} {k:Nat} {L:List (List Nat)} (h:∀ w ∈ L,Wk w) {c:Nat} (hc:(tx ns k L).head? = some c):(c = nxc L ∨ (c = 48 ∧ dig (nxc L) = true)) ∧ (alp (nxc L) = true → nxc L ∈ ltr):=by
  cases L with
  | nil => cases hc
  | cons w L =>
    obtain ⟨h1,h2⟩:=List.forall_mem_cons.mp h
    obtain ⟨a,b,rfl⟩:=wk_ne h1
    obtain ⟨d,r,e,hd⟩:=alt_head (n:=mix ns (20 + k)) (w:=a :: b) (by simp)
    unfold tx pcs at hc
    rw [e] at hc
    have hc:d = c:=by simpa using hc
    subst hc
    exact ⟨hd,(wk_head h1).2⟩
theorem lx_sp:∀ {s r:List Nat} {ds:List D},(∀ c ∈ s,c = 32) → Lx r ds → Lx (s ++ r) ds
  | [],_,_,_,h => h
  | c :: s,r,ds,hs,h => by
    obtain ⟨h1,h2⟩:=List.forall_mem_cons.mp hs
    subst h1
    exact .sp (lx_sp h2 h)
theorem spc_32 (n:Int) (l a:Nat):∀ c ∈ spc n l a,c = 32:=by
  rcases spc_or n l a with e | e | ⟨e,_⟩ <;> rw [e] <;> decide
theorem lx_tx {ns:List Int}:∀ (L:List (List Nat)) (k:Nat),(∀ w ∈ L,Wk w) → Lx (tx ns k L) (L.map wd)
  | [],_,_ => .nil
  | w :: L,k,h => by
    obtain ⟨h1,h2⟩:=List.forall_mem_cons.mp h
    have ih:=lx_tx (ns:=ns) L (k + 1) h2
    have hh:=fun c (hc:(tx ns (k + 1) L).head? = some c) => tx_head (ns:=ns) (k:=k + 1) h2 hc
    unfold tx pcs
    rw [List.append_assoc]
    generalize tx ns (k + 1) L = rest at *
    generalize mix ns (20 + k) = n at *
    have ho:=spc_or n ((alt n w).getLastD 0) (nxc L)
    have h32:=spc_32 n ((alt n w).getLastD 0) (nxc L)
    generalize spc n ((alt n w).getLastD 0) (nxc L) = sp at *
    have hr:=lx_sp h32 ih
    have fol:(∃ s,sp ++ rest = 32 :: s) ∨ (sp = [] ∧ rn ((alt n w).getLastD 0) (nxc L) = false ∧ (alt n w).getLastD 0 ∉ w29):=by
      rcases ho with e | e | e
      · exact .inl ⟨rest,by rw [e]; rfl⟩
      · exact .inl ⟨32 :: rest,by rw [e]; rfl⟩
      · exact .inr e
    have hgo:∀ q:Nat → Bool,q 32 = false → (sp = [] → rn ((alt n w).getLastD 0) (nxc L) = false → ∀ c,rest.head? = some c → q c = false) → ∀ c,(sp ++ rest).head? = some c → q c = false:=fun q hq h c hc => by
      rcases fol with ⟨s,e⟩ | ⟨e,e2,_⟩
      · rw [e] at hc
        cases hc
        exact hq
      · rw [e] at hc
        exact h e e2 c hc
    rw [List.map_cons]
    cases h1 with
    | fig hn hd hl =>
      obtain ⟨g1,g2⟩:=alt_fig (n:=n) hn hd hl
      have hne:=alt_ne (n:=n) hn
      have hlast:=g1 _ (last_mem hne)
      rw [← g2]
      refine Lx.wd (.fig hne g1 (hgo dig rfl fun _ hrn c hc => ?_)) (fun c hc => ?_) hr
      · have hn2:dig (nxc L) = false:=by
          unfold rn at hrn
          rw [dig_in] at hlast
          rw [hlast,Bool.true_and,Bool.or_eq_false_iff] at hrn
          rw [dig_in]
          exact hrn.2
        rcases (hh c hc).1 with e | ⟨_,e⟩
        · rw [e]; exact hn2
        · rw [hn2] at e; cases e
      · have:c ∈ alt n w:=List.mem_of_mem_head? hc
        have:=g1 c this
        intro e
        subst e
        cases this
    | nam hm =>
      have f1:∀ w ∈ nmL,w ≠ [] ∧ (w.head?.any dig) = false ∧ (∀ c ∈ w,alp c = true) ∧ (∀ c ∈ w,c ∈ ltr):=by decide
      obtain ⟨a1,a2,a3,a4⟩:=f1 w hm
      have ea:=alt_no (n:=n) a2
      rw [ea] at hgo ⊢
      refine Lx.wd (.alp a1 a3 (hgo alp rfl fun _ hrn c hc => ?_)) (fun c hc => ?_) hr
      · have hlast:=a4 _ (last_mem a1)
        have hn2:nxc L ∉ ltr:=by
          unfold rn at hrn
          rw [decide_eq_true hlast,Bool.true_and,Bool.or_eq_false_iff] at hrn
          exact of_decide_eq_false hrn.1
        obtain ⟨z1,z2⟩:=hh c hc
        rcases z1 with e | ⟨e,_⟩
        · cases hq:alp c with
          | false => rfl
          | true => rw [e] at hq; exact absurd (z2 hq) hn2
        · rw [e]; rfl
      · have:c ∈ w:=List.mem_of_mem_head? hc
        have:=a3 c this
        intro e
        subst e
        cases this
    | lng hm =>
      have f1:∀ w ∈ longL,(w.head?.any dig) = false ∧ ∀ c ∈ w,c ≠ 32:=by decide
      obtain ⟨a2,a3⟩:=f1 w hm
      rw [alt_no (n:=n) a2]
      exact Lx.wd (.two hm) (fun c hc => a3 c (List.mem_of_mem_head? hc)) hr
    | sgn hm =>
      have f1:∀ w ∈ sgnL,(w.head?.any dig) = false ∧ (∀ c ∈ w,c ≠ 32 ∧ dig c = false ∧ alp c = false) ∧ w.length = 1:=by decide
      obtain ⟨a2,a3,a4⟩:=f1 w hm
      rw [alt_no (n:=n) a2] at fol ⊢
      obtain ⟨c,rfl⟩:∃ c,w = [c]:=List.length_eq_one_iff.mp a4
      obtain ⟨b1,b2,b3⟩:=a3 c List.mem_cons_self
      refine Lx.wd (.one b2 b3 ?_) (fun d hd => by cases hd; exact b1) hr
      have f2:∀ v ∈ longL,v.headD 0 ∈ w29 ∧ v.getLastD 0 ≠ 32:=by decide
      intro hl
      obtain ⟨g1,g2⟩:=f2 _ hl
      rcases fol with ⟨s,e⟩ | ⟨_,_,e⟩
      · rw [e] at g2
        exact g2 rfl
      · exact e g1
theorem tx_asc {ns:List Int}:∀ (L:List (List Nat)) (k:Nat),(∀ w ∈ L,Wk w) → ∀ c ∈ tx ns k L,c < 128
  | [],_,_,c,hc => nomatch hc
  | w :: L,k,h,c,hc => by
    obtain ⟨h1,h2⟩:=List.forall_mem_cons.mp h
    unfold tx pcs at hc
    have hw:∀ c ∈ w,c < 128:=by
      have f1:∀ w ∈ nmL,∀ c ∈ w,c < 128:=by decide
      have f2:∀ w ∈ longL,∀ c ∈ w,c < 128:=by decide
      have f3:∀ w ∈ sgnL,∀ c ∈ w,c < 128:=by decide
      cases h1 with
      | nam h => exact f1 w h
      | lng h => exact f2 w h
      | sgn h => exact f3 w h
      | fig _ h _ =>
        intro c hc
        have:=h c hc
        simp only [dig,Bool.and_eq_true,decide_eq_true_eq] at this
        omega
    rcases List.mem_append.mp hc with hc | hc
    · rcases List.mem_append.mp hc with hc | hc
      · unfold alt at hc
        split at hc
        · rcases List.mem_cons.mp hc with e | hc
          · omega
          · exact hw c hc
        · exact hw c hc
      · have:=spc_32 _ _ _ c hc
        omega
    · exact tx_asc L (k + 1) h2 c hc
theorem wk_inn {h:List Nat} {ks L:List (List Nat)} (hL:∀ w ∈ L,Wk w):∀ w ∈ inn h ks L,Wk w:=by
  intro w hw
  unfold inn at hw
  split at hw
  · rcases List.mem_append.mp hw with hw | hw
    · rcases List.mem_append.mp hw with hw | hw
      · split at hw
        · rcases List.mem_cons.mp hw with e | hw
          · rw [e]; exact .nam (by decide)
          · rw [List.mem_singleton.mp hw]; exact .sgn (by decide)
        · rw [List.mem_singleton.mp hw]; exact .sgn (by decide)
      · exact hL w hw
    · rw [List.mem_singleton.mp hw]; exact .sgn (by decide)
  · exact hL w hw
theorem wk_op:∀ x ∈ opL,Wk (sg x):=op_all ⟨.sgn (by decide),.sgn (by decide),.sgn (by decide),.sgn (by decide),.nam (by decide),.sgn (by decide),.sgn (by decide),.sgn (by decide),.lng (by decide),.lng (by decide)⟩
theorem wk_cp:∀ x ∈ cpL,Wk (sg x):=cp_all ⟨.sgn (by decide),.lng (by decide),.sgn (by decide),.sgn (by decide),.lng (by decide),.lng (by decide)⟩
theorem wk_3 {A B:List (List Nat)} {w:List Nat} (hA:∀ w ∈ A,Wk w) (hw:Wk w) (hB:∀ w ∈ B,Wk w):∀ v ∈ A ++ [w] ++ B,Wk v:=by
  intro v hv
  rcases List.mem_append.mp hv with hv | hv
  · rcases List.mem_append.mp hv with hv | hv
    · exact hA v hv
    · rw [List.mem_singleton.mp hv]; exact hw
  · exact hB v hv
theorem wk_N:∀ a:N,a.ok → ∀ w ∈ tolN a,Wk w
  | .num k,h,w,hw => by
    rw [List.mem_singleton.mp hw]
    exact .fig (dgt_ne _) (fun c hc => by have:=dgt_all _ c hc; simp [dig,this.1,this.2]) (dgt_10 (by have:=h.1; have:=h.2; omega))
  | .len,h,w,hw => by rw [List.mem_singleton.mp hw]; exact .nam (by decide)
  | .load s a,h,w,hw => by
    rcases List.mem_append.mp hw with hw | hw
    · rcases List.mem_append.mp hw with hw | hw
      · rcases List.mem_cons.mp hw with e | hw
        · rw [e]
          rcases h.1 with rfl | rfl | rfl <;> exact .nam (by decide)
        · rw [List.mem_singleton.mp hw]; exact .sgn (by decide)
      · exact wk_N a h.2 w hw
    · rw [List.mem_singleton.mp hw]; exact .sgn (by decide)
  | .op x a b,h,w,hw => by
    have ia:=wk_N a h.2.1
    have ib:=wk_N b h.2.2
    unfold tolN at hw
    split at hw
    · exact wk_3 (wk_inn ia) (wk_op x h.1) (wk_inn ib) w hw
    · exact wk_3 (wk_inn ia) (wk_op x h.1) (wk_inn ib) w hw
theorem wk_B:∀ a:B,a.ok → ∀ w ∈ tolB a,Wk w
  | .tru b,h,w,hw => by
    rw [List.mem_singleton.mp hw]
    cases b <;> exact .nam (by decide)
  | .nt a,h,w,hw => by
    rcases List.mem_append.mp hw with hw | hw
    · rw [List.mem_singleton.mp hw]; exact .nam (by decide)
    · exact wk_inn (wk_B a h) w hw
  | .both a b,h,w,hw => wk_3 (wk_inn (wk_B a h.1)) (.nam (by decide)) (wk_inn (wk_B b h.2)) w hw
  | .eith a b,h,w,hw => wk_3 (wk_inn (wk_B a h.1)) (.nam (by decide)) (wk_inn (wk_B b h.2)) w hw
  | .cmp x a b,h,w,hw => wk_3 (wk_N a h.2.1) (wk_cp x h.1) (wk_N b h.2.2) w hw
theorem eq_w (x:List Nat):eqD (.str x) (.str x) = true:=by show (x == x) = true; simp
theorem N.pl:∀ a:N,a.ok → plainD a.d = true ∧ dpt a.d ≤ a.dp ∧ eqD a.d a.d = true
  | .num k,_ => ⟨by show (plainD (.str w_number) && (true && true)) = true; decide,by show max 0 (max 0 0) + 1 ≤ 1; decide,by show (eqD (.str w_number) (.str w_number) && ((k == k) && true)) = true; rw [eq_w]; simp⟩
  | .len,_ => ⟨by decide,by decide,by decide⟩
  | .load s a,h => by
    obtain ⟨h1,h2,h3⟩:=N.pl a h.2
    refine ⟨?_,?_,?_⟩
    · show (plainD (.str w_load) && (true && (plainD a.d && true))) = true
      rw [h1]; decide
    · show max 0 (max 0 (max (dpt a.d) 0)) + 1 ≤ a.dp + 1
      omega
    · show (eqD (.str w_load) (.str w_load) && ((s == s) && (eqD a.d a.d && true))) = true
      rw [eq_w,h3]; simp
  | .op x a b,h => by
    obtain ⟨h1,h2,h3⟩:=N.pl a h.2.1
    obtain ⟨g1,g2,g3⟩:=N.pl b h.2.2
    refine ⟨?_,?_,?_⟩
    · show (plainD (.str x) && (plainD a.d && (plainD b.d && true))) = true
      rw [h1,g1,str_plain (x:=x) (N.asc (a:=.op x a b) h)]; rfl
    · show max 0 (max (dpt a.d) (max (dpt b.d) 0)) + 1 ≤ max a.dp b.dp + 1
      omega
    · show (eqD (.str x) (.str x) && (eqD a.d a.d && (eqD b.d b.d && true))) = true
      rw [eq_w,h3,g3]; rfl
theorem B.pl:∀ a:B,a.ok → a.nd → plainD a.d = true ∧ dpt a.d ≤ a.dp + 3 ∧ eqD a.d a.d = true
  | .tru b,_,_ => by cases b <;> exact ⟨by decide,by decide,by decide⟩
  | .nt a,h,n => by
    obtain ⟨h1,h2,h3⟩:=B.pl a h n
    refine ⟨?_,?_,?_⟩
    · show (plainD (.str w_not) && (plainD a.d && true)) = true
      rw [h1]; decide
    · show max 0 (max (dpt a.d) 0) + 1 ≤ a.dp + 1 + 3
      omega
    · show (eqD (.str w_not) (.str w_not) && (eqD a.d a.d && true)) = true
      rw [eq_w,h3]; rfl
  | .both a b,h,n => by
    obtain ⟨h1,h2,h3⟩:=B.pl a h.1 n.1
    obtain ⟨g1,g2,g3⟩:=B.pl b h.2 n.2
    refine ⟨?_,?_,?_⟩
    · show (plainD (.str w_both) && (plainD a.d && (plainD b.d && true))) = true
      rw [h1,g1]; decide
    · show max 0 (max (dpt a.d) (max (dpt b.d) 0)) + 1 ≤ max a.dp b.dp + 1 + 3
      omega
    · show (eqD (.str w_both) (.str w_both) && (eqD a.d a.d && (eqD b.d b.d && true))) = true
      rw [eq_w,h3,g3]; rfl
  | .eith a b,h,n => by
    obtain ⟨h1,h2,h3⟩:=B.pl a h.1 n.1
    obtain ⟨g1,g2,g3⟩:=B.pl b h.2 n.2
    refine ⟨?_,?_,?_⟩
    · show (plainD (.str w_either) && (plainD a.d && (plainD b.d && true))) = true
      rw [h1,g1]; decide
    · show max 0 (max (dpt a.d) (max (dpt b.d) 0)) + 1 ≤ max a.dp b.dp + 1 + 3
      omega
    · show (eqD (.str w_either) (.str w_either) && (eqD a.d a.d && (eqD b.d b.d && true))) = true
      rw [eq_w,h3,g3]; rfl
  | .cmp x a b,h,n => by
    obtain ⟨h1,h2,h3⟩:=N.pl a h.2.1
    obtain ⟨g1,g2,g3⟩:=N.pl b h.2.2
    obtain ⟨n1,n2⟩:=n
    refine ⟨?_,?_,?_⟩
    · show (plainD (.str x) && (plainD a.d && (plainD b.d && true))) = true
      rw [h1,g1,str_plain (x:=x) (B.asc (a:=.cmp x a b) h)]; rfl
    · show max 0 (max (dpt a.d) (max (dpt b.d) 0)) + 1 ≤ 1 + 3
      omega
    · show (eqD (.str x) (.str x) && (eqD a.d a.d && (eqD b.d b.d && true))) = true
      rw [eq_w,h3,g3]; rfl
theorem wv_wd {L:List (List Nat)} (h:∀ w ∈ L,Wk w) (p:Nat):WV (hd (L.map wd) p):=by
  unfold hd
  cases hq:(L.map wd)[p]? with
  | none => exact .non
  | some d =>
    obtain ⟨w,hw,rfl⟩:=List.mem_map.mp (List.mem_of_getElem? hq)
    show WV (wd w)
    unfold wd nm
    split
    · split
      · exact .non
      · split
        · exact .int
        · exact .non
    · split
      · rename_i hm
        have f1:∀ w ∈ nmL,∀ c ∈ w,c < 128:=by decide
        have f2:∀ w ∈ longL,∀ c ∈ w,c < 128:=by decide
        have f3:∀ w ∈ sgnL,∀ c ∈ w,c < 128:=by decide
        rcases hm with z | z | z
        · exact .str (f1 w z)
        · exact .str (f2 w z)
        · exact .str (f3 w z)
      · exact .non
theorem t0_ok (ns:List Int):(∀ c ∈ t0 ns,c = 32) ∧ (t0 ns).length ≤ 1:=by
  unfold t0
  have h:(mix ns 20 % 2).toNat = 0 ∨ (mix ns 20 % 2).toNat = 1:=by omega
  rcases h with h | h <;> rw [h] <;> decide
theorem read_all {ns:List Int} {a:B} (h:a.ok) (hn:a.nd) (h4:a.dp ≤ 4) (hl:(t0 ns ++ tx ns 0 (tolB a)).length ≤ 390) (μ:Mu):∃ μ',f_p_read [.str (t0 ns ++ tx ns 0 (tolB a))] μ = .ok a.d μ':=by
  have hw:=wk_B a h
  obtain ⟨z1,z2⟩:=t0_ok ns
  have hx:Tx0 (t0 ns ++ tx ns 0 (tolB a)):=⟨fun c hc => by
    rcases List.mem_append.mp hc with hc | hc
    · have:=z1 c hc; omega
    · exact tx_asc _ _ hw c hc,hl⟩
  obtain ⟨q,e⟩:=rd_all h hn h4
  have rb:=read_br hx (lx_sp z1 (lx_tx (tolB a) 0 hw)) (wv_wd hw) μ
  rw [e] at rb
  exact ⟨_,rb⟩
theorem told_all {a:B} (h:a.ok) (hn:a.nd) (h4:a.dp ≤ 4) (μ:Mu):f_told [a.d] μ = .ok (sL (tolB a)) μ:=by
  have h1:=tolB_len a 3 h hn h4
  have h2:=B.fd_le a hn
  have e:nbB 3 = 265:=rfl
  exact tolB_eq a 30 h (by omega) (by omega)
theorem law_true (ns:List Int) (hl:ns.length ≤ 63):∃ μ,f_law [.lst (ns.map .int)] [] = .ok (.bl true) μ:=by
  obtain ⟨d,hd,ed⟩:=mod_nat (ns:=ns) (k:=60) (n:=2) (by decide)
  have ed:mix ns 60 % 2 = (d:Int):=ed
  have e1:mBin gAdd (mC (.int 2)) (mBin gMod (mCall f_mix (mCons (mVar 0) (mCons (mC (.int 60)) mNil))) (mC (.int 2))) [some (sc ns),none,none,none] [] = .ok (.int ((2 + d:Nat):Int)) []:=by
    refine v_bin (y:=.int (d:Nat)) rfl ((v_mod (v_call rfl (mix_at ns 60 rfl [])) (by decide)).trans (by rw [ed])) ?_
    show some (D.int (2 + (d:Int))) = some (D.int ((2 + d:Nat):Int))
    rw [Int.natCast_add]
    rfl
  obtain ⟨a,ea,oka,na,_,da⟩:=truth_eq ns [] 6 (2 + d) 0 (by omega)
  obtain ⟨b,eb,okb,nb,_,db⟩:=truth_eq ns [] 6 0 0 (by omega)
  have la:=tolB_len a 3 oka na (by omega)
  have lb:=tolB_len b 0 okb nb (by omega)
  have e265:nbB 3 = 265:=rfl
  have e27:nbB 0 = 27:=rfl
  have ta:=told_all oka na (by omega) []
  have tb:=told_all okb nb (by omega) []
  have xa:=text_eq (ns:=ns) (μ:=[]) (wk_B a oka) (by omega)
  have xb:=text_eq (ns:=ns) (μ:=[]) (wk_B b okb) (by omega)
  have ka:=tx_len (ns:=ns) (tolB a) 0 (wk_B a oka)
  have kb:=tx_len (ns:=ns) (tolB b) 0 (wk_B b okb)
  have kz:=(t0_ok ns).2
  have tg:mTest (mBin gGt (mCallB gLen (mCons (mVar 2) mNil)) (mC (.int 300))) [some (sc ns),some a.d,some (.str (t0 ns ++ tx ns 0 (tolB a))),none] [] = .ok (decide (300 < (t0 ns ++ tx ns 0 (tolB a)).length)) []:=by
    refine v_test (v_bin (x:=.int ((t0 ns ++ tx ns 0 (tolB a)).length:Nat)) (v_callB (v_cons rfl v_nil) ?_) rfl ?_)
    · show (if (t0 ns ++ tx ns 0 (tolB a)).length ≤ 16777216 then some (D.int (t0 ns ++ tx ns 0 (tolB a)).length) else none) = _
      rw [if_pos (by rw [List.length_append]; omega)]
    · show some (D.bl (decide ((300:Int) < ((t0 ns ++ tx ns 0 (tolB a)).length:Int)))) = _
      by_cases z:300 < (t0 ns ++ tx ns 0 (tolB a)).length
      · rw [decide_eq_true z,decide_eq_true (by omega)]
      · rw [decide_eq_false z,decide_eq_false (by omega)]
  have fin:∀ c:B,c.ok → c.nd → c.dp ≤ 4 → (t0 ns ++ tx ns 0 (tolB c)).length ≤ 390 → ∃ μ',mSeq (mSet 3 (mCall f_p_read (mCons (mVar 2) mNil))) (mRet (mAndV (mIsI .tuple (mVar 3)) (mBin gEq (mVar 3) (mVar 1)))) [some (sc ns),some c.d,some (.str (t0 ns ++ tx ns 0 (tolB c))),none] [] = .ok (.rt (.bl true)) μ':=fun c h hn h4 hl => by
    obtain ⟨μ',e⟩:=read_all (ns:=ns) h hn h4 hl []
    obtain ⟨p1,p2,p3⟩:=B.pl c h hn
    refine ⟨μ',(v_set 3 (v_call rfl e)).trans (v_ret ((v_andVT ?_).trans (v_bin (x:=c.d) (y:=c.d) rfl rfl ?_)))⟩
    · obtain ⟨r,er⟩:=c.d_hd
      rw [er]
      rfl
    · have hdr:deref μ' c.d = c.d:=by
        obtain ⟨r,er⟩:=c.d_hd
        rw [er]
        rfl
      rw [hdr]
      unfold gEq cmpOk
      rw [p1,p3,decide_eq_true (show min (dpt c.d) (dpt c.d) ≤ 100 by omega)]
      rfl
  by_cases z:300 < (t0 ns ++ tx ns 0 (tolB a)).length
  · rw [decide_eq_true z] at tg
    obtain ⟨μ',ef⟩:=fin b okb nb (by omega) (by rw [List.length_append]; omega)
    refine ⟨μ',v_fn 3 ((v_set 1 (v_call (v_cons rfl (v_cons rfl (v_cons e1 v_nil))) ea)).trans ((v_set 2 (v_call (v_cons rfl (v_cons rfl (v_cons (v_call rfl ta) v_nil))) xa)).trans ((v_seqN ((v_iteT tg).trans ((v_set 1 (v_call (v_cons rfl (v_cons rfl (v_cons rfl v_nil))) eb)).trans (?_:_ = Res.ok (Out.nx [some (sc ns),some b.d,some (.str (t0 ns ++ tx ns 0 (tolB b))),none]) [])))).trans ef)))⟩
    unfold mSet
    rw [v_call (v_cons rfl (v_cons rfl (v_cons (v_call rfl tb) v_nil))) xb]
    rfl
  · rw [decide_eq_false z] at tg
    obtain ⟨μ',ef⟩:=fin a oka na (by omega) (by omega)
    exact ⟨μ',v_fn 3 ((v_set 1 (v_call (v_cons rfl (v_cons rfl (v_cons e1 v_nil))) ea)).trans ((v_set 2 (v_call (v_cons rfl (v_cons rfl (v_cons (v_call rfl ta) v_nil))) xa)).trans ((v_skip tg).trans ef)))⟩
end K10
noncomputable def PySem.W.Fast.tw5293548330189771587 : Unit := ()
noncomputable def PySem.W.Fast.tw550811351913028973 : Unit := ()
noncomputable def PySem.W.Fast.tw16218289530386243304 : Unit := ()
noncomputable def PySem.W.Fast.tw1136938087049172816 : PySem.Program := PySem.Challenge.pw_netsieve_k10_trees
theorem PySem.W.Fast.te1136938087049172816 : PySem.Challenge.pw_netsieve_k10_trees = PySem.W.Fast.tw1136938087049172816 := rfl
noncomputable def PySem.W.Fast.tw6690449068713513112 : Unit := ()
noncomputable def PySem.W.Fast.tw3768785081497124404 : Unit := ()
noncomputable def PySem.W.Fast.tw4395288063657559720 : Unit := ()
noncomputable def PySem.W.Fast.tw8147407528179611193 : Unit := ()
noncomputable def PySem.W.Fast.tw2711551894060355757 : Unit := ()
noncomputable def PySem.W.Fast.tw5805608136124650899 : Unit := ()
noncomputable def PySem.W.Fast.tw9374356380618028641 : Unit := ()
noncomputable def PySem.W.Fast.tw14778018228411939083 : Unit := ()
noncomputable def PySem.W.Fast.tw3820961585684941258 : Unit := ()
noncomputable def PySem.W.Fast.tw8870963671307774257 : Unit := ()
noncomputable def PySem.W.Fast.tw249941756621487362 : Unit := ()
noncomputable def PySem.W.Fast.tw3950739360660730793 : Unit := ()
noncomputable def PySem.W.Fast.tw11279066348291712080 : Unit := ()
noncomputable def PySem.W.Fast.tw17939366463827660668 : Unit := ()
open PySem PySem.W PyProof.Rows
set_option maxRecDepth 100000 in
set_option maxHeartbeats 0 in
theorem PySem.Challenge.cw_netsieve_k10_trees_holds : PySem.Challenge.rw_netsieve_k10_trees.Holds := by
  w_on; o_law; k_head; (case hw => w_witness2)
  k_fill
  refine M.walk_lawM (l := PySem.Challenge.rw_netsieve_k10_trees) (k := 135) (x := "_law_script") (φ := K10.f_law) rfl rfl ⟨rfl, by decide, by decide⟩ (fun w h Y => PySem.W.kIn_of Y) ?F (fun ns hl => K10.law_true ns hl)
  case F =>
    intro w mg fa h KX G hmg
    refine K10.finish hmg ?T
    refine' K10.mkT KX G ?n_len ?n_range ?n_str ?n_int ?n_isinstance ?n_bool ?n_tuple ?a_LONG_SIGNS ?l_LONG_SIGNS ?a_MOST_FIGURES ?a_ROUND ?a_NAMES ?l_NAMES ?a_SIGNS ?l_SIGNS ?a_MOST_WITHIN ?a_SUM_OPS ?l_SUM_OPS ?h_SUM_OPS ?a_PRODUCT_OPS ?l_PRODUCT_OPS ?h_PRODUCT_OPS ?a_LOAD_SIZES ?l_LOAD_SIZES ?h_LOAD_SIZES ?a_COMPARISONS ?l_COMPARISONS ?h_COMPARISONS ?a_Reader ?p1_Reader ?p2_Reader ?p3_Reader ?p4_Reader ?na_Reader_words ?na_Reader_place ?i_p_Reader__init__ ?l_p_Reader__init__ ?c_p_Reader__init__ ?k_p_Reader__init__ ?m1_p_Reader__init__ ?m2_p_Reader__init__ ?m3_p_Reader__init__ ?i_m_Reader_ahead ?l_m_Reader_ahead ?c_m_Reader_ahead ?k_m_Reader_ahead ?m2_m_Reader_ahead ?i_m_Reader_step_over ?l_m_Reader_step_over ?c_m_Reader_step_over ?k_m_Reader_step_over ?m2_m_Reader_step_over ?i_m_Reader_refuse ?l_m_Reader_refuse ?c_m_Reader_refuse ?k_m_Reader_refuse ?m2_m_Reader_refuse ?i_m_Reader_step_into ?l_m_Reader_step_into ?c_m_Reader_step_into ?k_m_Reader_step_into ?m2_m_Reader_step_into ?i_m_Reader_expect ?l_m_Reader_expect ?c_m_Reader_expect ?k_m_Reader_expect ?m2_m_Reader_expect ?i_m_Reader_expect_end ?l_m_Reader_expect_end ?c_m_Reader_expect_end ?k_m_Reader_expect_end ?m2_m_Reader_expect_end ?d_cell ?d_mix ?d_op ?d_number ?d_truth ?d_text ?d_sign ?d_told ?d_inner ?d_p_end_of_figures ?d_p_end_of_letters ?d_p_end_of_word ?d_p_is_whole ?d_p_is_number ?d_p_number_of ?d_p_word_of ?d_p_words_of ?d_p_read_sum ?d_p_read_product ?d_p_read_plain ?d_p_read_load ?d_p_read_bracket ?d_p_read_comparison ?d_p_read_filter ?d_p_read_tests ?d_p_read_test ?d_p_read_so ?d_p_read ?d_law
    (case n_len => k_is); (case n_range => k_is); (case n_str => k_is); (case n_int => k_is)
    (case n_isinstance => k_is); (case n_bool => k_is); (case n_tuple => k_is); (case a_LONG_SIGNS => k_is)
    (case l_LONG_SIGNS => k_is); (case a_MOST_FIGURES => k_is); (case a_ROUND => k_is); (case a_NAMES => k_is)
    (case l_NAMES => k_is); (case a_SIGNS => k_is); (case l_SIGNS => k_is); (case a_MOST_WITHIN => k_is)
    (case a_SUM_OPS => k_is); (case l_SUM_OPS => k_is); (case h_SUM_OPS => rfl); (case a_PRODUCT_OPS => k_is)
    (case l_PRODUCT_OPS => k_is); (case h_PRODUCT_OPS => rfl); (case a_LOAD_SIZES => k_is); (case l_LOAD_SIZES => k_is)
    (case h_LOAD_SIZES => rfl); (case a_COMPARISONS => k_is); (case l_COMPARISONS => k_is); (case h_COMPARISONS => rfl)
    (case a_Reader => k_is); (case p1_Reader => kernel_rfl); (case p2_Reader => k_is); (case p3_Reader => k_is)
    (case p4_Reader => k_is); (case na_Reader_words => k_is); (case na_Reader_place => k_is); (case i_p_Reader__init__ => k_is)
    (case l_p_Reader__init__ => k_is); (case c_p_Reader__init__ => k_is); (case k_p_Reader__init__ => k_is); (case m1_p_Reader__init__ => k_is)
    (case m2_p_Reader__init__ => k_is); (case m3_p_Reader__init__ => k_is); (case i_m_Reader_ahead => k_is); (case l_m_Reader_ahead => k_is)
    (case c_m_Reader_ahead => k_is); (case k_m_Reader_ahead => k_is); (case m2_m_Reader_ahead => k_is); (case i_m_Reader_step_over => k_is)
    (case l_m_Reader_step_over => k_is); (case c_m_Reader_step_over => k_is); (case k_m_Reader_step_over => k_is); (case m2_m_Reader_step_over => k_is)
    (case i_m_Reader_refuse => k_is); (case l_m_Reader_refuse => k_is); (case c_m_Reader_refuse => k_is); (case k_m_Reader_refuse => k_is)
    (case m2_m_Reader_refuse => k_is); (case i_m_Reader_step_into => k_is); (case l_m_Reader_step_into => k_is); (case c_m_Reader_step_into => k_is)
    (case k_m_Reader_step_into => k_is); (case m2_m_Reader_step_into => k_is); (case i_m_Reader_expect => k_is); (case l_m_Reader_expect => k_is)
    (case c_m_Reader_expect => k_is); (case k_m_Reader_expect => k_is); (case m2_m_Reader_expect => k_is); (case i_m_Reader_expect_end => k_is)
    (case l_m_Reader_expect_end => k_is); (case c_m_Reader_expect_end => k_is); (case k_m_Reader_expect_end => k_is); (case m2_m_Reader_expect_end => k_is)
    (case d_cell => walk_at "dm"); (case d_mix => walk_at "dm"); (case d_op => walk_at "dm"); (case d_number => walk_at "dm")
    (case d_truth => walk_at "dm"); (case d_text => walk_at "dm"); (case d_sign => walk_at "dm"); (case d_told => walk_at "dm")
    (case d_inner => walk_at "dm"); (case d_p_end_of_figures => walk_at "dm"); (case d_p_end_of_letters => walk_at "dm"); (case d_p_end_of_word => walk_at "dm")
    (case d_p_is_whole => walk_at "dm"); (case d_p_is_number => walk_at "dm"); (case d_p_number_of => walk_at "dm"); (case d_p_word_of => walk_at "dm")
    (case d_p_words_of => walk_at "dm"); (case d_p_read_sum => walk_at "dm"); (case d_p_read_product => walk_at "dm"); (case d_p_read_plain => walk_at "dm")
    (case d_p_read_load => walk_at "dm"); (case d_p_read_bracket => walk_at "dm"); (case d_p_read_comparison => walk_at "dm"); (case d_p_read_filter => walk_at "dm")
    (case d_p_read_tests => walk_at "dm"); (case d_p_read_test => walk_at "dm"); (case d_p_read_so => walk_at "dm"); (case d_p_read => walk_at "dm")
    (case d_law => walk_at "dm")
