import PyProof.Rows.All
import Wide.All
import OpenK.AllK
import Wide.FinOn
import Lean
import PyProof.EqAt
import PyProof.EqKinds
import PyProof.TupleCall
import PySem.Challenge.RW_netsieve_k40_lines
set_option Elab.async false
set_option linter.all false
set_option maxRecDepth 100000
namespace L2
open PySem PySem.Spec PyProof.Rows
noncomputable abbrev Key:=Sum Int Str
noncomputable def keyIs:Key → Value → Bool
  | .inl k,v => Value.isInt k v
  | .inr x,v => Value.isStrOf x v
noncomputable def keyH (w:World):Key → Int
  | .inl k => hashInt k
  | .inr x => hashStr w x
theorem keyIs_shape:∀ {k:Key} {v:Value},keyIs k v = true → (∃ i t,k = Sum.inl i ∧ v = Value.int i t) ∨ (∃ x t,k = Sum.inr x ∧ v = Value.str x t)
  | .inl i,v,h => by
    obtain ⟨t,e⟩:=Value.isInt_shape (k:=i) (v:=v) h
    exact .inl ⟨i,t,rfl,e⟩
  | .inr x,v,h => by
    obtain ⟨t,e⟩:=Value.isStrOf_shape (x:=x) (v:=v) h
    exact .inr ⟨x,t,rfl,e⟩
theorem keyIs_int (i:Int) (t:Tok):keyIs (.inl i) (.int i t) = true:=by simp [keyIs,Value.isInt]
theorem keyIs_str (x:Str) (t:Tok):keyIs (.inr x) (.str x t) = true:=by simp [keyIs,Value.isStrOf]
theorem key_ll (a b:Int):decide ((Sum.inl a:Key) = Sum.inl b) = (a == b):=by
  by_cases e:a = b
  · subst e; simp
  · have h:¬ (Sum.inl a:Key) = Sum.inl b:=fun q => e (Sum.inl.inj q)
    rw [decide_eq_false h]
    exact (beq_eq_false_iff_ne.mpr e).symm
theorem key_rr (a b:Str):decide ((Sum.inr a:Key) = Sum.inr b) = decide (a = b):=by
  by_cases e:a = b
  · subst e; simp
  · have h:¬ (Sum.inr a:Key) = Sum.inr b:=fun q => e (Sum.inr.inj q)
    rw [decide_eq_false h,decide_eq_false e]
theorem key_lr (a:Int) (b:Str):decide ((Sum.inl a:Key) = Sum.inr b) = false:=decide_eq_false (fun q => nomatch q)
theorem key_rl (a:Str) (b:Int):decide ((Sum.inr a:Key) = Sum.inl b) = false:=decide_eq_false (fun q => nomatch q)
noncomputable def mixKind (prog:Program) (w:World):PySem.KeyKind prog w Key where
  is:=keyIs
  hash:=keyH w
  inj:=fun v a b ha hb => by
    rcases keyIs_shape ha with ⟨i,t,rfl,rfl⟩ | ⟨x,t,rfl,rfl⟩
    · rcases keyIs_shape hb with ⟨j,u,rfl,e⟩ | ⟨y,u,rfl,e⟩
      · injection e with e1 _; rw [e1]
      · exact nomatch e
    · rcases keyIs_shape hb with ⟨j,u,rfl,e⟩ | ⟨y,u,rfl,e⟩
      · exact nomatch e
      · injection e with e1 _; rw [e1]
  byValue:=fun k v h => by
    rcases keyIs_shape h with ⟨i,t,rfl,rfl⟩ | ⟨x,t,rfl,rfl⟩ <;> rfl
  pyHash:=fun hv h => by
    rcases keyIs_shape hv with ⟨i,t,rfl,rfl⟩ | ⟨x,t,rfl,rfl⟩
    · exact wpAny_pyHash_int h
    · exact wpAny_pyHash_str h
  eqBool:=fun hu hv h => by
    rcases keyIs_shape hu with ⟨i,t,rfl,rfl⟩ | ⟨x,t,rfl,rfl⟩
    · rcases keyIs_shape hv with ⟨j,u,rfl,rfl⟩ | ⟨y,u,rfl,rfl⟩
      · rw [key_ll] at h; exact wpAny_eqBool_int h
      · rw [key_lr] at h; exact SeqAt.EqAt.int_str i t y u _ _ _ _ h
    · rcases keyIs_shape hv with ⟨j,u,rfl,rfl⟩ | ⟨y,u,rfl,rfl⟩
      · rw [key_rl] at h; exact SeqAt.EqAt.str_int x t j u _ _ _ _ h
      · rw [key_rr] at h; exact wpAny_eqBool_str h
  «strs»:=fun k x t v h => by
    rcases keyIs_shape h with ⟨i,u,rfl,e⟩ | ⟨y,u,rfl,e⟩
    · exact nomatch e
    · injection e with e1 _
      subst e1
      cases v <;> rfl
theorem mixKind_int (prog:Program) (w:World) (i:Int) (t:Tok):(mixKind prog w).is (.inl i) (.int i t) = true:=keyIs_int i t
theorem mixKind_str (prog:Program) (w:World) (x:Str) (t:Tok):(mixKind prog w).is (.inr x) (.str x t) = true:=keyIs_str x t
end L2
namespace L2
open PySem PySem.Spec PyProof.Rows
inductive V where
  | non | bl (b:Bool) | int (i:Int) | str (x:Str) | byt (b:Array UInt8) | flt (b:UInt64) | ref (a:Addr) | ty (n:String)
  deriving DecidableEq
noncomputable def RelV:V → Value → Prop
  | .non,u => u = Value.none
  | .bl b,u => u = Value.bool b
  | .int i,u => ∃ t,u = Value.int i t
  | .str x,u => ∃ t,u = Value.str x t
  | .byt b,u => ∃ t,u = Value.bytes b t
  | .flt b,u => ∃ t,u = Value.float b t
  | .ref a,u => u = Value.ref a
  | .ty n,u => u = Value.type n
noncomputable abbrev Vals:List V → List Value → Prop:=Paired RelV
theorem Vals.length {xs:List V} {us:List Value} (r:Vals xs us):xs.length = us.length:=Paired.length r
theorem Vals.get:∀ {xs:List V} {us:List Value} {i:Nat} {x:V},Vals xs us → xs[i]? = some x → ∃ u,us[i]? = some u ∧ RelV x u
  | _,_,_,_,.nil,e => by simp at e
  | _,_,0,_,.cons r _,e => by simp at e; subst e; exact ⟨_,rfl,r⟩
  | _,_,i + 1,x,.cons _ t,e => by
    obtain ⟨u,h1,h2⟩:=Vals.get (i:=i) (x:=x) t (by simpa using e)
    exact ⟨u,by simpa using h1,h2⟩
theorem Vals.set {x:V} {u:Value} (r:RelV x u):∀ {xs:List V} {us:List Value} (i:Nat),Vals xs us → Vals (xs.set i x) (us.set i u)
  | _,_,_,.nil => .nil
  | _,_,0,.cons _ t => .cons r t
  | _,_,i + 1,.cons q t => .cons q (Vals.set r i t)
theorem Vals.append:∀ {xs ys:List V} {us ws:List Value},Vals xs us → Vals ys ws → Vals (xs ++ ys) (us ++ ws)
  | _,_,_,_,.nil,s => s
  | _,_,_,_,.cons r t,s => .cons r (Vals.append t s)
theorem Vals.take:∀ {xs:List V} {us:List Value} (n:Nat),Vals xs us → Vals (xs.take n) (us.take n)
  | _,_,0,_ => .nil
  | _,_,_ + 1,.nil => .nil
  | _,_,n + 1,.cons r t => .cons r (Vals.take n t)
theorem Vals.drop:∀ {xs:List V} {us:List Value} (n:Nat),Vals xs us → Vals (xs.drop n) (us.drop n)
  | _,_,0,r => r
  | _,_,_ + 1,.nil => .nil
  | _,_,n + 1,.cons _ t => Vals.drop n t
noncomputable def RelO:Option V → Option Value → Prop
  | some v,some u => RelV v u
  | none,none => True
  | _,_ => False
noncomputable def KV {κ:Type}:List (κ × V) → List (κ × Value) → Prop:=Paired fun (p:κ × V) (q:κ × Value) => p.1 = q.1 ∧ RelV p.2 q.2
noncomputable def kV:Key → V
  | .inl i => .int i
  | .inr x => .str x
inductive HO where
  | lst (xs:List V)
  | tup (xs:List V)
  | dK (kvs:List (Key × V)) | dT (kvs:List (List Key × V))
  | set (S:Int → Bool) (n:Nat)
  | ins (C dx:Addr) (fs:List (Str × V))
  | own (x:Addr)
  | xd (fs:List (Str × V))
  | met (f x:Addr)
  | rng (lo hi:Int)
  | frz (o:Obj) (u:HO)
  | tbl (ps:Array Value)
  | ext (φ:Heap → Prop)
noncomputable abbrev Hp:=Addr → Option HO
noncomputable def upd (H:Hp) (a:Addr) (o:HO):Hp:=fun b => if b = a then some o else H b
theorem upd_same {H:Hp} {a:Addr} {o:HO}:upd H a o a = some o:=by unfold upd; rw [if_pos rfl]
theorem upd_ne {H:Hp} {a b:Addr} {o:HO} (h:b ≠ a):upd H a o b = H b:=by unfold upd; rw [if_neg h]
theorem upd_upd {H:Hp} {a:Addr} {o u:HO}:upd (upd H a o) a u = upd H a u:=by
  funext b; unfold upd; split <;> rfl
theorem ne_of_none {H:Hp} {a b:Addr} {o:HO} (h:H a = some o) (h':H b = none):a ≠ b:=by
  intro e; subst e; rw [h] at h'; cases h'
section
variable (P:Program) (w:World)
noncomputable def ObjOk (H:Hp) (h:Heap) (a:Addr):HO → Prop
  | .lst xs => xs.length ≤ sizeLine ∧ ∃ (its:List Value) (n:Nat),Vals xs its ∧ h.get? a = some { cls:=.type "list",data:=.seq its.toArray n }
  | .tup xs => xs.length ≤ sizeLine ∧ ∃ its:List Value,Vals xs its ∧ IsTup h a its.toArray
  | .dK kvs => kvs.length ≤ sizeLine ∧ (a == sysModules) = false ∧ ∃ vs,KV kvs vs ∧ h.DictOf (mixKind P w) a vs
  | .dT kvs => kvs.length ≤ sizeLine ∧ (a == sysModules) = false ∧ ∃ xs:List (List Key × Addr × Value),
      Paired (fun (p:List Key × V) (q:List Key × Addr × Value) => p.1 = q.1 ∧ H q.2.1 = some (.tup (p.1.map kV)) ∧ RelV p.2 q.2.2) kvs xs ∧
      ∃ o es ep,h.get? a = some o ∧ o.ExactDict ∧ o.data = .dict es ep ∧ es.toList = xs.map (entryOfKey (tupleKind (mixKind P w))) ∧ (xs.map (·.1)).Nodup
  | .set S n => h.SetOf (intKind P w) a S n
  | .ins C dx fs => H dx = some (.own a) ∧ fs.length ≤ 1000 ∧ dx ≠ a ∧ h.get? a = some (PySem.W.instObj C dx) ∧
      ∃ mA,h.Ns1 dx mA ∧ (∀ f,RelO (fs.lookup f) (mA f)) ∧ PySem.Within mA (fs.map (·.1))
  | .own _ => ∃ o,h.get? a = some o
  | .xd fs => ∃ mA,h.Ns1 a mA ∧ ∀ f,RelO (fs.lookup f) (mA f)
  | .rng lo hi => ∃ t u v,h.get? a = some { cls:=.type "range",data:=.fields #[.int lo t,.int hi u,.int 1 v] }
  | .frz o u => h.get? a = some o ∧ ObjOk H h a u
  | .tbl ps => h.get? a = some { cls:=.none,data:=.fields ps }
  | .met f x => h.get? a = some (PySem.W.methodObj (.ref f) (.ref x))
  | .ext φ => φ h ∧ (∃ o,h.get? a = some o) ∧ ∀ h1 h2:Heap,φ h1 → (∀ o,h1.get? a = some o → h2.get? a = some o) → φ h2
noncomputable def HOk (H:Hp) (h:Heap):Prop:=∀ a o,H a = some o → ObjOk P w H h a o
end
section
variable {P:Program} {w:World} {H H':Hp} {h h':Heap} {a:Addr} {o:HO}
theorem ObjOk.lt (x:ObjOk P w H h a o):a < h.objs.size:=by
  cases o with
  | lst xs => obtain ⟨_,_,_,_,e⟩:=x; exact Heap.lt_size e
  | tup xs => obtain ⟨_,_,_,p⟩:=x; exact p.lt
  | dK kvs => obtain ⟨_,_,_,_,o,_,_,e,_⟩:=x; exact Heap.lt_size e
  | dT kvs => obtain ⟨_,_,_,_,o,_,_,e,_⟩:=x; exact Heap.lt_size e
  | set S n => obtain ⟨o,_,_,_,e,_⟩:=x; exact Heap.lt_size e
  | ins C dx fs => obtain ⟨_,_,_,e,_⟩:=x; exact Heap.lt_size e
  | own y => obtain ⟨_,e⟩:=x; exact Heap.lt_size e
  | xd fs => obtain ⟨_,⟨_,_,_,e,_⟩,_⟩:=x; exact Heap.lt_size e
  | rng lo hi => obtain ⟨_,_,_,e⟩:=x; exact Heap.lt_size e
  | frz ob u => obtain ⟨e,_⟩:=x; exact Heap.lt_size e
  | tbl ps => exact Heap.lt_size (show h.get? a = some _ from x)
  | met f y => exact Heap.lt_size (show h.get? a = some _ from x)
  | ext φ => obtain ⟨_,⟨_,e⟩,_⟩:=x; exact Heap.lt_size e
theorem Paired.mapP {α β:Type} {F G:α → β → Prop}:∀ {l₁:List α} {l₂:List β},Paired F l₁ l₂ → (∀ a b,F a b → G a b) → Paired G l₁ l₂
  | _,_,.nil,_ => .nil
  | _,_,.cons r t,f => .cons (f _ _ r) (Paired.mapP t f)
theorem ObjOk.stay (x:ObjOk P w H h a o) (k:∀ b u,(b = a ∨ H b = some (.own a)) → h.get? b = some u → h'.get? b = some u)
    (ho:∀ b,H b = some (.own a) → H' b = some (.own a)) (ht:∀ b xs,H b = some (.tup xs) → H' b = some (.tup xs)):ObjOk P w H' h' a o:=by
  induction o with
  | lst xs => obtain ⟨z,its,n,r,e⟩:=x; exact ⟨z,its,n,r,k _ _ (.inl rfl) e⟩
  | tup xs => obtain ⟨z,its,r,ob,e,c⟩:=x; exact ⟨z,its,r,ob,k _ _ (.inl rfl) e,c⟩
  | dK kvs => obtain ⟨z,y,vs,r,ob,es,ep,e,c⟩:=x; exact ⟨z,y,vs,r,ob,es,ep,k _ _ (.inl rfl) e,c⟩
  | dT kvs =>
    obtain ⟨z,y,xs,r,ob,es,ep,e,c⟩:=x
    exact ⟨z,y,xs,Paired.mapP r fun p q z => ⟨z.1,ht _ _ z.2.1,z.2.2⟩,ob,es,ep,k _ _ (.inl rfl) e,c⟩
  | set S n => obtain ⟨ob,es,ep,t,e,c⟩:=x; exact ⟨ob,es,ep,t,k _ _ (.inl rfl) e,c⟩
  | ins C dx fs =>
    obtain ⟨d,z,ne,e,mA,⟨od,es,ep,e2,c⟩,r⟩:=x
    exact ⟨ho _ d,z,ne,k _ _ (.inl rfl) e,mA,⟨od,es,ep,k _ _ (.inr d) e2,c⟩,r⟩
  | own y => obtain ⟨ob,e⟩:=x; exact ⟨ob,k _ _ (.inl rfl) e⟩
  | xd fs => obtain ⟨mA,⟨od,es,ep,e,c⟩,r⟩:=x; exact ⟨mA,⟨od,es,ep,k _ _ (.inl rfl) e,c⟩,r⟩
  | rng lo hi => obtain ⟨t,u,v,e⟩:=x; exact ⟨t,u,v,k _ _ (.inl rfl) e⟩
  | frz ob u ih => obtain ⟨e,q⟩:=x; exact ⟨k _ _ (.inl rfl) e,ih q⟩
  | tbl ps =>
    have e:h.get? a = some { cls:=.none,data:=.fields ps }:=x
    show h'.get? a = some { cls:=.none,data:=.fields ps }
    exact k a _ (.inl rfl) e
  | met f y =>
    have e:h.get? a = some (PySem.W.methodObj (.ref f) (.ref y)):=x
    show h'.get? a = some (PySem.W.methodObj (.ref f) (.ref y))
    exact k a _ (.inl rfl) e
  | ext φ => obtain ⟨p,⟨o,e⟩,st⟩:=x; exact ⟨st _ _ p fun o q => k _ _ (.inl rfl) q,⟨o,k _ _ (.inl rfl) e⟩,st⟩
theorem HOk.lt (x:HOk P w H h) (e:H a = some o):a < h.objs.size:=(x a o e).lt
theorem HOk.fresh (x:HOk P w H h) (e:h.objs.size ≤ a):H a = none:=by
  cases q:H a with
  | none => rfl
  | some u => exact absurd (Nat.lt_of_lt_of_le (x.lt q) e) (Nat.lt_irrefl _)
theorem HOk.kept (x:HOk P w H h) (k:∀ b u,h.get? b = some u → h'.get? b = some u):HOk P w H h':=fun a o e =>
  (x a o e).stay (fun b u _ q => k b u q) (fun _ q => q) fun _ _ q => q
theorem HOk.laid (x:HOk P w H h) (k:∀ b u,h.get? b = some u → h'.get? b = some u) (hp:h.objs.size ≤ a) (new:ObjOk P w (upd H a o) h' a o):HOk P w (upd H a o) h':=fun b u e => by
  have hn:=x.fresh hp
  by_cases hb:b = a
  · subst hb; rw [upd_same] at e; cases e; exact new
  · rw [upd_ne hb] at e
    exact (x b u e).stay (fun c v _ q => k c v q) (fun c q => by rw [upd_ne (ne_of_none q hn)]; exact q) fun c xs q => by rw [upd_ne (ne_of_none q hn)]; exact q
end
noncomputable def Rd (H:Hp) (a:Addr) (u:HO):Prop:=H a = some u ∨ ∃ o,H a = some (.frz o u)
theorem Rd.ok {P:Program} {w:World} {H:Hp} {h:Heap} {a:Addr} {u:HO} (r:Rd H a u) (x:HOk P w H h):ObjOk P w H h a u:=by
  rcases r with r | ⟨o,r⟩
  · exact x a u r
  · obtain ⟨_,q⟩:=x a _ r
    exact q
noncomputable def Mut:Option HO → Prop
  | some (.lst _) => True
  | some (.dK _) => True
  | some (.dT _) => True
  | some (.set _ _) => True
  | some (.ins _ _ _) => True
  | some (.ext _) => True
  | _ => False
section
variable {P:Program} {w:World} {H:Hp} {h h':Heap} {x e:Addr} {o':HO}
theorem HOk.write (ok:HOk P w H h) (mu:Mut (H x)) (he:e = x ∨ H e = some (.own x)) (k:∀ b u,b ≠ e → h.get? b = some u → h'.get? b = some u) (heo:∃ u,h'.get? e = some u)
    (new:ObjOk P w (upd H x o') h' x o'):HOk P w (upd H x o') h':=fun b u q => by
  have nown:∀ c y,H c = some (.own y) → c ≠ x:=fun c y r z => by subst z; rw [r] at mu; exact mu
  have ntup:∀ c xs,H c = some (.tup xs) → c ≠ x:=fun c xs r z => by subst z; rw [r] at mu; exact mu
  by_cases hb:b = x
  · subst hb; rw [upd_same] at q; cases q; exact new
  · rw [upd_ne hb] at q
    by_cases hbe:b = e
    · have q':H b = some (.own x):=by
        rcases he with z | z
        · exact absurd (hbe.trans z) hb
        · rw [hbe]; exact z
      rw [q] at q'; cases q'
      obtain ⟨v,hv⟩:=heo
      exact ⟨v,by rw [hbe]; exact hv⟩
    · refine (ok b u q).stay (fun c v hc r => k c v ?_ r) (fun c r => by rw [upd_ne (nown c b r)]; exact r) fun c xs r => by rw [upd_ne (ntup c xs r)]; exact r
      rcases hc with rfl | hc
      · exact hbe
      · rintro rfl
        rcases he with z | z
        · exact nown c b hc z
        · rw [hc] at z; cases z; exact hb rfl
end
structure Un (fs ex:List Addr) (H H':Hp) (h h':Heap):Prop where
  keep:∀ b o,h.get? b = some o → H b = none → b ∉ fs → b ∉ ex → h'.get? b = some o
  slot:∀ b o,h.get? b = some o → H b = none → b ∈ fs → b ∉ ex → ∃ sl,h'.get? b = some { o with slots:=sl }
  free:∀ b o,h.get? b = some o → H b = none → b ∉ ex → H' b = none
  there:∀ b o,h.get? b = some o → b ∉ ex → ∃ o',h'.get? b = some o'
  tups:∀ b xs,H b = some (.tup xs) → H' b = some (.tup xs)
  frzs:∀ b o u,H b = some (.frz o u) → H' b = some (.frz o u)
  tbls:∀ b ps,H b = some (.tbl ps) → ∃ more,H' b = some (.tbl (ps ++ more))
section
variable {fs fs' ex ex':List Addr} {H H1 H2:Hp} {h h1 h2 h':Heap} {a x e:Addr} {o:HO}
theorem Un.any (u:Un fs ex H H1 h h1) {b:Addr} {ob:Obj} (q:h.get? b = some ob) (n:H b = none) (hx:b ∉ ex):∃ sl,h1.get? b = some { ob with slots:=sl }:=by
  by_cases hb:b ∈ fs
  · exact u.slot b ob q n hb hx
  · exact ⟨ob.slots,u.keep b ob q n hb hx⟩
theorem Un.trans (a:Un fs ex H H1 h h1) (b:Un fs ex H1 H2 h1 h2):Un fs ex H H2 h h2 where
  keep:=fun c ob q n hc hx => b.keep c ob (a.keep c ob q n hc hx) (a.free c ob q n hx) hc hx
  slot:=fun c ob q n hc hx => by
    obtain ⟨sl,e1⟩:=a.slot c ob q n hc hx
    obtain ⟨sl',e2⟩:=b.slot c _ e1 (a.free c ob q n hx) hc hx
    exact ⟨sl',e2⟩
  free:=fun c ob q n hx => by
    obtain ⟨o',e1⟩:=a.there c ob q hx
    exact b.free c o' e1 (a.free c ob q n hx) hx
  there:=fun c ob q hx => by
    obtain ⟨o',e1⟩:=a.there c ob q hx
    exact b.there c o' e1 hx
  tups:=fun c xs q => b.tups c xs (a.tups c xs q)
  frzs:=fun c ob xs q => b.frzs c ob xs (a.frzs c ob xs q)
  tbls:=fun c ps q => by
    obtain ⟨m1,e1⟩:=a.tbls c ps q
    obtain ⟨m2,e2⟩:=b.tbls c _ e1
    exact ⟨m1 ++ m2,by rw [e2,Array.append_assoc]⟩
theorem Un.kept (k:∀ b u,h.get? b = some u → h'.get? b = some u):Un fs ex H H h h' :=
  ⟨fun b ob q _ _ _ => k b ob q,fun b ob q _ _ _ => ⟨ob.slots,k b ob q⟩,fun _ _ _ n _ => n,fun b ob q _ => ⟨ob,k b ob q⟩,fun _ _ q => q,fun _ _ _ q => q,fun _ ps q => ⟨#[],by rw [q]; simp⟩⟩
theorem Un.refl:Un fs ex H H h h:=Un.kept fun _ _ q => q
theorem Un.laid (k:∀ b u,h.get? b = some u → h'.get? b = some u) (hp:h.objs.size ≤ a) (hn:H a = none):Un fs ex H (upd H a o) h h' where
  keep:=fun b u q _ _ _ => k b u q
  slot:=fun b u q _ _ _ => ⟨u.slots,k b u q⟩
  free:=fun b u q n _ => by rw [upd_ne (Nat.ne_of_lt (Nat.lt_of_lt_of_le (Heap.lt_size q) hp))]; exact n
  there:=fun b u q _ => ⟨u,k b u q⟩
  tups:=fun b xs q => by rw [upd_ne (ne_of_none q hn)]; exact q
  frzs:=fun b u xs q => by rw [upd_ne (ne_of_none q hn)]; exact q
  tbls:=fun b ps q => ⟨#[],by rw [upd_ne (ne_of_none q hn),q]; simp⟩
theorem Un.write (mu:Mut (H x)) (he:e = x ∨ H e = some (.own x)) (k:∀ b u,b ≠ e → h.get? b = some u → h'.get? b = some u) (heo:∃ u,h'.get? e = some u):Un fs ex H (upd H x o) h h':=by
  have hx:∀ b,H b = none → b ≠ x:=fun b n z => by subst z; rw [n] at mu; exact mu
  have hb:∀ b,H b = none → b ≠ e:=fun b n z => by
    subst z
    rcases he with r | r
    · exact hx b n r
    · rw [n] at r; cases r
  have hm:∀ b u,H b = some u → ¬ Mut (some u) → b ≠ x:=fun b u q nm z => by subst z; rw [q] at mu; exact nm mu
  refine ⟨fun b u q n _ _ => k b u (hb b n) q,fun b u q n _ _ => ⟨u.slots,k b u (hb b n) q⟩,fun b u q n _ => by rw [upd_ne (hx b n)]; exact n,fun b u q _ => ?_,
    fun b xs q => by rw [upd_ne (hm b _ q fun z => z)]; exact q,fun b u xs q => by rw [upd_ne (hm b _ q fun z => z)]; exact q,fun b ps q => ⟨#[],by rw [upd_ne (hm b _ q fun z => z),q]; simp⟩⟩
  by_cases hbe:b = e
  · subst hbe; exact heo
  · exact ⟨u,k b u hbe q⟩
end
noncomputable def trk (h:Heap) (H:Hp):List Addr:=(List.range h.objs.size).filter fun a => (H a).isSome
noncomputable def hidT (h:Heap) (H:Hp):Heap:=PySem.W.hideAll h (trk h H)
theorem hidT_size (h:Heap) (H:Hp):(hidT h H).objs.size = h.objs.size:=PySem.W.hideAll_size _ _
theorem hidT_get {h:Heap} {H:Hp} {b:Addr} {o:Obj} (e:h.get? b = some o) (n:H b = none):(hidT h H).get? b = some o :=
  PySem.W.hideAll_get _ e fun hm => by
    have q:(H b).isSome = true:=(List.mem_filter.mp hm).2
    rw [n] at q; simp at q
theorem of_hidT {h:Heap} {H:Hp} {b:Addr} {o:Obj} (e:(hidT h H).get? b = some o):h.get? b = some o ∧ H b = none:=by
  have e':h.get? b = some o:=PySem.W.of_hideAll (trk h H) e
  refine ⟨e',?_⟩
  cases q:H b with
  | none => rfl
  | some x =>
    have hm:b ∈ trk h H:=List.mem_filter.mpr ⟨List.mem_range.mpr (Heap.lt_size e'),by simp [q]⟩
    have z:(hidT h H).get? b = none:=PySem.W.hideAll_none (trk h H) hm
    rw [z] at e; cases e
noncomputable def allNews (g h:Heap) (L:Addr):List (Addr × Obj):=(List.range h.objs.size).filterMap fun a => if a = L ∨ (g.get? a).isSome = true then none else (h.get? a).map fun o => (a,o)
noncomputable def rest (g h:Heap) (L d:Addr):List (Addr × Obj):=(allNews g h L).filter fun p => decide (p.1 ≠ d)
end L2
namespace L2
open PySem PySem.Spec PyProof.Rows
structure Mod (K:PySem.W.Frag) (mg:Str → Option Value) (base:Heap):Prop where
  kin:K.In base
  glob:base.Ns mainGlobals mg
  blt:∃ mb,base.Ns builtinsNs mb ∧ ∀ x:Str,x ≠ "__name__" → mb x = bootBuiltins x
  nolimit:base.NoLimit
structure Cx where
  prog:Program
  w:World
  K:PySem.W.Frag
  mg:Str → Option Value
  base:Heap
  A:Around
  N:List Str
  s₀:Shared
  H₀:Hp
  env:Env
  outer:List Env
  stack:List Env
  ex:List Addr
  fn:Str → Bool
  calm:Bool
  pn:List (Addr × Obj)
  xe:Value → Shared → Prop
  kn:Option (Str → Option Value):=none
noncomputable def Cx.nd (X:Cx):Prop:=X.N.Nodup ∧ X.kn = none
noncomputable def frs (l:List Env):List Addr:=l.filterMap (·.frame)
noncomputable abbrev Cx.fs (X:Cx):List Addr:=frs X.outer
noncomputable def Vis (sc:Scope) (x:Str):Prop:=sc.names.lookup x = some .local ∨ sc.names.lookup x = some .cell ∨ sc.names.lookup x = some .free
noncomputable def Loc (sc:Scope) (x:Str):Prop:=sc.names.lookup x = some .local ∨ sc.names.lookup x = some .cell
noncomputable def Look (env:Env) (h:Heap) (m:Str → Option Value) (x:Str) (u:Value):Prop :=
  (env.kindOf x = some .local ∧ m x = some u) ∨ ((env.kindOf x = some .cell ∨ env.kindOf x = some .free) ∧ ∃ c,env.cells.lookup x = some c ∧ h.IsCell c (some u))
structure Cx.Ok (X:Cx):Prop where
  mod:Mod X.K X.mg X.base
  kind:X.env.scope.kind = .function
  glob:X.env.globals = mainGlobals
  blt:X.env.builtins = builtinsNs
  above:X.s₀.heap.objs.size ≤ X.env.locals
  inj:∀ x y c,X.env.cells.lookup x = some c → X.env.cells.lookup y = some c → x = y
  has:∀ x,(X.env.kindOf x = some .cell ∨ X.env.kindOf x = some .free) → ∃ c,X.env.cells.lookup x = some c
  cab:∀ x c,X.fn x = true → X.env.cells.lookup x = some c → X.s₀.heap.objs.size ≤ c
  hd:X.calm = true → X.A.handled = none
  frames:X.A.frames = some X.stack
  stk:X.stack = X.outer ∨ (X.stack = X.env :: X.outer ∧ X.env.frame = some X.env.locals)
  exf:∀ b ∈ X.ex,b ≠ X.env.locals ∧ ∀ x c,X.env.cells.lookup x = some c → c ≠ b
  bs:∀ b o,X.base.get? b = some o → X.s₀.heap.get? b = some o ∧ X.H₀ b = none
  bsz:X.base.objs.size ≤ X.s₀.heap.objs.size
  noex:∀ b o,X.base.get? b = some o → b ∉ X.ex
  exfs:∀ b ∈ X.ex,b ∉ X.fs
  funs:X.s₀.heap.FunFrames X.base X.outer
  frf:∀ b ∈ X.fs,X.H₀ b = none
structure Inv (X:Cx) (pins:List (Addr × Obj)) (σ:List (Option V)) (H:Hp) (s:Shared):Prop where
  ok:X.Ok
  os:s.os = X.s₀.os
  bare:AllBare s.gens
  base:Un X.fs X.ex X.H₀ H X.s₀.heap s.heap
  loc:∃ m,s.heap.Ns X.env.locals m ∧ ∀ (i:Nat) (x:Str) (v:V),X.N[i]? = some x → σ[i]? = some (some v) → Vis X.env.scope x → ∃ u,RelV v u ∧ Look X.env s.heap m x u
  cell:∀ x c,X.env.cells.lookup x = some c → ∃ v,s.heap.IsCell c v
  free:H X.env.locals = none
  freeC:∀ x c,X.env.cells.lookup x = some c → H c = none
  pin:∀ p ∈ X.pn ++ pins,s.heap.get? p.1 = some p.2 ∧ H p.1 = none ∧ p.1 ≠ X.env.locals ∧ p.1 ∉ X.fs ∧ ∀ v,p.2.data ≠ .cell v
  hok:HOk X.prog X.w H s.heap
  len:σ.length = X.N.length
  fx:∀ f,X.kn = some f → s.heap.Ns X.env.locals f
section
variable {X:Cx} {pins:List (Addr × Obj)} {σ:List (Option V)} {H H':Hp} {s:Shared} {h':Heap}
theorem Cx.Ok.nofr (ok:X.Ok) {b:Addr} {o:Obj} (e:X.base.get? b = some o):b ∉ X.fs:=fun hb => by
  have:=(ok.funs.mem hb).1
  rw [e] at this; cases this
theorem Inv.bs (I:Inv X pins σ H s):∀ b o,X.base.get? b = some o → s.heap.get? b = some o ∧ H b = none:=fun b o e =>
  ⟨I.base.keep b o (I.ok.bs b o e).1 (I.ok.bs b o e).2 (I.ok.nofr e) (I.ok.noex b o e),I.base.free b o (I.ok.bs b o e).1 (I.ok.bs b o e).2 (I.ok.noex b o e)⟩
theorem Inv.bk (I:Inv X pins σ H s):∀ b o,X.base.get? b = some o → s.heap.get? b = some o:=fun b o e => (I.bs b o e).1
theorem Inv.mod (I:Inv X pins σ H s):Mod X.K X.mg X.base:=I.ok.mod
theorem Inv.kIn (I:Inv X pins σ H s):X.K.In s.heap:=I.ok.mod.kin.keeps I.bk
theorem Inv.fr (I:Inv X pins σ H s):∃ m,Fr X.base X.env.locals s.heap m :=
  let ⟨m,hn,_⟩:=I.loc
  ⟨m,hn,I.bk,Nat.le_trans I.ok.bsz I.ok.above⟩
theorem Inv.lt (I:Inv X pins σ H s):X.env.locals < s.heap.objs.size:=let ⟨_,hn,_⟩:=I.loc; hn.lt
theorem Inv.sz (I:Inv X pins σ H s):X.s₀.heap.objs.size ≤ s.heap.objs.size:=Nat.le_trans I.ok.above (Nat.le_of_lt I.lt)
theorem Inv.nofs (I:Inv X pins σ H s) {a:Addr} (h:s.heap.objs.size ≤ a):a ∉ X.fs:=fun hb => by
  obtain ⟨_,o,ho,_⟩:=I.ok.funs.mem hb
  exact absurd (Nat.lt_of_lt_of_le (Heap.lt_size ho) (Nat.le_trans I.sz h)) (Nat.lt_irrefl _)
theorem Inv.cne (I:Inv X pins σ H s):∀ x c,X.env.cells.lookup x = some c → c ≠ X.env.locals:=fun x c e z => by
  obtain ⟨v,o,ho,hd⟩:=I.cell x c e
  obtain ⟨m,⟨o',es,ep,ho',hd',_⟩,_⟩:=I.loc
  rw [z,ho'] at ho; cases ho; rw [hd'] at hd; cases hd
theorem Inv.funs (I:Inv X pins σ H s):s.heap.FunFrames X.base X.outer:=by
  have all:∀ (l:List Env),(∀ b ∈ frs l,b ∈ X.fs) → X.s₀.heap.FunFrames X.base l → s.heap.FunFrames X.base l:=by
    intro l
    induction l with
    | nil => intro _ _; trivial
    | cons env r ih =>
      intro hs hl
      obtain ⟨hk,⟨L,o,hf,hn,ho,hd⟩,hr⟩:=hl
      have hL:L ∈ X.fs:=hs L (by unfold frs; rw [List.filterMap_cons,hf]; exact List.mem_cons_self)
      obtain ⟨sl,e⟩:=I.base.slot L o ho (I.ok.frf L hL) hL fun z => I.ok.exfs L z hL
      exact ⟨hk,⟨L,_,hf,hn,e,hd⟩,ih (fun b hb => hs b (by unfold frs; rw [List.filterMap_cons,hf]; exact List.mem_cons_of_mem _ hb)) hr⟩
  exact all X.outer (fun _ hb => hb) I.ok.funs
theorem Inv.stack (I:Inv X pins σ H s):s.heap.FunFrames X.base X.stack:=by
  rcases I.ok.stk with e | ⟨e,hf⟩
  · rw [e]; exact I.funs
  · rw [e]
    obtain ⟨m,hn,_⟩:=I.loc
    refine .cons (by rw [I.ok.kind]; decide) hf hn ?_ I.funs
    exact Heap.get?_none_of_le (Nat.le_trans I.ok.bsz I.ok.above)
theorem Inv.stkSub (I:Inv X pins σ H s):∀ b ∈ frs X.stack,b ∈ X.env.locals :: X.fs:=fun b hb => by
  rcases I.ok.stk with e | ⟨e,hf⟩
  · rw [e] at hb; exact List.mem_cons_of_mem _ hb
  · rw [e] at hb
    unfold frs at hb
    rw [List.filterMap_cons,hf] at hb
    exact hb
theorem Inv.stkFree (I:Inv X pins σ H s):∀ b ∈ frs X.stack,H b = none:=fun b hb => by
  rcases List.mem_cons.mp (I.stkSub b hb) with e | hb
  · rw [e]; exact I.free
  · obtain ⟨_,o,ho,_⟩:=I.ok.funs.mem hb
    exact I.base.free b o ho (I.ok.frf b hb) fun z => I.ok.exfs b z hb
theorem Inv.step {g':Array GenState} {t':Nat} {d':Drawn} {ch:List Addr} (I:Inv X pins σ H s)
    (hch:∀ b ∈ ch,(b ∈ X.ex ∨ X.s₀.heap.objs.size ≤ b) ∧ b ≠ X.env.locals ∧ (∀ x c,X.env.cells.lookup x = some c → c ≠ b) ∧ ∀ p ∈ X.pn ++ pins,p.1 ≠ b)
    (keep:∀ b o,b ≠ X.env.locals → b ∉ X.fs → b ∉ ch → s.heap.get? b = some o → H b = none → h'.get? b = some o)
    (slot:∀ b o,b ≠ X.env.locals → b ∈ X.fs → b ∉ ch → s.heap.get? b = some o → H b = none → ∃ sl,h'.get? b = some { o with slots:=sl }) (free:∀ b o,b ∉ ch → s.heap.get? b = some o → H b = none → H' b = none)
    (there:∀ b o,b ∉ ch → s.heap.get? b = some o → ∃ o',h'.get? b = some o')
    (tups:∀ b xs,H b = some (.tup xs) → H' b = some (.tup xs)) (frzs:∀ b o u,H b = some (.frz o u) → H' b = some (.frz o u)) (tbls:∀ b ps,H b = some (.tbl ps) → ∃ more,H' b = some (.tbl (ps ++ more)))
    (ns:∀ m,s.heap.Ns X.env.locals m → h'.Ns X.env.locals m) (hok:HOk X.prog X.w H' h') (hg:AllBare g') :
    Inv X pins σ H' { s with heap:=h',gens:=g',drawn:=d',toks:=t' }:=by
  have neL:∀ b o,X.s₀.heap.get? b = some o → b ≠ X.env.locals:=fun b o e => Nat.ne_of_lt (Nat.lt_of_lt_of_le (Heap.lt_size e) I.ok.above)
  have neC:∀ b o,X.s₀.heap.get? b = some o → b ∉ X.ex → b ∉ ch:=fun b o e hx hb => by
    rcases (hch b hb).1 with z | z
    · exact hx z
    · exact absurd (Nat.lt_of_lt_of_le (Heap.lt_size e) z) (Nat.lt_irrefl _)
  have cellK:∀ x c,X.env.cells.lookup x = some c → ∀ v,s.heap.IsCell c v → h'.IsCell c v:=fun x c e v ⟨o,ho,hd⟩ => by
    have nch:c ∉ ch:=fun z => (hch c z).2.2.1 x c e rfl
    by_cases hc:c ∈ X.fs
    · obtain ⟨sl,q⟩:=slot c o (I.cne x c e) hc nch ho (I.freeC x c e)
      exact ⟨_,q,hd⟩
    · exact ⟨o,keep c o (I.cne x c e) hc nch ho (I.freeC x c e),hd⟩
  refine ⟨I.ok,I.os,hg,⟨fun b o e n hb hx => ?_,fun b o e n hb hx => ?_,fun b o e n hx => ?_,fun b o e hx => ?_,fun b xs e => tups b xs (I.base.tups b xs e),fun b o xs e => frzs b o xs (I.base.frzs b o xs e),fun b ps e => ?_⟩,?_,fun x c e => ?_,?_,fun x c e => ?_,fun p hp => ?_,hok,I.len,fun f e => ns f (I.fx f e)⟩
  · exact keep b o (neL b o e) hb (neC b o e hx) (I.base.keep b o e n hb hx) (I.base.free b o e n hx)
  · obtain ⟨sl,e1⟩:=I.base.slot b o e n hb hx
    obtain ⟨sl',e2⟩:=slot b _ (neL b o e) hb (neC b o e hx) e1 (I.base.free b o e n hx)
    exact ⟨sl',e2⟩
  · obtain ⟨o',e1⟩:=I.base.there b o e hx
    exact free b o' (neC b o e hx) e1 (I.base.free b o e n hx)
  · obtain ⟨o',e1⟩:=I.base.there b o e hx
    exact there b o' (neC b o e hx) e1
  · obtain ⟨m1,e1⟩:=I.base.tbls b ps e
    obtain ⟨m2,e2⟩:=tbls b _ e1
    exact ⟨m1 ++ m2,by rw [e2,Array.append_assoc]⟩
  · obtain ⟨m,hn,hl⟩:=I.loc
    refine ⟨m,ns m hn,fun i x v e1 e2 e3 => ?_⟩
    obtain ⟨u,r,l⟩:=hl i x v e1 e2 e3
    refine ⟨u,r,?_⟩
    rcases l with l | ⟨k,c,e,z⟩
    · exact .inl l
    · exact .inr ⟨k,c,e,cellK x c e _ z⟩
  · obtain ⟨v,z⟩:=I.cell x c e
    exact ⟨v,cellK x c e v z⟩
  · obtain ⟨m,⟨o,_,_,ho,_⟩,_⟩:=I.loc
    exact free _ o (fun z => (hch _ z).2.1 rfl) ho I.free
  · obtain ⟨v,o,ho,hd⟩:=I.cell x c e
    exact free c o (fun z => (hch c z).2.2.1 x c e rfl) ho (I.freeC x c e)
  · obtain ⟨e,n,ne,nf,d⟩:=I.pin p hp
    have nch:p.1 ∉ ch:=fun z => (hch p.1 z).2.2.2 p hp rfl
    exact ⟨keep p.1 p.2 ne nf nch e n,free p.1 p.2 nch e n,ne,nf,d⟩
theorem Inv.un {t':Nat} (I:Inv X pins σ H s) (u:Un X.fs [] H H' s.heap h') (hok:HOk X.prog X.w H' h'):Inv X pins σ H' { s with heap:=h',toks:=t' }:=by
  obtain ⟨m,⟨o,es,ep,ho,r⟩,_⟩:=id I.loc
  obtain ⟨sl,hL⟩:=u.any ho I.free (by simp)
  exact I.step (g':=s.gens) (d':=s.drawn) (ch:=[]) (fun _ z => nomatch z) (fun b o _ hb _ e n => u.keep b o e n hb (by simp)) (fun b o _ hb _ e n => u.slot b o e n hb (by simp)) (fun b o _ e n => u.free b o e n (by simp)) (fun b o _ e => u.there b o e (by simp)) u.tups u.frzs u.tbls (fun m' hm => by
    obtain ⟨o',es',ep',ho',r'⟩:=hm
    rw [ho] at ho'; cases ho'
    exact ⟨_,es',ep',hL,r'⟩) hok I.bare
theorem Inv.call {g':Array GenState} {t':Nat} {d':Drawn} {ch:List Addr} (I:Inv X pins σ H s) (u:Un (frs X.stack) ch H H' s.heap h') (hok:HOk X.prog X.w H' h') (hg:AllBare g')
    (hch:∀ b ∈ ch,(b ∈ X.ex ∨ X.s₀.heap.objs.size ≤ b) ∧ b ≠ X.env.locals ∧ (∀ x c,X.env.cells.lookup x = some c → c ≠ b) ∧ ∀ p ∈ X.pn ++ pins,p.1 ≠ b) :
    Inv X pins σ H' { s with heap:=h',gens:=g',drawn:=d',toks:=t' }:=by
  obtain ⟨m,⟨o,es,ep,ho,r⟩,_⟩:=id I.loc
  obtain ⟨sl,hL⟩:=u.any ho I.free fun z => (hch _ z).2.1 rfl
  exact I.step (ch:=ch) hch (fun b o hL hb hc e n => u.keep b o e n (fun z => (List.mem_cons.mp (I.stkSub b z)).elim hL hb) hc) (fun b o _ _ hc e n => u.any e n hc) (fun b o hc e n => u.free b o e n hc) (fun b o hc e => u.there b o e hc) u.tups u.frzs u.tbls (fun m' hm => by
    obtain ⟨o',es',ep',ho',r'⟩:=hm
    rw [ho] at ho'; cases ho'
    exact ⟨_,es',ep',hL,r'⟩) hok hg
theorem Inv.turned {t':Nat} {it:Addr} (I:Inv X pins σ H s) (k:∀ b o,b ≠ it → s.heap.get? b = some o → h'.get? b = some o) (hn:H it = none) (hL:it ≠ X.env.locals)
    (h1:it ∈ X.ex ∨ X.s₀.heap.objs.size ≤ it) (h2:∀ x c,X.env.cells.lookup x = some c → c ≠ it) (h3:∀ p ∈ X.pn ++ pins,p.1 ≠ it):Inv X pins σ H { s with heap:=h',toks:=t' }:=by
  have nit:∀ b u,H b = some u → b ≠ it:=fun b u e z => by rw [z,hn] at e; cases e
  refine I.step (g':=s.gens) (d':=s.drawn) (ch:=[it]) (fun b hb => ?_) (fun b o _ _ hc e _ => k b o (fun z => hc (by simp [z])) e) (fun b o _ _ hc e _ => ⟨o.slots,k b o (fun z => hc (by simp [z])) e⟩) (fun _ _ _ _ n => n)
    (fun b o hc e => ⟨o,k b o (fun z => hc (by simp [z])) e⟩) (fun _ _ e => e) (fun _ _ _ e => e) (fun b ps e => ⟨#[],by rw [e]; simp⟩) (fun m hm => ?_) (fun b u e => ?_) I.bare
  · have e:b = it:=by simpa using hb
    subst e
    exact ⟨h1,hL,h2,h3⟩
  · obtain ⟨o,es,ep,ho,r⟩:=hm
    exact ⟨o,es,ep,k _ o (Ne.symm hL) ho,r⟩
  · refine (I.hok b u e).stay (fun c v hc q => k c v ?_ q) (fun _ q => q) fun _ _ q => q
    rcases hc with z | z
    · rw [z]; exact nit b u e
    · exact nit c _ z
theorem Inv.tok (I:Inv X pins σ H s) (t:Nat):Inv X pins σ H { s with toks:=t }:=I.un (h':=s.heap) (t':=t) Un.refl I.hok
theorem Inv.kept {t':Nat} (I:Inv X pins σ H s) (k:∀ b u,s.heap.get? b = some u → h'.get? b = some u):Inv X pins σ H { s with heap:=h',toks:=t' }:=I.un (Un.kept k) (I.hok.kept k)
theorem Inv.laid {a:Addr} {o:HO} {t':Nat} (I:Inv X pins σ H s) (k:∀ b u,s.heap.get? b = some u → h'.get? b = some u) (hp:s.heap.objs.size ≤ a) (new:ObjOk X.prog X.w (upd H a o) h' a o) :
    Inv X pins σ (upd H a o) { s with heap:=h',toks:=t' }:=I.un (Un.laid k hp (I.hok.fresh hp)) (I.hok.laid k hp new)
theorem Inv.write {x e:Addr} {o:HO} {t':Nat} (I:Inv X pins σ H s) (mu:Mut (H x)) (he:e = x ∨ H e = some (.own x)) (k:∀ b u,b ≠ e → s.heap.get? b = some u → h'.get? b = some u) (heo:∃ u,h'.get? e = some u)
    (new:ObjOk X.prog X.w (upd H x o) h' x o):Inv X pins σ (upd H x o) { s with heap:=h',toks:=t' }:=I.un (Un.write mu he k heo) (I.hok.write mu he k heo new)
theorem Inv.pins_of {pins':List (Addr × Obj)} (I:Inv X pins σ H s) (h:∀ p ∈ pins',s.heap.get? p.1 = some p.2 ∧ H p.1 = none ∧ p.1 ≠ X.env.locals ∧ p.1 ∉ X.fs ∧ ∀ v,p.2.data ≠ .cell v):Inv X pins' σ H s :=
  ⟨I.ok,I.os,I.bare,I.base,I.loc,I.cell,I.free,I.freeC,fun p hp => (List.mem_append.mp hp).elim (fun z => I.pin p (List.mem_append_left _ z)) (h p),I.hok,I.len,I.fx⟩
theorem nodup_ix {N:List Str} (hN:N.Nodup) {i j:Nat} {x:Str} (a:N[i]? = some x) (b:N[j]? = some x):i = j:=by
  obtain ⟨h1,e1⟩:=List.getElem?_eq_some_iff.mp a
  obtain ⟨h2,e2⟩:=List.getElem?_eq_some_iff.mp b
  exact (List.getElem_inj hN).mp (e1.trans e2.symm)
theorem store_ok2 {M:Model} {A:Around} {E:Value → Shared → Prop} {i:Nat} {x:Str} {v:V} {u:Value} {Q:Unit → Shared → Prop} (I:Inv X pins σ H s) (hN:X.nd) (hi:X.N[i]? = some x) (hx:Loc X.env.scope x) (r:RelV v u)
    (h:∀ s',Inv X pins (σ.set i (some v)) H s' → (∃ a,Heap.SameBut a s.heap s'.heap ∧ (a = X.env.locals ∨ X.env.cells.lookup x = some a)) → Q () s') (hf:X.fn x = true ∨ X.env.scope.names.lookup x = some .local:=by first | exact .inl rfl | exact .inr rfl | assumption):wpAny M A (storeName X.env x u) Q E s:=by
  obtain ⟨m,hn,hl⟩:=id I.loc
  have hcls:(X.env.scope.kind == .class || (X.env.scope.kind == .module && X.env.locals != X.env.globals)) = false:=by rw [I.ok.kind]; rfl
  have hiσ:i < σ.length:=by rw [I.len]; exact (List.getElem?_eq_some_iff.mp hi).1
  have cne:=I.cne
  have tracked:∀ {a:Addr} {h':Heap},(∃ o,s.heap.get? a = some o ∧ H a = none) → Heap.SameBut a s.heap h' → HOk X.prog X.w H h':=fun {a h'} ha hs b ob e => by
    obtain ⟨_,_,hfree⟩:=ha
    refine (I.hok b ob e).stay (fun c w' hc q => (hs.2 c ?_).trans q) (fun _ q => q) fun _ _ q => q
    rintro rfl
    rcases hc with rfl | hc
    · rw [hfree] at e; cases e
    · rw [hfree] at hc; cases hc
  rcases hx with hk | hk
  · refine wpAny_storeName_local hk hn (fun h' hn' hs => ?_) hcls
    obtain ⟨oL,_,_,hoL,_⟩:=id hn
    refine h _ ⟨I.ok,I.os,I.bare,⟨fun b o e n hb hx => ?_,fun b o e n hb hx => ?_,I.base.free,fun b o e hx => ?_,I.base.tups,I.base.frzs,I.base.tbls⟩,⟨_,hn',fun j y v' e1 e2 e3 => ?_⟩,fun y c e => ?_,I.free,I.freeC,fun p hp => ?_,tracked ⟨oL,hoL,I.free⟩ hs,by simpa using I.len,fun f e => by rw [hN.2] at e; cases e⟩ ⟨_,hs,.inl rfl⟩
    · exact (hs.2 b (Nat.ne_of_lt (Nat.lt_of_lt_of_le (Heap.lt_size e) I.ok.above))).trans (I.base.keep b o e n hb hx)
    · obtain ⟨sl,e1⟩:=I.base.slot b o e n hb hx
      exact ⟨sl,(hs.2 b (Nat.ne_of_lt (Nat.lt_of_lt_of_le (Heap.lt_size e) I.ok.above))).trans e1⟩
    · obtain ⟨o',e1⟩:=I.base.there b o e hx
      exact ⟨o',(hs.2 b (Nat.ne_of_lt (Nat.lt_of_lt_of_le (Heap.lt_size e) I.ok.above))).trans e1⟩
    · by_cases hj:j = i
      · subst hj
        rw [hi] at e1; cases e1
        rw [List.getElem?_set_self hiσ] at e2
        cases e2
        exact ⟨u,r,.inl ⟨hk,by simp⟩⟩
      · rw [List.getElem?_set_ne (Ne.symm hj)] at e2
        obtain ⟨u',r',q⟩:=hl j y v' e1 e2 e3
        refine ⟨u',r',?_⟩
        rcases q with ⟨k,e⟩ | ⟨k,c,e,z⟩
        · refine .inl ⟨k,?_⟩
          have:y ≠ x:=fun e => hj (nodup_ix hN.1 e1 (e ▸ hi))
          simp [this,e]
        · exact .inr ⟨k,c,e,z.sameBut hs (cne y c e)⟩
    · obtain ⟨w',z⟩:=I.cell y c e
      exact ⟨w',z.sameBut hs (cne y c e)⟩
    · obtain ⟨e,n,ne,nf,d⟩:=I.pin p hp
      exact ⟨(hs.2 p.1 ne).trans e,n,ne,nf,d⟩
  · have hfn:X.fn x = true:=by
      rcases hf with z | z
      · exact z
      · rw [z] at hk; cases hk
    obtain ⟨c,hc⟩:=I.ok.has x (.inl hk)
    obtain ⟨w',z⟩:=I.cell x c hc
    refine wpAny_storeName_cell I.ok.kind hk hc z (fun h' hc' hs => ?_)
    obtain ⟨oc,hoc,hocd⟩:=id z
    refine h { s with heap:=h' } ⟨I.ok,I.os,I.bare,⟨fun b o e n hb hx => ?_,fun b o e n hb hx => ?_,I.base.free,fun b o e hx => ?_,I.base.tups,I.base.frzs,I.base.tbls⟩,⟨m,hn.sameBut hs (Ne.symm (cne x c hc)),fun j y v' e1 e2 e3 => ?_⟩,fun y c' e => ?_,I.free,I.freeC,fun p hp => ?_,tracked ⟨oc,hoc,I.freeC x c hc⟩ hs,by simpa using I.len,fun f e => by rw [hN.2] at e; cases e⟩ ⟨c,hs,.inr hc⟩
    · exact (hs.2 b (Nat.ne_of_lt (Nat.lt_of_lt_of_le (Heap.lt_size e) (I.ok.cab x c hfn hc)))).trans (I.base.keep b o e n hb hx)
    · obtain ⟨sl,e1⟩:=I.base.slot b o e n hb hx
      exact ⟨sl,(hs.2 b (Nat.ne_of_lt (Nat.lt_of_lt_of_le (Heap.lt_size e) (I.ok.cab x c hfn hc)))).trans e1⟩
    · obtain ⟨o',e1⟩:=I.base.there b o e hx
      exact ⟨o',(hs.2 b (Nat.ne_of_lt (Nat.lt_of_lt_of_le (Heap.lt_size e) (I.ok.cab x c hfn hc)))).trans e1⟩
    · by_cases hj:j = i
      · subst hj
        rw [hi] at e1; cases e1
        rw [List.getElem?_set_self hiσ] at e2
        cases e2
        exact ⟨u,r,.inr ⟨.inl hk,c,hc,hc'⟩⟩
      · rw [List.getElem?_set_ne (Ne.symm hj)] at e2
        obtain ⟨u',r',q⟩:=hl j y v' e1 e2 e3
        refine ⟨u',r',?_⟩
        rcases q with q | ⟨k,c',e,z'⟩
        · exact .inl q
        · refine .inr ⟨k,c',e,z'.sameBut hs ?_⟩
          rintro rfl
          exact hj (nodup_ix hN.1 e1 (I.ok.inj _ _ _ e hc ▸ hi))
    · by_cases hcc:c' = c
      · subst hcc; exact ⟨_,hc'⟩
      · obtain ⟨w2,z2⟩:=I.cell y c' e
        exact ⟨w2,z2.sameBut hs hcc⟩
    · obtain ⟨e,n,ne,nf,d⟩:=I.pin p hp
      refine ⟨(hs.2 p.1 ?_).trans e,n,ne,nf,d⟩
      intro q
      rw [q,hoc] at e
      have q':oc = p.2:=Option.some.inj e
      exact d w' (by rw [← q']; exact hocd)
theorem store_ok {M:Model} {A:Around} {E:Value → Shared → Prop} {i:Nat} {x:Str} {v:V} {u:Value} {Q:Unit → Shared → Prop} (I:Inv X pins σ H s) (hN:X.nd) (hi:X.N[i]? = some x) (hx:Loc X.env.scope x) (r:RelV v u)
    (h:∀ s',Inv X pins (σ.set i (some v)) H s' → Q () s') (hf:X.fn x = true ∨ X.env.scope.names.lookup x = some .local:=by first | exact .inl rfl | exact .inr rfl | assumption):wpAny M A (storeName X.env x u) Q E s :=
  store_ok2 I hN hi hx r (fun s' I' _ => h s' I') hf
theorem Inv.call' {s':Shared} {ch:List Addr} (I:Inv X pins σ H s) (ho:s'.os = s.os) (u:Un (frs X.stack) ch H H' s.heap s'.heap) (hok:HOk X.prog X.w H' s'.heap) (hg:AllBare s'.gens)
    (hch:∀ b ∈ ch,(b ∈ X.ex ∨ X.s₀.heap.objs.size ≤ b) ∧ b ≠ X.env.locals ∧ (∀ x c,X.env.cells.lookup x = some c → c ≠ b) ∧ ∀ p ∈ X.pn ++ pins,p.1 ≠ b):Inv X pins σ H' s':=by
  obtain ⟨h',g',d',t',o'⟩:=s'
  have e:o' = s.os:=ho
  subst e
  exact I.call (g':=g') (t':=t') (d':=d') u hok hg hch
end
noncomputable abbrev XK:=Value → Option Addr → Hp → Prop
noncomputable abbrev St:=List (Option V)
noncomputable abbrev VK:=V → Hp → Prop
noncomputable abbrev TE:=St → Hp → VK → Prop
noncomputable abbrev TT:=St → Hp → (Bool → Hp → Prop) → Prop
noncomputable abbrev TA:=St → Hp → (List V → Hp → Prop) → Prop
structure Ends where
  nx:St → Hp → Prop
  rt:VK
  bk:St → Hp → Prop:=fun _ _ => False
  ct:St → Hp → Prop:=fun _ _ => False
noncomputable abbrev TS:=Ends → St → Hp → Prop
noncomputable def EP (X:Cx) (pins:List (Addr × Obj)) (σ:St) (Q:VK) (u:Value) (s':Shared):Prop:=∃ v H',Inv X pins σ H' s' ∧ RelV v u ∧ Q v H'
noncomputable def TP (X:Cx) (pins:List (Addr × Obj)) (σ:St) (Q:Bool → Hp → Prop) (b:Bool) (s':Shared):Prop:=∃ H',Inv X pins σ H' s' ∧ Q b H'
noncomputable def AP (X:Cx) (pins:List (Addr × Obj)) (σ:St) (Q:List V → Hp → Prop) (us:List Value) (s':Shared):Prop:=∃ vs H',Inv X pins σ H' s' ∧ Vals vs us ∧ Q vs H'
noncomputable def SP (X:Cx) (pins:List (Addr × Obj)) (D:Ends) (f:Flow) (s':Shared):Prop :=
  match f with
  | .next => ∃ σ' H',Inv X pins σ' H' s' ∧ D.nx σ' H'
  | .brk => ∃ σ' H',Inv X pins σ' H' s' ∧ D.bk σ' H'
  | .cont => ∃ σ' H',Inv X pins σ' H' s' ∧ D.ct σ' H'
  | .ret u => ∃ v σ' H',Inv X pins σ' H' s' ∧ RelV v u ∧ D.rt v H'
noncomputable def PE (X:Cx) (e:Expr) (t:TE):Prop :=
  ∀ (pins:List (Addr × Obj)) (s:Shared) (σ:St) (H:Hp) (Q:VK),Inv X pins σ H s → t σ H Q → wpAny (model X.prog X.w) X.A (eval e X.env) (EP X pins σ Q) X.xe s
noncomputable def PT (X:Cx) (e:Expr) (t:TT):Prop :=
  ∀ (pins:List (Addr × Obj)) (s:Shared) (σ:St) (H:Hp) (Q:Bool → Hp → Prop),Inv X pins σ H s → t σ H Q → wpAny (model X.prog X.w) X.A (isTrue e X.env (eval e X.env)) (TP X pins σ Q) X.xe s
noncomputable def PW (X:Cx) (e:Expr) (t:TT):Prop :=
  ∀ (whole:Sem Value) (pins:List (Addr × Obj)) (s:Shared) (σ:St) (H:Hp) (Q:Bool → Hp → Prop),Inv X pins σ H s → t σ H Q → wpAny (model X.prog X.w) X.A (isTrue e X.env whole) (TP X pins σ Q) X.xe s
theorem PW.pt {X:Cx} {e:Expr} {t:TT} (h:PW X e t):PT X e t:=h _
noncomputable def PA (X:Cx) (es:List Expr) (t:TA):Prop :=
  ∀ (pos:Pos) (pins:List (Addr × Obj)) (s:Shared) (σ:St) (H:Hp) (Q:List V → Hp → Prop),Inv X pins σ H s → t σ H Q → wpAny (model X.prog X.w) X.A (spliced (backTo pos (starEach es X.env))) (AP X pins σ Q) X.xe s
noncomputable def PS (X:Cx) (st:Stmt) (t:TS):Prop :=
  ∀ (pins:List (Addr × Obj)) (s:Shared) (σ:St) (H:Hp) (D:Ends),Inv X pins σ H s → t D σ H → wpAny (model X.prog X.w) X.A (exec st X.env) (SP X pins D) X.xe s
noncomputable def PSs (X:Cx) (st:List Stmt) (t:TS):Prop :=
  ∀ (pins:List (Addr × Obj)) (s:Shared) (σ:St) (H:Hp) (D:Ends),Inv X pins σ H s → t D σ H → wpAny (model X.prog X.w) X.A (execs st X.env) (SP X pins D) X.xe s
theorem thn {α:Type} {t:Sem α} {Q Q':α → Shared → Prop} {M:Model} {A:Around} {E:Value → Shared → Prop} {s:Shared} (h:wpAny M A t Q E s) (hQ:∀ a s,Q a s → Q' a s):wpAny M A t Q' E s:=wpAny_mono h hQ fun _ _ x => x
end L2
namespace L2
open PySem PySem.Spec PyProof.Rows
section
variable {X:Cx}
theorem bin {a b:Expr} {ta tb:TE} (ha:PE X a ta) (hb:PE X b tb) {pins:List (Addr × Obj)} {s:Shared} {σ:St} {H:Hp} {R:V → V → Hp → Prop} (I:Inv X pins σ H s) (h:ta σ H fun x H1 => tb σ H1 fun y H2 => R x y H2)
    {α:Type} {Q:α → Shared → Prop} {f:Value → Value → Sem α}
    (hf:∀ v u s2 x y H2,Inv X pins σ H2 s2 → RelV x v → RelV y u → R x y H2 → wpAny (model X.prog X.w) X.A (f v u) Q X.xe s2) :
    wpAny (model X.prog X.w) X.A (eval a X.env) (fun v s₁ => wpAny (model X.prog X.w) X.A (eval b X.env) (fun u s₂ => wpAny (model X.prog X.w) X.A (f v u) Q X.xe s₂) X.xe s₁) X.xe s:=by
  refine thn (ha pins s σ H _ I h) fun v s1 ⟨x,H1,I1,r1,q1⟩ => ?_
  refine thn (hb pins s1 σ H1 _ I1 q1) fun u s2 ⟨y,H2,I2,r2,q2⟩ => ?_
  exact hf v u s2 x y H2 I2 r1 r2 q2
noncomputable def tVar (i:Nat):TE:=fun σ H Q => ∃ v,σ[i]? = some (some v) ∧ Q v H
noncomputable def tC (v:V):TE:=fun _ H Q => Q v H
theorem pe_var {i:Nat} {x:Str} {pos:Pos} (hN:X.N[i]? = some x) (hv:Vis X.env.scope x) (hd:(x == ("__debug__":Str)) = false:=by decide) (hcd:(x == ("__classdict__":Str)) = false:=by decide):PE X (.Name x pos) (tVar i):=by
  intro pins s σ H Q I h
  obtain ⟨v,e,h⟩:=h
  obtain ⟨m,hn,hl⟩:=I.loc
  obtain ⟨u,r,l⟩:=hl i x v hN e hv
  have fin:EP X pins σ Q u s:=⟨v,H,I,r,h⟩
  rcases l with ⟨hk,hm⟩ | ⟨hk,c,hc,hcell⟩
  · exact wpAny_Name (wpAny_loadName_local I.ok.kind hk hn hm fin) hd
  · rcases hk with hk | hk
    · exact wpAny_Name (wpAny_loadName_cell I.ok.kind hk hc hcell fin) hd
    · exact wpAny_Name (wpAny_loadName_free I.ok.kind hk hc hcell fin hcd) hd
theorem pe_int {i j pos}:PE X (.Constant (.int i) j pos) (tC (.int i)):=fun _ _ _ H _ I h => wpAny_Constant_int ⟨.int i,H,I.tok _,⟨_,rfl⟩,h⟩
theorem pe_bl {b j pos}:PE X (.Constant (.bool b) j pos) (tC (.bl b)):=fun _ _ _ H _ I h => Constant_bool ⟨.bl b,H,I,rfl,h⟩
theorem pe_non {j pos}:PE X (.Constant .none j pos) (tC .non):=fun _ _ _ H _ I h => Constant_none ⟨.non,H,I,rfl,h⟩
theorem pe_str {x j pos}:PE X (.Constant (.str x) j pos) (tC (.str x)):=fun _ _ _ H _ I h => Calls.Constant_str ⟨.str x,H,I.tok _,⟨_,rfl⟩,h⟩
noncomputable def Gl (X:Cx) (x:Str):Prop:=X.env.kindOf x = some .globalImplicit
theorem ld_glob {E:Value → Shared → Prop} {pins:List (Addr × Obj)} {s:Shared} {σ:St} {H:Hp} {x:Str} {u:Value} {pos:Pos} {Q:Value → Shared → Prop} (I:Inv X pins σ H s) (hg:Gl X x) (hm:X.mg x = some u) (h:Q u s)
    (hd:(x == ("__debug__":Str)) = false:=by decide):wpAny (model X.prog X.w) X.A (eval (.Name x pos) X.env) Q E s :=
  Calls.Name_function_global I.ok.kind hg (Calls.loadGlobal_global (by rw [I.ok.glob]; exact I.mod.glob.keeps I.bk) hm h) hd
theorem ld_blt {E:Value → Shared → Prop} {pins:List (Addr × Obj)} {s:Shared} {σ:St} {H:Hp} {x:Str} {u:Value} {pos:Pos} {Q:Value → Shared → Prop} (I:Inv X pins σ H s) (hg:Gl X x) (hm:X.mg x = none) (hv:bootBuiltins x = some u) (h:Q u s)
    (hn:x ≠ "__name__":=by decide) (hd:(x == ("__debug__":Str)) = false:=by decide):wpAny (model X.prog X.w) X.A (eval (.Name x pos) X.env) Q E s:=by
  obtain ⟨mb,h1,h2⟩:=I.mod.blt
  exact Calls.Name_function_global I.ok.kind hg (Calls.loadGlobal_builtin (by rw [I.ok.glob]; exact I.mod.glob.keeps I.bk) hm (by rw [I.ok.blt]; exact h1.keeps I.bk) ((h2 x hn).trans hv) h) hd
theorem pe_glob {x:Str} {v:V} {u:Value} {pos:Pos} (hg:Gl X x) (hm:X.mg x = some u) (r:RelV v u) (hd:(x == ("__debug__":Str)) = false:=by decide):PE X (.Name x pos) (tC v) :=
  fun _ _ _ H _ I h => ld_glob I hg hm ⟨v,H,I,r,h⟩ hd
theorem pe_bltn {x:Str} {v:V} {u:Value} {pos:Pos} (hg:Gl X x) (hm:X.mg x = none) (hv:bootBuiltins x = some u) (r:RelV v u) (hn:x ≠ "__name__":=by decide) (hd:(x == ("__debug__":Str)) = false:=by decide):PE X (.Name x pos) (tC v) :=
  fun _ _ _ H _ I h => ld_blt I hg hm hv ⟨v,H,I,r,h⟩ hn hd
variable {a b:Expr} {ta tb:TE} {pos:Pos}
noncomputable def PC (X:Cx) (op:CmpOp) (a b:Expr) (t:TE):Prop :=
  ∀ (pins:List (Addr × Obj)) (s:Shared) (σ:St) (H:Hp) (Q:VK),Inv X pins σ H s → t σ H Q →
    wpAny (model X.prog X.w) X.A (eval a X.env) (fun v s₁ => wpAny (model X.prog X.w) X.A (eval b X.env) (fun u s₂ => wpAny (model X.prog X.w) X.A (compareOp op v u) (EP X pins σ Q) X.xe s₂) X.xe s₁) X.xe s
theorem nobehind (b:Expr) {op:CmpOp} (h:op ≠ .In) (h2:op ≠ .NotIn):behindInMarks op b = false:=by
  have e1:(op == CmpOp.In) = false:=by cases op <;> first | rfl | exact absurd rfl h
  have e2:(op == CmpOp.NotIn) = false:=by cases op <;> first | rfl | exact absurd rfl h2
  cases b <;> simp [behindInMarks,e1,e2]
noncomputable def tIsN (ta:TE):TE:=fun σ H Q => ta σ H fun x H1 => Q (.bl (decide (x = .non))) H1
theorem RelV.none_iff {x:V} {v:Value} (r:RelV x v):(v == Value.none) = decide (x = .non):=by
  cases x with
  | non => cases r; rfl
  | bl _ => cases r; rfl
  | int _ => obtain ⟨t,rfl⟩:=r; rfl
  | str _ => obtain ⟨t,rfl⟩:=r; rfl
  | byt _ => obtain ⟨t,rfl⟩:=r; rfl
  | flt _ => obtain ⟨t,rfl⟩:=r; rfl
  | ref _ => cases r; rfl
  | ty _ => cases r; rfl
theorem pc_isN {j pos'} (ha:PE X a ta):PC X .Is a (.Constant .none j pos') (tIsN ta):=by
  intro pins s σ H Q I h
  refine thn (ha pins s σ H _ I h) fun v s1 ⟨x,H1,I1,r1,q1⟩ => ?_
  exact Constant_none (is_none_gen ⟨.bl _,H1,I1,by rw [r1.none_iff]; rfl,q1⟩)
noncomputable def tB (t:TE):TT:=fun σ H Q => t σ H fun x H1 => ∃ c,x = .bl c ∧ Q c H1
theorem pt_cmp {op:CmpOp} {t:TE} (h:PC X op a b t) (h1:behindInMarks op b = false:=by first | exact nobehind _ (by decide) (by decide) | rfl):PT X (.Compare a [op] [b] pos) (tB t):=by
  intro pins s σ H Q I hw
  refine wpAny_isTrue_Compare1 (thn (h pins s σ H _ I hw) fun v s1 h1 => thn h1 fun u s2 h2 => thn h2 fun c s3 ⟨x,H1,I1,r1,q1⟩ => ?_) h1
  obtain ⟨d,rfl,q⟩:=q1
  cases r1
  exact wpAny_truthy_bool ⟨H1,I1,q⟩
variable {tA tB':TT} {rest:List Expr}
noncomputable def tAnd (t u:TT):TT:=fun σ H Q => t σ H fun c H1 => if c = true then u σ H1 Q else Q false H1
noncomputable def tOr (t u:TT):TT:=fun σ H Q => t σ H fun c H1 => if c = true then Q true H1 else u σ H1 Q
noncomputable def tNot (t:TT):TT:=fun σ H Q => t σ H fun c H1 => Q (!c) H1
theorem pw_and1 (ha:PT X a tA):PW X (.BoolOp .And [a] pos) tA:=by
  intro wh pins s σ H Q I h
  refine isTrue_and (thn (ha pins s σ H Q I h) fun c s1 e => ?_)
  cases c with
  | true => exact isTrue_and_nil e
  | false => exact e
theorem pw_or1 (ha:PT X a tA):PW X (.BoolOp .Or [a] pos) tA:=by
  intro wh pins s σ H Q I h
  refine isTrue_or (thn (ha pins s σ H Q I h) fun c s1 e => ?_)
  cases c with
  | false => exact isTrue_or_nil e
  | true => exact e
theorem pw_and (ha:PT X a tA) (hb:PW X (.BoolOp .And (b :: rest) pos) tB'):PW X (.BoolOp .And (a :: b :: rest) pos) (tAnd tA tB'):=by
  intro wh pins s σ H Q I h
  refine isTrue_and (thn (ha pins s σ H _ I h) fun c s1 ⟨H1,I1,q1⟩ => ?_)
  cases c with
  | true => exact hb wh pins s1 σ H1 Q I1 q1
  | false => exact ⟨H1,I1,q1⟩
theorem pw_or (ha:PT X a tA) (hb:PW X (.BoolOp .Or (b :: rest) pos) tB'):PW X (.BoolOp .Or (a :: b :: rest) pos) (tOr tA tB'):=by
  intro wh pins s σ H Q I h
  refine isTrue_or (thn (ha pins s σ H _ I h) fun c s1 ⟨H1,I1,q1⟩ => ?_)
  cases c with
  | true => exact ⟨H1,I1,q1⟩
  | false => exact hb wh pins s1 σ H1 Q I1 q1
theorem pt_not (ha:PT X a tA):PT X (.UnaryOp .Not a pos) (tNot tA):=by
  intro pins s σ H Q I h
  exact isTrue_not (ha pins s σ H (fun c H1 => Q (!c) H1) I h)
noncomputable def tAndV (ta tb:TE):TE:=fun σ H Q => ta σ H fun x H1 => ∃ c,x = .bl c ∧ if c = true then tb σ H1 Q else Q (.bl false) H1
noncomputable def tOrV (ta tb:TE):TE:=fun σ H Q => ta σ H fun x H1 => ∃ c,x = .bl c ∧ if c = true then Q (.bl true) H1 else tb σ H1 Q
noncomputable def tNotV (ta:TE):TE:=fun σ H Q => ta σ H fun x H1 => ∃ c,x = .bl c ∧ Q (.bl (!c)) H1
theorem pe_one {op} {t:TE} (h:PE X a t):PE X (.BoolOp op [a] pos) t:=fun pins s σ H Q I hw => BoolOp_one (h pins s σ H Q I hw)
theorem pe_and (ha:PE X a ta) (hb:PE X (.BoolOp .And (b :: rest) pos) tb):PE X (.BoolOp .And (a :: b :: rest) pos) (tAndV ta tb):=by
  intro pins s σ H Q I h
  refine BoolOp_and (thn (ha pins s σ H _ I h) fun v s1 ⟨x,H1,I1,r1,q1⟩ => ?_)
  obtain ⟨c,rfl,q1⟩:=q1
  cases r1
  refine wpAny_truthy_bool ?_
  cases c with
  | true => exact hb pins s1 σ H1 Q I1 q1
  | false => exact ⟨.bl false,H1,I1,rfl,q1⟩
theorem pe_or (ha:PE X a ta) (hb:PE X (.BoolOp .Or (b :: rest) pos) tb):PE X (.BoolOp .Or (a :: b :: rest) pos) (tOrV ta tb):=by
  intro pins s σ H Q I h
  refine BoolOp_or (thn (ha pins s σ H _ I h) fun v s1 ⟨x,H1,I1,r1,q1⟩ => ?_)
  obtain ⟨c,rfl,q1⟩:=q1
  cases r1
  refine wpAny_truthy_bool ?_
  cases c with
  | false => exact hb pins s1 σ H1 Q I1 q1
  | true => exact ⟨.bl true,H1,I1,rfl,q1⟩
theorem pe_not (ha:PE X a ta):PE X (.UnaryOp .Not a pos) (tNotV ta):=by
  intro pins s σ H Q I h
  refine UnaryOp_ (thn (ha pins s σ H _ I h) fun v s1 ⟨x,H1,I1,r1,q1⟩ => ?_)
  obtain ⟨c,rfl,q1⟩:=q1
  cases r1
  exact not_of (wpAny_truthy_bool ⟨.bl (!c),H1,I1,rfl,q1⟩)
noncomputable def tIf (t:TT) (ta tb:TE):TE:=fun σ H Q => t σ H fun c H1 => if c = true then ta σ H1 Q else tb σ H1 Q
theorem pe_ifExp {c:Expr} (hc:PT X c tA) (ha:PE X a ta) (hb:PE X b tb):PE X (.IfExp c a b pos) (tIf tA ta tb):=by
  intro pins s σ H Q I h
  refine wpAny_IfExp (thn (hc pins s σ H _ I h) fun d s1 ⟨H1,I1,q1⟩ => ?_)
  cases d with
  | true => exact ha pins s1 σ H1 Q I1 q1
  | false => exact hb pins s1 σ H1 Q I1 q1
end
end L2
namespace L2
open PySem PySem.Spec PyProof.Rows
noncomputable def SqL (K:PySem.W.Frag) (H:Hp) (a:Addr) (xs:List V):Prop :=
  Rd H a (.lst xs) ∨
    ∃ (o:Obj) (its:Array Value) (n:Nat),K.lookup a = some o ∧ o.cls = .type "list" ∧ o.dict = none ∧ o.data = .seq its n ∧ its.size ≤ sizeLine ∧ Vals xs its.toList
noncomputable def SqT (K:PySem.W.Frag) (H:Hp) (a:Addr) (xs:List V):Prop :=
  Rd H a (.tup xs) ∨
    ∃ (o:Obj) (its:Array Value) (n:Nat),K.lookup a = some o ∧ o.cls = .type "tuple" ∧ o.data = .seq its n ∧ its.size ≤ sizeLine ∧ Vals xs its.toList
noncomputable def absV:Value → Option V
  | .none => some .non
  | .bool b => some (.bl b)
  | .int i _ => some (.int i)
  | .str x _ => some (.str x)
  | .bytes b _ => some (.byt b)
  | .float b _ => some (.flt b)
  | .ref a => some (.ref a)
  | .type n => some (.ty n)
  | _ => none
theorem RelV.abs {x:V} {u:Value} (r:RelV x u):absV u = some x:=by
  cases x with
  | non => cases r; rfl
  | bl _ => cases r; rfl
  | int _ => obtain ⟨t,rfl⟩:=r; rfl
  | str _ => obtain ⟨t,rfl⟩:=r; rfl
  | byt _ => obtain ⟨t,rfl⟩:=r; rfl
  | flt _ => obtain ⟨t,rfl⟩:=r; rfl
  | ref _ => cases r; rfl
  | ty _ => cases r; rfl
theorem RelV.inj {x y:V} {u:Value} (r:RelV x u) (q:RelV y u):x = y:=Option.some.inj (r.abs.symm.trans q.abs)
theorem Vals.inj:∀ {xs ys:List V} {us:List Value},Vals xs us → Vals ys us → xs = ys
  | _,_,_,.nil,.nil => rfl
  | _,_,_,.cons r t,.cons r' t' => by rw [r.inj r',Vals.inj t t']
section
variable {X:Cx} {pins:List (Addr × Obj)} {σ:St} {H:Hp} {s:Shared} {a:Addr} {xs ys:List V}
theorem SqL.of {K:PySem.W.Frag} (h:H a = some (.lst xs)):SqL K H a xs:=.inl (.inl h)
theorem SqT.of {K:PySem.W.Frag} (h:H a = some (.tup xs)):SqT K H a xs:=.inl (.inl h)
theorem Inv.list (I:Inv X pins σ H s) (h:SqL X.K H a xs):∃ its:List Value,Vals xs its ∧ PlainL s.heap a its.toArray ∧ xs.length ≤ sizeLine:=by
  rcases h with h | ⟨o,its,n,hk,hc,hd,hs,hz,r⟩
  · obtain ⟨z,its,n,r,e⟩:=h.ok I.hok
    exact ⟨its,r,⟨_,n,e,rfl,rfl,rfl⟩,z⟩
  · refine ⟨its.toList,r,⟨o,n,I.kIn a o hk,hc,hd,by simpa using hs⟩,?_⟩
    have e:=r.length
    simp only [Array.length_toList] at e
    omega
theorem Inv.tuple (I:Inv X pins σ H s) (h:SqT X.K H a xs):∃ its:List Value,Vals xs its ∧ IsTup s.heap a its.toArray ∧ xs.length ≤ sizeLine:=by
  rcases h with h | ⟨o,its,n,hk,hc,hs,hz,r⟩
  · obtain ⟨z,its,r,p⟩:=h.ok I.hok
    exact ⟨its,r,p,z⟩
  · refine ⟨its.toList,r,⟨o,I.kIn a o hk,hc,n,by simpa using hs⟩,?_⟩
    have e:=r.length
    simp only [Array.length_toList] at e
    omega
theorem Inv.list_inj (I:Inv X pins σ H s) (h:SqL X.K H a xs) (h':SqL X.K H a ys):xs = ys:=by
  obtain ⟨its,r,⟨o,n,e,_,_,d⟩,_⟩:=I.list h
  obtain ⟨its',r',⟨o',n',e',_,_,d'⟩,_⟩:=I.list h'
  rw [e] at e'; cases e'
  rw [d] at d'
  injection d' with d1 _
  have:its = its':=by simpa using congrArg Array.toList d1
  subst this
  exact r.inj r'
theorem Inv.tuple_inj (I:Inv X pins σ H s) (h:SqT X.K H a xs) (h':SqT X.K H a ys):xs = ys:=by
  obtain ⟨its,r,⟨o,e,_,n,d⟩,_⟩:=I.tuple h
  obtain ⟨its',r',⟨o',e',_,n',d'⟩,_⟩:=I.tuple h'
  rw [e] at e'; cases e'
  rw [d] at d'
  injection d' with d1 _
  have:its = its':=by simpa using congrArg Array.toList d1
  subst this
  exact r.inj r'
end
noncomputable abbrev Cx.wish (X:Cx) (E:Value → Shared → Prop):Cx:={ X with xe:=E }
noncomputable abbrev Cx.nox (X:Cx):Cx:=X.wish fun _ _ => False
theorem Cx.Ok.wish {X:Cx} (ok:X.Ok) (E:Value → Shared → Prop):(X.wish E).Ok :=
  ⟨ok.mod,ok.kind,ok.glob,ok.blt,ok.above,ok.inj,ok.has,ok.cab,ok.hd,ok.frames,ok.stk,ok.exf,ok.bs,ok.bsz,ok.noex,ok.exfs,ok.funs,ok.frf⟩
theorem Cx.Ok.unwish {X:Cx} {E:Value → Shared → Prop} (ok:(X.wish E).Ok):X.Ok :=
  ⟨ok.mod,ok.kind,ok.glob,ok.blt,ok.above,ok.inj,ok.has,ok.cab,ok.hd,ok.frames,ok.stk,ok.exf,ok.bs,ok.bsz,ok.noex,ok.exfs,ok.funs,ok.frf⟩
section
variable {X:Cx} {pins:List (Addr × Obj)} {σ:St} {H:Hp} {s:Shared} {E:Value → Shared → Prop}
theorem Inv.wish (I:Inv X pins σ H s) (E:Value → Shared → Prop):Inv (X.wish E) pins σ H s:=⟨I.ok.wish E,I.os,I.bare,I.base,I.loc,I.cell,I.free,I.freeC,I.pin,I.hok,I.len,I.fx⟩
theorem Inv.unwish (I:Inv (X.wish E) pins σ H s):Inv X pins σ H s:=⟨I.ok.unwish,I.os,I.bare,I.base,I.loc,I.cell,I.free,I.freeC,I.pin,I.hok,I.len,I.fx⟩
theorem SP.unwish {D:Ends} {f:Flow} {s':Shared} (h:SP (X.wish E) pins D f s'):SP X pins D f s':=by
  cases f with
  | next => obtain ⟨σ',H',I,q⟩:=h; exact ⟨σ',H',I.unwish,q⟩
  | brk => obtain ⟨σ',H',I,q⟩:=h; exact ⟨σ',H',I.unwish,q⟩
  | cont => obtain ⟨σ',H',I,q⟩:=h; exact ⟨σ',H',I.unwish,q⟩
  | ret u => obtain ⟨v,σ',H',I,r,q⟩:=h; exact ⟨v,σ',H',I.unwish,r,q⟩
theorem PSs.nox {st:List Stmt} {t:TS} (h:PSs X.nox st t):PSs X st t:=fun pins s σ H D I hw =>
  wpAny_mono (h pins s σ H D (I.wish _) hw) (fun _ _ q => q.unwish) fun _ _ z => False.elim z
end
section
variable {X:Cx} {st:Stmt} {rest:List Stmt} {t u:TS} {e:Expr} {te:TE} {pos:Pos}
noncomputable def tNext:TS:=fun D σ H => D.nx σ H
noncomputable def tSeq (t u:TS):TS:=fun D σ H => t { D with nx:=u D } σ H
theorem pss_nil:PSs X [] tNext:=fun _ _ σ H _ I h => wpAny_execs_nil ⟨σ,H,I,h⟩
theorem pss_cons (h1:PS X st t) (h2:PSs X rest u):PSs X (st :: rest) (tSeq t u):=by
  intro pins s σ H D I h
  refine wpAny_execs_cons (thn (h1 pins s σ H { D with nx:=u D } I h) fun f s1 q => ?_)
  cases f with
  | next =>
    obtain ⟨σ',H',I',q⟩:=q
    exact h2 pins s1 σ' H' D I' q
  | ret v => exact q
  | brk => exact q
  | cont => exact q
theorem pss_one (h1:PS X st t):PSs X [st] t:=by
  intro pins s σ H D I h
  refine wpAny_execs_cons (thn (h1 pins s σ H D I h) fun f s1 q => ?_)
  cases f with
  | next => exact wpAny_execs_nil q
  | ret v => exact q
  | brk => exact q
  | cont => exact q
theorem Inv.quiet {pins:List (Addr × Obj)} {σ:St} {H:Hp} {s:Shared} (I:Inv X pins σ H s):interactive X.env = false:=by simp [interactive,I.ok.kind]
noncomputable def tDrop (te:TE):TS:=fun D σ H => te σ H fun _ H1 => D.nx σ H1
theorem ps_expr (he:PE X e te) (hs:swapsWith e none pos.line X.env = pure false:=by rfl):PS X (.Expr e pos) (tDrop te):=by
  intro pins s σ H D I h
  exact wpAny_Expr_any (thn (he pins s σ H _ I h) fun v s1 ⟨x,H1,I1,r1,q1⟩ => ⟨σ,H1,I1,q1⟩) I.quiet hs
noncomputable def tRet (te:TE):TS:=fun D σ H => te σ H D.rt
theorem ps_ret (he:PE X e te):PS X (.Return (some e) pos) (tRet te):=by
  intro pins s σ H D I h
  exact wpAny_Return_some (thn (he pins s σ H _ I h) fun v s1 ⟨x,H1,I1,r1,q1⟩ => ⟨x,σ,H1,I1,r1,q1⟩)
noncomputable def tIfS (c:TT) (t u:TS):TS:=fun D σ H => c σ H fun b H1 => if b = true then t D σ H1 else u D σ H1
theorem ps_if {c:Expr} {a b:List Stmt} {tc:TT} (hc:PT X c tc) (ha:PSs X a t) (hb:PSs X b u):PS X (.If c a b pos) (tIfS tc t u):=by
  intro pins s σ H D I h
  refine wpAny_If (thn (hc pins s σ H _ I h) fun d s1 ⟨H1,I1,q1⟩ => ?_)
  cases d with
  | true => exact ha pins s1 σ H1 D I1 q1
  | false => exact hb pins s1 σ H1 D I1 q1
end
noncomputable abbrev TG:=V → St → Hp → (St → Hp → Prop) → Prop
noncomputable abbrev TGs:=List V → St → Hp → (St → Hp → Prop) → Prop
noncomputable def PG (X:Cx) (target:Expr) (t:TG):Prop :=
  ∀ (pins:List (Addr × Obj)) (s:Shared) (σ:St) (H:Hp) (v:V) (u:Value) (Q:St → Hp → Prop),Inv X pins σ H s → RelV v u → t v σ H Q →
    wpAny (model X.prog X.w) X.A (assign target X.env u) (fun _ s' => ∃ σ' H',Inv X pins σ' H' s' ∧ Q σ' H') X.xe s
noncomputable def PGs (X:Cx) (ts:List Expr) (t:TGs):Prop :=
  ∀ (pins:List (Addr × Obj)) (s:Shared) (σ:St) (H:Hp) (vs:List V) (us:List Value) (Q:St → Hp → Prop),Inv X pins σ H s → Vals vs us → t vs σ H Q →
    wpAny (model X.prog X.w) X.A (assignInOrder ((assignEach ts X.env).map (·.2)) us) (fun _ s' => ∃ σ' H',Inv X pins σ' H' s' ∧ Q σ' H') X.xe s
noncomputable abbrev TSet:=V → V → V → Hp → (Hp → Prop) → Prop
noncomputable def PSet (X:Cx) (t:TSet):Prop :=
  ∀ (pins:List (Addr × Obj)) (s:Shared) (σ:St) (H:Hp) (o i v:V) (ov iv u:Value) (Q:Hp → Prop),Inv X pins σ H s → RelV o ov → RelV i iv → RelV v u → t o i v H Q →
    wpAny (model X.prog X.w) X.A (setItem ov iv u) (fun _ s' => ∃ H',Inv X pins σ H' s' ∧ Q H') X.xe s
section
variable {X:Cx} {pos:Pos}
noncomputable def gName (i:Nat):TG:=fun v σ H Q => Q (σ.set i (some v)) H
theorem pg_name {i:Nat} {x:Str} (hN:X.nd) (hi:X.N[i]? = some x) (hx:Loc X.env.scope x) (hf:X.fn x = true ∨ X.env.scope.names.lookup x = some .local:=by first | exact .inl rfl | exact .inr rfl | assumption):PG X (.Name x pos) (gName i):=by
  intro pins s σ H v u Q I r h
  exact wpAny_assign_Name (store_ok I hN hi hx r (fun s' I' => ⟨_,H,I',h⟩) hf)
noncomputable def gNil:TGs:=fun vs σ H Q => vs = [] ∧ Q σ H
noncomputable def gCons (t:TG) (u:TGs):TGs:=fun vs σ H Q => ∃ v r,vs = v :: r ∧ t v σ H fun σ' H' => u r σ' H' Q
theorem pgs_nil:PGs X [] gNil:=by
  intro pins s σ H vs us Q I r h
  obtain ⟨e,h⟩:=h
  subst e
  cases r
  exact assignInOrder_nil ⟨σ,H,I,h⟩
theorem pgs_cons {e:Expr} {es:List Expr} {t:TG} {u:TGs} (h1:PG X e t) (h2:PGs X es u)
    (hs:(assignEach (e :: es) X.env).map (·.2) = assign e X.env :: (assignEach es X.env).map (·.2):=by rfl):PGs X (e :: es) (gCons t u):=by
  intro pins s σ H vs us Q I r h
  obtain ⟨v,vr,e1,h⟩:=h
  subst e1
  cases r with
  | cons r rr =>
    rw [hs]
    refine assignInOrder_cons (thn (h1 pins s σ H _ _ _ I r h) fun _ s1 ⟨σ1,H1,I1,q1⟩ => ?_)
    exact h2 pins s1 σ1 H1 _ _ Q I1 rr q1
noncomputable def gTup (K:PySem.W.Frag) (n:Nat) (t:TGs):TG:=fun v σ H Q => ∃ a xs,v = .ref a ∧ SqT K H a xs ∧ xs.length = n ∧ t xs σ H Q
theorem pg_tup {es:List Expr} {k:Nat} {t:TGs} {n:Nat} (hc:X.calm = true) (h:PGs X es t)
    (hn:(assignEach es X.env).length = n:=by rfl) (hst:(assignEach es X.env).findIdx? (·.1) = none:=by rfl):PG X (.Tuple es k pos) (gTup X.K n t):=by
  intro pins s σ H v u Q I r hw
  obtain ⟨a,xs,e1,hq,hl,hw⟩:=hw
  subst e1
  cases r
  obtain ⟨its,rv,ht,hz⟩:=I.tuple hq
  refine assign_Tuple_tuple (I.ok.hd hc) ht (by simp [hn,← hl,rv.length]) hst fun h' hx => ?_
  have I1:Inv X pins σ H { s with heap:=h' }:=I.kept (t':=s.toks) fun b o e => hx b o (Nat.ne_of_lt (Heap.lt_size e)) e
  exact h pins _ σ H xs _ Q I1 (by simpa using rv) hw
noncomputable def gSub (to ti:TE) (t:TSet):TG:=fun v σ H Q => to σ H fun o H1 => ti σ H1 fun i H2 => t o i v H2 fun H3 => Q σ H3
theorem pg_sub {o i:Expr} {to ti:TE} {t:TSet} (ho:PE X o to) (hi:PE X i ti) (hs:PSet X t)
    (ha:∀ v,assign (.Subscript o i pos) X.env v = (do
      let ov ← holding [v] (eval o X.env)
      let iv ← holding [v,ov] (eval i X.env)
      standAt pos
      holding [v,ov,iv] (setItem ov iv v)
      release [v,ov,iv] []):=by intro _; rfl):PG X (.Subscript o i pos) (gSub to ti t):=by
  intro pins s σ H v u Q I r h
  rw [ha]
  refine wpAny_bind (wpAny_holding (thn (ho pins s σ H _ I h) fun ov s1 ⟨x,H1,I1,r1,q1⟩ => ?_))
  refine wpAny_bind (wpAny_holding (thn (hi pins s1 σ H1 _ I1 q1) fun iv s2 ⟨y,H2,I2,r2,q2⟩ => ?_))
  refine wpAny_bind (wpAny_standAt (wpAny_bind (wpAny_holding (thn (hs pins s2 σ H2 x y v ov iv u _ I2 r1 r2 r q2) fun _ s3 ⟨H3,I3,q3⟩ => ?_))))
  exact wpAny_release ⟨σ,H3,I3,q3⟩
noncomputable def tAsg (te:TE) (g:TG):TS:=fun D σ H => te σ H fun x H1 => g x σ H1 D.nx
theorem ps_asg {tg e:Expr} {te:TE} {g:TG} (he:PE X e te) (hg:PG X tg g) (hs:swapsWithSole [tg] e pos.line X.env = pure false:=by rfl) (hw:swappedStores [tg] e X.env = pure none:=by rfl)
    (h1:(assignEach [tg] X.env).map (·.2) = [assign tg X.env]:=by rfl):PS X (.Assign [tg] e pos) (tAsg te g):=by
  intro pins s σ H D I h
  refine wpAny_Assign_stores (thn (he pins s σ H _ I h) fun v s1 ⟨x,H1,I1,r1,q1⟩ => ?_) hs hw
  rw [h1]
  exact thn (hg pins s1 σ H1 x v _ I1 r1 q1) fun _ s2 q => q
theorem ps_set {i:Nat} {x:Str} {e:Expr} {te:TE} {pos':Pos} (hN:X.nd) (hi:X.N[i]? = some x) (hx:Loc X.env.scope x) (he:PE X e te) (hs:swapsWith e (some (.Name x pos')) pos.line X.env = pure false:=by rfl) (hf:X.fn x = true ∨ X.env.scope.names.lookup x = some .local:=by first | exact .inl rfl | exact .inr rfl | assumption) :
    PS X (.Assign [.Name x pos'] e pos) (tAsg te (gName i)):=by
  intro pins s σ H D I h
  refine wpAny_Assign_Name (thn (he pins s σ H _ I h) fun v s1 ⟨y,H1,I1,r1,q1⟩ => ?_) hs
  exact store_ok I1 hN hi hx r1 (fun s2 I2 => ⟨_,H1,I2,q1⟩) hf
end
section
variable {X:Cx} {pos:Pos}
end
structure It where
  go:Nat → Hp → Prop
  yld:Nat → Hp → V → Hp → Prop
  stop:Nat → Hp → Prop
noncomputable def FpOk (X:Cx) (pins:List (Addr × Obj)) (H:Hp) (b:Addr):Prop :=
  H b = none ∧ b ≠ X.env.locals ∧ b ∉ X.fs ∧ (b ∈ X.ex ∨ X.s₀.heap.objs.size ≤ b) ∧ (∀ x c,X.env.cells.lookup x = some c → c ≠ b) ∧ ∀ p ∈ X.pn ++ pins,p.1 ≠ b
theorem Inv.fpOk {X:Cx} {pins:List (Addr × Obj)} {σ:St} {H H':Hp} {s:Shared} {b:Addr} (I:Inv X pins σ H s) (hb:s.heap.objs.size ≤ b) (hn:H' b = none):FpOk X pins H' b:=by
  refine ⟨hn,Nat.ne_of_gt (Nat.lt_of_lt_of_le I.lt hb),I.nofs hb,.inr (Nat.le_trans I.sz hb),fun x c e z => ?_,fun p hp z => ?_⟩
  · obtain ⟨v,q⟩:=I.cell x c e
    exact absurd (Nat.lt_of_lt_of_le q.lt (by rw [z]; exact hb)) (Nat.lt_irrefl _)
  · exact absurd (Nat.lt_of_lt_of_le (Heap.lt_size (I.pin p hp).1) (by rw [z]; exact hb)) (Nat.lt_irrefl _)
structure Turn (P:Program) (w:World) (K:PySem.W.Frag) (tg:Expr) (J:It) (fp:List Addr) (it:Addr) (tn:Nat → Heap → Prop):Prop where
  mem:it ∈ fp
  obj:∀ i h,tn i h → ∀ b ∈ fp,∃ o,h.get? b = some o ∧ ∀ v,o.data ≠ .cell v
  keep:∀ i h h',tn i h → (∀ b ∈ fp,∀ o,h.get? b = some o → h'.get? b = some o) → tn i h'
  item:∀ (X:Cx),X.prog = P → X.w = w → X.K = K → X.calm = true → ∀ (i:Nat) (pins:List (Addr × Obj)) (s:Shared) (σ:St) (H:Hp) (E:Value → Shared → Prop),Inv X pins σ H s → (∀ b ∈ fp,FpOk X pins H b) → tn i s.heap → J.go i H →
    wpAny (model P w) X.A (pyNext (.ref it)) (fun r s1 => ∃ u,r = some u ∧
      wpAny (model P w) X.A (letOwnedTupleGo tg (.ref it) u) (fun _ s2 => ∃ x H',Inv X pins σ H' s2 ∧ RelV x u ∧ J.yld i H x H' ∧ tn (i + 1) s2.heap ∧ ∀ b ∈ fp,H' b = none) E s1) E s
  done:∀ (X:Cx),X.prog = P → X.w = w → X.K = K → X.calm = true → ∀ (i:Nat) (pins:List (Addr × Obj)) (s:Shared) (σ:St) (H:Hp) (E:Value → Shared → Prop),Inv X pins σ H s → (∀ b ∈ fp,FpOk X pins H b) → tn i s.heap → J.stop i H →
    wpAny (model P w) X.A (pyNext (.ref it)) (fun r s1 => r = none ∧ Inv X pins σ H s1) E s
  self:∀ (A:Around) (i:Nat) (s:Shared) (Q:Value → Shared → Prop) (E:Value → Shared → Prop),tn i s.heap → Q (.ref it) s → wpAny (model P w) A (pyIter (.ref it)) Q E s
noncomputable abbrev TI:=St → Hp → (It → Hp → Prop) → Prop
noncomputable def PIE (X:Cx) (pins:List (Addr × Obj)) (σ:St) (tg:Expr) (R:It → Hp → Prop) (itv:Value) (s2:Shared):Prop :=
  ∃ (it:Addr) (fp:List Addr) (tn:Nat → Heap → Prop) (J:It) (H':Hp),itv = .ref it ∧ Inv X pins σ H' s2 ∧ Turn X.prog X.w X.K tg J fp it tn ∧ tn 0 s2.heap ∧ (∀ b ∈ fp,FpOk X pins H' b) ∧ R J H'
noncomputable def PI (X:Cx) (tg iter:Expr) (wi:TI):Prop :=
  ∀ (pins:List (Addr × Obj)) (s:Shared) (σ:St) (H:Hp) (R:It → Hp → Prop),Inv X pins σ H s → wi σ H R →
    wpAny (model X.prog X.w) X.A (eval iter X.env) (fun v s1 => wpAny (model X.prog X.w) X.A (pyIter v) (PIE X pins σ tg R) X.xe s1) X.xe s
theorem go_of {M:Model} {A:Around} {E:Value → Shared → Prop} {s:Shared} {tg:Expr} {it:Addr} {u:Value} {o:Obj} {n:String} {vs:Array Value} {Q:Unit → Shared → Prop} (ho:s.heap.get? it = some o) (hc:o.cls = .type n) (hd:o.data = .fields vs)
    (hn:["enumerate","zip","dict_itemiterator","dict_reverseitemiterator","odict_iterator","itertools.zip_longest","itertools.pairwise"].contains n = false) (hQ:Q () s):wpAny M A (letOwnedTupleGo tg (.ref it) u) Q E s:=by
  unfold letOwnedTupleGo
  cases tg <;> first
    | exact wpAny_pure hQ
    | (cases u <;> first
        | exact wpAny_pure hQ
        | (refine wpAny_bind (wpAny_load ho ?_)
           rw [hc,hd]
           show wpAny M A (if (["enumerate","zip","dict_itemiterator","dict_reverseitemiterator","odict_iterator","itertools.zip_longest","itertools.pairwise"].contains n && vs[0]? == some (rawInt _)) = true then _ else _) Q E s
           rw [if_neg (by intro h; rw [hn,Bool.false_and] at h; cases h)]
           exact wpAny_pure hQ))
noncomputable def Itl (K:PySem.W.Frag) (a:Addr):It :=
  ⟨fun i H => ∃ xs x,SqL K H a xs ∧ xs[i]? = some x,fun i H x H' => H' = H ∧ ∀ xs,SqL K H a xs → xs[i]? = some x,fun i H => ∃ xs,SqL K H a xs ∧ xs.length ≤ i⟩
noncomputable def Itt (K:PySem.W.Frag) (a:Addr):It :=
  ⟨fun i H => ∃ xs x,SqT K H a xs ∧ xs[i]? = some x,fun i H x H' => H' = H ∧ ∀ xs,SqT K H a xs → xs[i]? = some x,fun i H => ∃ xs,SqT K H a xs ∧ xs.length ≤ i⟩
noncomputable def Itr (lo:Int) (n:Nat):It:=⟨fun i _ => i < n,fun i H x H' => H' = H ∧ x = .int (lo + i),fun i _ => n ≤ i⟩
theorem turn_list {P:Program} {w:World} {K:PySem.W.Frag} {tg:Expr} (a it:Addr):Turn P w K tg (Itl K a) [it] it (fun i h => h.IsListIter it a i) where
  mem:=by simp
  obj:=fun i h st b hb => by
    have e:b = it:=by simpa using hb
    subst e
    obtain ⟨o,e,c,d⟩:=st
    exact ⟨o,e,fun v z => by rw [d] at z; cases z⟩
  keep:=fun i h h' st k => st.at fun o e => k it (by simp) o e
  item:=by
    intro X hP hw hK hc i pins s σ H E I hf st hg
    subst hP hw hK
    obtain ⟨xs,x,hq,hx⟩:=hg
    obtain ⟨its,rv,p,hz⟩:=I.list hq
    obtain ⟨u,hu,ru⟩:=rv.get hx
    obtain ⟨f0,f1,f2,f3,f4,f5⟩:=hf it (by simp)
    refine wpAny_pyNext_list_item st p.isList (x:=u) (by simpa using hu) fun h' st' sb => ?_
    have I1:Inv X pins σ H { s with heap:=h' }:=I.turned (t':=s.toks) (fun b o hb e => (sb.2 b hb).trans e) f0 f1 f3 f4 f5
    obtain ⟨o,e,c,d⟩:=id st'
    exact ⟨u,rfl,go_of (s:={ s with heap:=h' }) e c d (by decide) ⟨x,H,I1,ru,⟨rfl,fun ys hy => by rw [I.list_inj hy hq]; exact hx⟩,st',fun b hb => (hf b hb).1⟩⟩
  done:=by
    intro X hP hw hK hc i pins s σ H E I hf st hg
    subst hP hw hK
    obtain ⟨xs,hq,hx⟩:=hg
    obtain ⟨its,rv,p,hz⟩:=I.list hq
    obtain ⟨f0,f1,f2,f3,f4,f5⟩:=hf it (by simp)
    have hl:=rv.length
    exact wpAny_pyNext_list_end (I.ok.hd hc) st p.isList (by simp; omega) fun h' eb => ⟨rfl,I.turned (t':=s.toks) (fun b o hb e => eb b o hb e) f0 f1 f3 f4 f5⟩
  self:=fun _ _ _ _ _ st h => wpAny_pyIter_listiter st h
theorem turn_tuple {P:Program} {w:World} {K:PySem.W.Frag} {tg:Expr} (a it:Addr):Turn P w K tg (Itt K a) [it] it (fun i h => h.IsTupleIter it a i) where
  mem:=by simp
  obj:=fun i h st b hb => by
    have e:b = it:=by simpa using hb
    subst e
    obtain ⟨o,e,c,d⟩:=st
    exact ⟨o,e,fun v z => by rw [d] at z; cases z⟩
  keep:=fun i h h' st k => st.at fun o e => k it (by simp) o e
  item:=by
    intro X hP hw hK hc i pins s σ H E I hf st hg
    subst hP hw hK
    obtain ⟨xs,x,hq,hx⟩:=hg
    obtain ⟨its,rv,p,hz⟩:=I.tuple hq
    obtain ⟨u,hu,ru⟩:=rv.get hx
    obtain ⟨f0,f1,f2,f3,f4,f5⟩:=hf it (by simp)
    refine wpAny_pyNext_tuple_item st (show s.heap.IsTuple a its.toArray from p) (x:=u) (by simpa using hu) fun h' st' sb => ?_
    have I1:Inv X pins σ H { s with heap:=h' }:=I.turned (t':=s.toks) (fun b o hb e => (sb.2 b hb).trans e) f0 f1 f3 f4 f5
    obtain ⟨o,e,c,d⟩:=id st'
    exact ⟨u,rfl,go_of (s:={ s with heap:=h' }) e c d (by decide) ⟨x,H,I1,ru,⟨rfl,fun ys hy => by rw [I.tuple_inj hy hq]; exact hx⟩,st',fun b hb => (hf b hb).1⟩⟩
  done:=by
    intro X hP hw hK hc i pins s σ H E I hf st hg
    subst hP hw hK
    obtain ⟨xs,hq,hx⟩:=hg
    obtain ⟨its,rv,p,hz⟩:=I.tuple hq
    obtain ⟨f0,f1,f2,f3,f4,f5⟩:=hf it (by simp)
    have hl:=rv.length
    exact wpAny_pyNext_tuple_end (I.ok.hd hc) st (show s.heap.IsTuple a its.toArray from p) (by simp; omega) fun h' eb => ⟨rfl,I.turned (t':=s.toks) (fun b o hb e => eb b o hb e) f0 f1 f3 f4 f5⟩
  self:=fun _ _ _ _ _ st h => wpAny_pyIter_tupleiter st h
theorem turn_range {P:Program} {w:World} {K:PySem.W.Frag} {tg:Expr} (it:Addr) (lo:Int) (n:Nat):Turn P w K tg (Itr lo n) [it] it (fun i h => IsRangeIter h it (lo + (i:Nat) * 1) ((n:Int) - (i:Nat)) 1) where
  mem:=by simp
  obj:=fun i h st b hb => by
    have e:b = it:=by simpa using hb
    subst e
    exact ⟨_,st,fun v z => by
      have z':Data.fields _ = Data.cell v:=z
      cases z'⟩
  keep:=fun i h h' st k => k it (by simp) _ st
  item:=by
    intro X hP hw hK hc i pins s σ H E I hf st hg
    subst hP hw hK
    obtain ⟨f0,f1,f2,f3,f4,f5⟩:=hf it (by simp)
    have W:=Walks.range (prog:=X.prog) (w:=X.w) (I.ok.hd hc) it lo 1 n
    refine W.item i s _ _ hg st fun v h' tk hv st' kk => ?_
    obtain ⟨t,rfl⟩:=hv
    have I1:Inv X pins σ H { s with heap:=h',toks:=tk }:=I.turned (fun b o hb e => kk b o (by simpa using hb) e) f0 f1 f3 f4 f5
    refine ⟨_,rfl,go_of (s:={ s with heap:=h',toks:=tk }) (n:="range_iterator") st' rfl rfl (by decide) ⟨.int (lo + i),H,I1,⟨t,?_⟩,⟨rfl,rfl⟩,st',fun b hb => (hf b hb).1⟩⟩
    rw [Int.mul_one]
  done:=by
    intro X hP hw hK hc i pins s σ H E I hf st hg
    subst hP hw hK
    obtain ⟨f0,f1,f2,f3,f4,f5⟩:=hf it (by simp)
    exact wpAny_pyNext_range_end (I.ok.hd hc) st (by have:n ≤ i:=hg; omega) fun h' eb => ⟨rfl,I.turned (t':=s.toks) (fun b o hb e => eb b o hb e) f0 f1 f3 f4 f5⟩
  self:=fun _ _ _ _ _ st h => wpAny_pyIter_rangeiter st h
end L2
namespace L2
open PySem PySem.Spec PyProof.Rows
section
variable {X:Cx} {tg:Expr}
noncomputable def iList (K:PySem.W.Frag) (tl:TE):TI:=fun σ H R => tl σ H fun x H1 => ∃ a,x = .ref a ∧ (∃ xs,SqL K H1 a xs) ∧ R (Itl K a) H1
noncomputable def iTup (K:PySem.W.Frag) (tl:TE):TI:=fun σ H R => tl σ H fun x H1 => ∃ a,x = .ref a ∧ (∃ xs,SqT K H1 a xs) ∧ R (Itt K a) H1
theorem pi_list {l:Expr} {tl:TE} (hl:PE X l tl):PI X tg l (iList X.K tl):=by
  intro pins s σ H R I h
  refine thn (hl pins s σ H _ I h) fun v s1 ⟨x,H1,I1,r1,q1⟩ => ?_
  obtain ⟨a,e,⟨xs,hq⟩,q⟩:=q1
  subst e
  cases r1
  obtain ⟨its,rv,p,hz⟩:=I1.list hq
  refine wpAny_pyIter_list p.isList ?_
  refine ⟨s1.heap.objs.size,[s1.heap.objs.size],_,_,H1,rfl,I1.kept (t':=s1.toks) fun b o e => Heap.get?_push_of_some _ e,turn_list a _,⟨_,Heap.get?_push_size _ rfl,rfl,rfl⟩,fun b hb => ?_,q⟩
  have e:b = s1.heap.objs.size:=by simpa using hb
  subst e
  exact I1.fpOk (Nat.le_refl _) (I1.hok.fresh (Nat.le_refl _))
theorem pi_tup {l:Expr} {tl:TE} (hl:PE X l tl):PI X tg l (iTup X.K tl):=by
  intro pins s σ H R I h
  refine thn (hl pins s σ H _ I h) fun v s1 ⟨x,H1,I1,r1,q1⟩ => ?_
  obtain ⟨a,e,⟨xs,hq⟩,q⟩:=q1
  subst e
  cases r1
  obtain ⟨its,rv,p,hz⟩:=I1.tuple hq
  refine wpAny_pyIter_tuple (show s1.heap.IsTuple a its.toArray from p) ?_
  refine ⟨s1.heap.objs.size,[s1.heap.objs.size],_,_,H1,rfl,I1.kept (t':=s1.toks) fun b o e => Heap.get?_push_of_some _ e,turn_tuple a _,⟨_,Heap.get?_push_size _ rfl,rfl,rfl⟩,fun b hb => ?_,q⟩
  have e:b = s1.heap.objs.size:=by simpa using hb
  subst e
  exact I1.fpOk (Nat.le_refl _) (I1.hok.fresh (Nat.le_refl _))
theorem range_it {pins:List (Addr × Obj)} {σ:St} {H:Hp} {s:Shared} {R:It → Hp → Prop} {E:Value → Shared → Prop} {lo hi:Int} {t u v:Tok} {tk:Nat} (I:Inv X pins σ H s) (h1:-(2 ^ 62) ≤ lo) (h2:lo < 2 ^ 62) (h3:-(2 ^ 62) ≤ hi) (h4:hi < 2 ^ 62)
    (q:R (Itr lo (hi - lo).toNat) H):wpAny (model X.prog X.w) X.A (pyIter (.ref s.heap.objs.size)) (PIE X pins σ tg R) E { s with heap:=s.heap.push { cls:=.type "range",data:=.fields #[.int lo t,.int hi u,.int 1 v] },toks:=tk }:=by
  refine wpAny_pyIter_range (IsRange.new ..) (small_one h1 h2 h3 h4) ?_
  have I1:Inv X pins σ H { s with heap:=s.heap.push { cls:=.type "range",data:=.fields #[.int lo t,.int hi u,.int 1 v] },toks:=tk }:=I.kept fun b o e => Heap.get?_push_of_some _ e
  refine ⟨(s.heap.push { cls:=.type "range",data:=.fields #[.int lo t,.int hi u,.int 1 v] }).objs.size,[(s.heap.push { cls:=.type "range",data:=.fields #[.int lo t,.int hi u,.int 1 v] }).objs.size],_,_,H,rfl,
    I1.kept (t':=tk) fun b o e => Heap.get?_push_of_some _ e,turn_range _ lo (hi - lo).toNat,?_,fun b hb => ?_,q⟩
  · have e1:lo + ((0:Nat):Int) * 1 = lo:=by simp
    have e2:(((hi - lo).toNat:Nat):Int) - ((0:Nat):Int) = Builtin.Range.rangeSize lo hi 1:=by rw [rangeSize_one]; split <;> omega
    show IsRangeIter _ _ (lo + ((0:Nat):Int) * 1) ((((hi - lo).toNat:Nat):Int) - ((0:Nat):Int)) 1
    rw [e1,e2]
    exact Heap.get?_push_size _ rfl
  · have e:b = (s.heap.push { cls:=.type "range",data:=.fields #[.int lo t,.int hi u,.int 1 v] }).objs.size:=by simpa using hb
    subst e
    exact I1.fpOk (Nat.le_refl _) (I1.hok.fresh (Nat.le_refl _))
noncomputable def iRng1 (ta:TA):TI:=fun σ H R => ta σ H fun vs H1 => ∃ j:Int,vs = [.int j] ∧ -(2 ^ 62) ≤ j ∧ j < 2 ^ 62 ∧ R (Itr 0 j.toNat) H1
theorem pi_range1 {a:Expr} {ta:TA} {p pos:Pos} (hg:Gl X "range") (hm:X.mg "range" = none) (ha:PA X [a] ta) (hs:starEach [a] X.env = [(false,eval a X.env)]:=by rfl):PI X tg (.Call (.Name "range" p) [a] [] pos) (iRng1 ta):=by
  intro pins s σ H R I h
  refine Call_ (ld_blt I hg hm boot_range (PyProof.Rows.callWith_type1 (thn (ha pos pins s σ H _ I h) fun us s1 ⟨vs,H1,I1,r1,q1⟩ => ?_) hs rfl))
  obtain ⟨j,e,q1,q2,q⟩:=q1
  subst e
  cases r1 with
  | cons r rr =>
    cases rr
    obtain ⟨t,rfl⟩:=r
    exact call_range_1 (range_it I1 (by omega) (by omega) q1 q2 (by simpa using q))
noncomputable def pinsAt (fp:List Addr) (h:Heap):List (Addr × Obj):=fp.filterMap fun b => (h.get? b).map fun o => (b,o)
theorem mem_pinsAt {fp:List Addr} {h:Heap} {b:Addr} {o:Obj} (hb:b ∈ fp) (e:h.get? b = some o):(b,o) ∈ pinsAt fp h:=List.mem_filterMap.mpr ⟨b,hb,by rw [e]; rfl⟩
theorem of_pinsAt {fp:List Addr} {h:Heap} {p:Addr × Obj} (hp:p ∈ pinsAt fp h):p.1 ∈ fp ∧ h.get? p.1 = some p.2:=by
  obtain ⟨b,hb,e⟩:=List.mem_filterMap.mp hp
  cases q:h.get? b with
  | none => rw [q] at e; cases e
  | some o =>
    rw [q] at e
    have e':(b,o) = p:=Option.some.inj e
    subst e'
    exact ⟨hb,q⟩
theorem Inv.pinned {pins:List (Addr × Obj)} {σ:St} {H:Hp} {s:Shared} {fp:List Addr} (I:Inv X pins σ H s) (hf:∀ b ∈ fp,FpOk X pins H b) (ho:∀ b ∈ fp,∃ o,s.heap.get? b = some o ∧ ∀ v,o.data ≠ .cell v):Inv X (pins ++ pinsAt fp s.heap) σ H s :=
  I.pins_of fun p hp => (List.mem_append.mp hp).elim (fun z => I.pin p (List.mem_append_right _ z)) fun z => by
    obtain ⟨hb,e⟩:=of_pinsAt z
    obtain ⟨f0,f1,f2,_⟩:=hf p.1 hb
    obtain ⟨o,e',d⟩:=ho p.1 hb
    rw [e] at e'; cases e'
    exact ⟨e,f0,f1,f2,d⟩
theorem Inv.unpinned {pins pl:List (Addr × Obj)} {σ:St} {H:Hp} {s:Shared} (I:Inv X (pins ++ pl) σ H s):Inv X pins σ H s:=I.pins_of fun p hp => I.pin p (List.mem_append_right _ (List.mem_append_left _ hp))
end
end L2
namespace L2
open PySem PySem.Spec PyProof.Rows
noncomputable abbrev R2:=V → V → Hp → VK → Prop
noncomputable def OpR (X:Cx) (f:Value → Value → Sem Value) (r:R2):Prop :=
  ∀ (pins:List (Addr × Obj)) (s:Shared) (σ:St) (H:Hp) (x y:V) (v u:Value) (Q:VK),Inv X pins σ H s → RelV x v → RelV y u → r x y H Q →
    wpAny (model X.prog X.w) X.A (f v u) (EP X pins σ Q) X.xe s
noncomputable def UnR (X:Cx) (f:Value → Sem Value) (r:V → Hp → VK → Prop):Prop :=
  ∀ (pins:List (Addr × Obj)) (s:Shared) (σ:St) (H:Hp) (x:V) (v:Value) (Q:VK),Inv X pins σ H s → RelV x v → r x H Q →
    wpAny (model X.prog X.w) X.A (f v) (EP X pins σ Q) X.xe s
noncomputable def CallR (X:Cx) (f:Value) (r:List V → Hp → VK → Prop):Prop :=
  ∀ (pins:List (Addr × Obj)) (s:Shared) (σ:St) (H:Hp) (xs:List V) (us:List Value) (Q:VK),Inv X pins σ H s → Vals xs us → r xs H Q →
    wpAny (model X.prog X.w) X.A (call f us) (EP X pins σ Q) X.xe s
noncomputable def TruR (X:Cx) (r:V → Hp → (Bool → Hp → Prop) → Prop):Prop :=
  ∀ (pins:List (Addr × Obj)) (s:Shared) (σ:St) (H:Hp) (x:V) (v:Value) (Q:Bool → Hp → Prop),Inv X pins σ H s → RelV x v → r x H Q →
    wpAny (model X.prog X.w) X.A (truthy v) (TP X pins σ Q) X.xe s
noncomputable def tOp (r:R2) (ta tb:TE):TE:=fun σ H Q => ta σ H fun x H1 => tb σ H1 fun y H2 => r x y H2 Q
noncomputable def tUn (r:V → Hp → VK → Prop) (ta:TE):TE:=fun σ H Q => ta σ H fun x H1 => r x H1 Q
noncomputable def rI (C:Int → Int → Prop) (g:Int → Int → V):R2:=fun x y H Q => ∃ i j,x = .int i ∧ y = .int j ∧ C i j ∧ Q (g i j) H
noncomputable def rI0 (g:Int → Int → V):R2:=fun x y H Q => ∃ i j,x = .int i ∧ y = .int j ∧ Q (g i j) H
noncomputable def rU (g:Int → V):V → Hp → VK → Prop:=fun x H Q => ∃ i,x = .int i ∧ Q (g i) H
section
variable {X:Cx} {a b c:Expr} {ta tb tc:TE} {pos:Pos}
theorem binT (ha:PE X a ta) (hb:PE X b tb) {pins:List (Addr × Obj)} {s:Shared} {σ:St} {H:Hp} {R:V → V → Hp → Prop} (I:Inv X pins σ H s)
    (h:ta σ H fun x H1 => tb σ H1 fun y H2 => R x y H2) {Q:Value → Shared → Prop} {f:Value → Value → Sem Value}
    (hf:∀ v u s2 x y H2,Inv X pins σ H2 s2 → RelV x v → RelV y u → R x y H2 → wpAny (model X.prog X.w) X.A (f v u) Q X.xe s2) :
    wpAny (model X.prog X.w) X.A (eval a X.env) (fun v s₁ => wpAny (model X.prog X.w) X.A (eval b X.env) (fun u s₂ => wpAny (model X.prog X.w) X.A (f v u) Q X.xe s₂) X.xe s₁) X.xe s:=by
  refine thn (ha pins s σ H _ I h) fun v s1 ⟨x,H1,I1,r1,q1⟩ => ?_
  refine thn (hb pins s1 σ H1 _ I1 q1) fun u s2 ⟨y,H2,I2,r2,q2⟩ => ?_
  exact hf v u s2 x y H2 I2 r1 r2 q2
theorem pe_op {op:Operator} {r:R2} (ho:OpR X (binaryOp op) r) (ha:PE X a ta) (hb:PE X b tb):PE X (.BinOp a op b pos) (tOp r ta tb):=by
  intro pins s σ H Q I h
  exact wpAny_BinOp (binT ha hb I h fun v u s2 x y H2 I2 rx ry q => ho pins s2 σ H2 x y v u Q I2 rx ry q)
theorem pe_un {op:UnaryOp} {r:V → Hp → VK → Prop} (ho:UnR X (unaryOp op) r) (ha:PE X a ta):PE X (.UnaryOp op a pos) (tUn r ta):=by
  intro pins s σ H Q I h
  exact UnaryOp_ (thn (ha pins s σ H _ I h) fun v s1 ⟨x,H1,I1,r1,q1⟩ => ho pins s1 σ H1 x v Q I1 r1 q1)
theorem opI {f:Value → Value → Sem Value} {C:Int → Int → Prop} {g:Int → Int → Int}
    (rule:∀ (i j:Int) (t u:Tok) (s:Shared) (Q:Value → Shared → Prop) (E:Value → Shared → Prop),C i j → Q (.int (g i j) s.toks) { s with toks:=s.toks + 1 } → wpAny (model X.prog X.w) X.A (f (.int i t) (.int j u)) Q E s) :
    OpR X f (rI C fun i j => .int (g i j)):=by
  intro pins s σ H x y v u Q I rx ry h
  obtain ⟨i,j,rfl,rfl,hc,q⟩:=h
  obtain ⟨t,rfl⟩:=rx
  obtain ⟨t',rfl⟩:=ry
  exact rule i j t t' s _ _ hc ⟨.int (g i j),H,I.tok _,⟨_,rfl⟩,q⟩
theorem opI0 {f:Value → Value → Sem Value} {g:Int → Int → Int}
    (rule:∀ (i j:Int) (t u:Tok) (s:Shared) (Q:Value → Shared → Prop) (E:Value → Shared → Prop),Q (.int (g i j) s.toks) { s with toks:=s.toks + 1 } → wpAny (model X.prog X.w) X.A (f (.int i t) (.int j u)) Q E s) :
    OpR X f (rI0 fun i j => .int (g i j)):=by
  intro pins s σ H x y v u Q I rx ry h
  obtain ⟨i,j,rfl,rfl,q⟩:=h
  obtain ⟨t,rfl⟩:=rx
  obtain ⟨t',rfl⟩:=ry
  exact rule i j t t' s _ _ ⟨.int (g i j),H,I.tok _,⟨_,rfl⟩,q⟩
theorem opB0 {f:Value → Value → Sem Value} {g:Int → Int → Bool}
    (rule:∀ (i j:Int) (t u:Tok) (s:Shared) (Q:Value → Shared → Prop) (E:Value → Shared → Prop),Q (.bool (g i j)) s → wpAny (model X.prog X.w) X.A (f (.int i t) (.int j u)) Q E s) :
    OpR X f (rI0 fun i j => .bl (g i j)):=by
  intro pins s σ H x y v u Q I rx ry h
  obtain ⟨i,j,rfl,rfl,q⟩:=h
  obtain ⟨t,rfl⟩:=rx
  obtain ⟨t',rfl⟩:=ry
  exact rule i j t t' s _ _ ⟨.bl (g i j),H,I,rfl,q⟩
noncomputable def CPow (i j:Int):Prop:=0 ≤ j ∧ j ≤ 1000000 ∧ i.natAbs < 2 ^ 64
noncomputable def CMul (i j:Int):Prop:=(-(2 ^ 64) < i ∧ i < 2 ^ 64) ∨ (-(2 ^ 64) < j ∧ j < 2 ^ 64)
theorem CMul.ok {i j:Int} (h:CMul i j):IntMulOk i j:=by
  rcases h with ⟨h1,h2⟩ | ⟨h1,h2⟩
  · exact .of_left (intBits_le_64 h1 h2)
  · exact .of_right (intBits_le_64 h1 h2)
theorem op_add:OpR X (binaryOp .Add) (rI0 fun i j => .int (i + j)):=opI0 fun _ _ _ _ _ _ _ q => add_int q
theorem op_sub:OpR X (binaryOp .Sub) (rI0 fun i j => .int (i - j)):=opI0 fun _ _ _ _ _ _ _ q => sub_int q
theorem op_mul:OpR X (binaryOp .Mult) (rI CMul fun i j => .int (i * j)):=opI fun _ _ _ _ _ _ _ hc q => mul_int q hc.ok
theorem op_mod:OpR X (binaryOp .Mod) (rI (fun _ j => 0 < j) fun i j => .int (i % j)):=opI fun i j _ _ _ _ _ hc q => by
  have h1:(0:Int) < j:=hc
  exact mod_int' (by omega) (by rw [Int.fmod_eq_emod_of_nonneg i (by omega)]; exact q)
theorem unI {f:Value → Sem Value} {g:Int → Int}
    (rule:∀ (i:Int) (t:Tok) (s:Shared) (Q:Value → Shared → Prop) (E:Value → Shared → Prop),Q (.int (g i) s.toks) { s with toks:=s.toks + 1 } → wpAny (model X.prog X.w) X.A (f (.int i t)) Q E s) :
    UnR X f (rU fun i => .int (g i)):=by
  intro pins s σ H x v Q I rx h
  obtain ⟨i,rfl,q⟩:=h
  obtain ⟨t,rfl⟩:=rx
  exact rule i t s _ _ ⟨.int (g i),H,I.tok _,⟨_,rfl⟩,q⟩
theorem un_neg:UnR X (unaryOp .USub) (rU fun i => .int (-i)):=unI fun _ _ _ _ _ q => neg_int q
end
section
variable {X:Cx} {a b c:Expr} {ta tb tc:TE} {pos:Pos}
theorem op_lt:OpR X (compareOp .Lt) (rI0 fun i j => .bl (decide (i < j))):=opB0 fun _ _ _ _ _ _ _ q => lt_int q
theorem op_le:OpR X (compareOp .LtE) (rI0 fun i j => .bl (decide (i ≤ j))):=opB0 fun _ _ _ _ _ _ _ q => le_int q
theorem op_gt:OpR X (compareOp .Gt) (rI0 fun i j => .bl (decide (j < i))):=opB0 fun _ _ _ _ _ _ _ q => gt_int q
theorem OpR.or {f:Value → Value → Sem Value} {r r':R2} (h:OpR X f r) (h':OpR X f r'):OpR X f (fun x y H Q => r x y H Q ∨ r' x y H Q):=by
  intro pins s σ H x y v u Q I rx ry q
  rcases q with q | q
  · exact h pins s σ H x y v u Q I rx ry q
  · exact h' pins s σ H x y v u Q I rx ry q
theorem nomark (b:Expr) {op:CmpOp} (h:op ≠ .In:=by decide) (h2:op ≠ .NotIn:=by decide):behindInMarks op b = false:=by
  have e1:(op == CmpOp.In) = false:=by cases op <;> first | rfl | exact absurd rfl h
  have e2:(op == CmpOp.NotIn) = false:=by cases op <;> first | rfl | exact absurd rfl h2
  cases b <;> simp [behindInMarks,e1,e2]
theorem pe_cmpR {op:CmpOp} {r:R2} (ho:OpR X (compareOp op) r) (ha:PE X a ta) (hb:PE X b tb) (hm:behindInMarks op b = false):PE X (.Compare a [op] [b] pos) (tOp r ta tb):=by
  intro pins s σ H Q I h
  exact wpAny_Compare1 (binT ha hb I h fun v u s2 x y H2 I2 rx ry q => ho pins s2 σ H2 x y v u Q I2 rx ry q) hm
noncomputable def tTest (t:TE):TT:=fun σ H Q => t σ H fun x H' => ∃ k,x = .bl k ∧ Q k H'
theorem pt_cmpR {op:CmpOp} {r:R2} (ho:OpR X (compareOp op) r) (ha:PE X a ta) (hb:PE X b tb) (hm:behindInMarks op b = false):PT X (.Compare a [op] [b] pos) (tTest (tOp r ta tb)):=by
  intro pins s σ H Q I h
  refine wpAny_isTrue_Compare1 (thn (ha pins s σ H _ I h) fun v s1 ⟨x,H1,I1,r1,q1⟩ => thn (hb pins s1 σ H1 _ I1 q1) fun u s2 ⟨y,H2,I2,r2,q2⟩ =>
    thn (ho pins s2 σ H2 x y v u _ I2 r1 r2 q2) fun c s3 ⟨z,H3,I3,r3,k,e,q3⟩ => ?_) hm
  subst e
  cases r3
  exact wpAny_truthy_bool ⟨H3,I3,q3⟩
noncomputable def tChain (r r':R2) (ta tb tc:TE):TE:=fun σ H Q => ta σ H fun x H1 => tb σ H1 fun y H2 => r x y H2 fun z H3 => ∃ k,z = .bl k ∧
  (if k = true then tc σ H3 fun w' H4 => r' y w' H4 Q else Q (.bl false) H3)
theorem pe_chain {op op':CmpOp} {r r':R2} (ho:OpR X (compareOp op) r) (ho':OpR X (compareOp op') r') (ha:PE X a ta) (hb:PE X b tb) (hc:PE X c tc)
    (hm:lastMarks [op,op'] [b,c] = false:=by with_unfolding_all rfl):PE X (.Compare a [op,op'] [b,c] pos) (tChain r r' ta tb tc):=by
  intro pins s σ H Q I h
  refine Compare_chain (thn (ha pins s σ H _ I h) fun v s1 ⟨x,H1,I1,r1,q1⟩ => chain_link (thn (hb pins s1 σ H1 _ I1 q1) fun u s2 ⟨y,H2,I2,r2,q2⟩ =>
    thn (ho pins s2 σ H2 x y v u _ I2 r1 r2 q2) fun d s3 ⟨z,H3,I3,r3,k,e,q3⟩ => ?_)) hm
  subst e
  cases r3
  refine wpAny_truthy_bool ?_
  cases k with
  | false => exact ite_ff ⟨.bl false,H3,I3,rfl,q3⟩
  | true => exact ite_tt (chain_last (thn (hc pins s3 σ H3 _ I3 q3) fun w' s4 ⟨z',H4,I4,r4,q4⟩ => ho' pins s4 σ H4 y z' u w' Q I4 r2 r4 q4))
noncomputable def TruV (K:PySem.W.Frag) (x:V) (H:Hp) (k:Bool):Prop :=
  match x with
  | .non => k = false
  | .bl b => k = b
  | .int i => k = (i != 0)
  | .str y => y.length ≤ sizeLine ∧ k = ((y.length:Int) != 0)
  | .byt y => y.size ≤ sizeLine ∧ k = ((y.size:Int) != 0)
  | .ref p => (∃ xs,SqL K H p xs ∧ k = !xs.isEmpty) ∨ (∃ xs,SqT K H p xs ∧ k = !xs.isEmpty) ∨ ∃ kvs,H p = some (.dK kvs) ∧ k = !kvs.isEmpty
  | _ => False
theorem isEmpty_kv {κ:Type} {kvs:List (κ × V)} {vs:List (κ × Value)} (r:KV kvs vs):(!vs.isEmpty) = !kvs.isEmpty:=by
  cases r <;> rfl
theorem isEmpty_of {xs:List V} {its:List Value} (r:Vals xs its):(!its.toArray.isEmpty) = !xs.isEmpty:=by
  cases r <;> simp
theorem line63:(sizeLine:Nat) < 2 ^ 63:=by rw [sizeLine_eq]; decide
theorem tru_ok:TruR X (fun x H Q => ∃ k,TruV X.K x H k ∧ Q k H):=by
  intro pins s σ H x v Q I rx h
  obtain ⟨k,e,q⟩:=h
  have hl:=line63
  have hs:sizeLine = 16777216:=sizeLine_eq
  cases x with
  | non =>
    cases rx
    have e':k = false:=e
    subst e'
    exact truthy_none ⟨H,I,q⟩
  | bl b =>
    cases rx
    have e':k = b:=e
    subst e'
    exact wpAny_truthy_bool ⟨H,I,q⟩
  | int i =>
    obtain ⟨t,rfl⟩:=rx
    have e':k = (i != 0):=e
    subst e'
    exact PySem.P.truthy_int ⟨H,I,q⟩
  | str y =>
    obtain ⟨t,rfl⟩:=rx
    obtain ⟨hy,e'⟩:y.length ≤ sizeLine ∧ k = ((y.length:Int) != 0):=e
    subst e'
    exact PySem.P.truthy_str (by omega) ⟨H,I.tok _,q⟩
  | byt y =>
    obtain ⟨t,rfl⟩:=rx
    obtain ⟨hy,e'⟩:y.size ≤ sizeLine ∧ k = ((y.size:Int) != 0):=e
    subst e'
    exact PySem.W.truthy_bytes (by omega) ⟨H,I.tok _,q⟩
  | ref p =>
    cases rx
    have e':(∃ xs,SqL X.K H p xs ∧ k = !xs.isEmpty) ∨ (∃ xs,SqT X.K H p xs ∧ k = !xs.isEmpty) ∨ ∃ kvs,H p = some (.dK kvs) ∧ k = !kvs.isEmpty:=e
    rcases e' with ⟨xs,hx,e'⟩ | ⟨xs,hx,e'⟩ | ⟨kvs,hx,e'⟩
    · subst e'
      obtain ⟨its,r,pl,hz⟩:=I.list hx
      have hlen:=r.length
      exact wpAny_truthy_list pl.isList (by simp only [List.size_toArray]; omega) ⟨H,I.tok _,by rw [isEmpty_of r]; exact q⟩
    · subst e'
      obtain ⟨its,r,pl,hz⟩:=I.tuple hx
      have hlen:=r.length
      exact truthy_tuple pl (by simp only [List.size_toArray]; omega) ⟨H,I.tok _,by rw [isEmpty_of r]; exact q⟩
    · subst e'
      obtain ⟨hz,hS,vs,r,m⟩:kvs.length ≤ sizeLine ∧ (p == sysModules) = false ∧ ∃ vs,KV kvs vs ∧ s.heap.DictOf (mixKind X.prog X.w) p vs:=I.hok p _ hx
      have hlen:kvs.length = vs.length:=Paired.length r
      exact wpAny_truthy_dict hS m (by omega) ⟨H,I.tok _,by rw [isEmpty_kv r]; exact q⟩
  | _ => exact (show False from e).elim
theorem pt_truth (ha:PE X a ta) (he:∀ whole,isTrue a X.env whole = (do let v ← whole; standAt a.pos; holding [v] (truthy v))) :
    PT X a (fun σ H Q => ta σ H fun x H' => ∃ k,TruV X.K x H' k ∧ Q k H'):=by
  intro pins s σ H Q I h
  exact isTrue_plain (thn (ha pins s σ H _ I h) fun v s1 ⟨x,H1,I1,r1,q1⟩ => tru_ok pins s1 σ H1 x v Q I1 r1 q1) (he _)
theorem op_add_str:OpR X (binaryOp .Add) (fun x y H Q => ∃ i j,x = .str i ∧ y = .str j ∧ i.length + j.length ≤ sizeLine ∧ Q (.str (i ++ j)) H):=by
  intro pins s σ H x y v u Q I rx ry h
  obtain ⟨i,j,rfl,rfl,hz,q⟩:=h
  obtain ⟨t,rfl⟩:=rx
  obtain ⟨t',rfl⟩:=ry
  exact add_str (fun t' tk => ⟨.str (i ++ j),H,I.tok _,⟨_,rfl⟩,q⟩) hz
theorem vals1 {x:V} {us:List Value} (r:Vals [x] us):∃ u,us = [u] ∧ RelV x u:=by
  cases r with
  | cons r1 r2 => cases r2; exact ⟨_,rfl,r1⟩
theorem vals2 {x y:V} {us:List Value} (r:Vals [x,y] us):∃ u w',us = [u,w'] ∧ RelV x u ∧ RelV y w':=by
  cases r with
  | cons r1 r2 =>
    cases r2 with
    | cons r3 r4 => cases r4; exact ⟨_,_,rfl,r1,r3⟩
theorem call_max2 (hc:X.calm = true):CallR X (.builtin "max") (fun xs H Q => ∃ i j,xs = [.int i,.int j] ∧ Q (.int (if j > i then j else i)) H):=by
  intro pins s σ H xs us Q I r h
  obtain ⟨i,j,rfl,q⟩:=h
  obtain ⟨u,w',rfl,⟨t,rfl⟩,⟨t',rfl⟩⟩:=vals2 r
  refine max_two_ints (I.ok.hd hc) fun h' tk k => ⟨_,H,I.kept k,?_,q⟩
  by_cases hj:j > i
  · rw [if_pos hj,if_pos hj]; exact ⟨_,rfl⟩
  · rw [if_neg hj,if_neg hj]; exact ⟨_,rfl⟩
theorem call_str_int:CallR X (.type "str") (fun xs H Q => ∃ i,xs = [.int i] ∧ i.natAbs.log2 < 1920 ∧ Q (.str (toString i)) H):=by
  intro pins s σ H xs us Q I r h
  obtain ⟨i,rfl,hz,q⟩:=h
  obtain ⟨u,rfl,t,rfl⟩:=vals1 r
  exact PySem.P.str_of_int hz ⟨.str _,H,I.tok _,⟨_,rfl⟩,q⟩
noncomputable def LenV (K:PySem.W.Frag) (x:V) (H:Hp) (n:Nat):Prop :=
  match x with
  | .str y => y.length ≤ sizeLine ∧ n = y.length
  | .byt y => y.size ≤ sizeLine ∧ n = y.size
  | .ref p => (∃ xs,SqL K H p xs ∧ n = xs.length) ∨ ∃ xs,SqT K H p xs ∧ n = xs.length
  | _ => False
theorem call_len:CallR X (.builtin "len") (fun xs H Q => ∃ x n,xs = [x] ∧ LenV X.K x H n ∧ Q (.int n) H):=by
  intro pins s σ H xs us Q I r h
  obtain ⟨x,n,rfl,e,q⟩:=h
  obtain ⟨u,rfl,rx⟩:=vals1 r
  have hl:=line63
  have hs:sizeLine = 16777216:=sizeLine_eq
  cases x with
  | str y =>
    obtain ⟨t,rfl⟩:=rx
    obtain ⟨hy,e'⟩:y.length ≤ sizeLine ∧ n = y.length:=e
    subst e'
    exact len_str (by omega) ⟨.int _,H,I.tok _,⟨_,rfl⟩,q⟩
  | byt y =>
    obtain ⟨t,rfl⟩:=rx
    obtain ⟨hy,e'⟩:y.size ≤ sizeLine ∧ n = y.size:=e
    subst e'
    exact PySem.W.len_bytes (by omega) ⟨.int _,H,I.tok _,⟨_,rfl⟩,q⟩
  | ref p =>
    cases rx
    have e':(∃ xs,SqL X.K H p xs ∧ n = xs.length) ∨ ∃ xs,SqT X.K H p xs ∧ n = xs.length:=e
    rcases e' with ⟨xs,hx,e'⟩ | ⟨xs,hx,e'⟩
    · subst e'
      obtain ⟨its,r',pl,hz⟩:=I.list hx
      have hlen:=r'.length
      exact Calls.call_len_list pl.isList (by simp only [List.size_toArray]; omega) ⟨.int xs.length,H,I.tok _,⟨_,by simp only [List.size_toArray]; rw [hlen]⟩,q⟩
    · subst e'
      obtain ⟨its,r',pl,hz⟩:=I.tuple hx
      have hlen:=r'.length
      exact len_tuple pl (by simp only [List.size_toArray]; omega) ⟨.int xs.length,H,I.tok _,⟨_,by simp only [List.size_toArray]; rw [hlen]⟩,q⟩
  | _ => exact (show False from e).elim
end
end L2
namespace L2
open PySem PySem.Spec PyProof.Rows
structure ObjM (h:Heap) (x dx C:Addr) (mA:Str → Option Value):Prop where
  obj:h.get? x = some (PySem.W.instObj C dx)
  ns:h.Ns1 dx mA
  ne:dx ≠ x
theorem lookIn_ns {h:Heap} {dx:Addr} {mA:Str → Option Value} (n:h.Ns1 dx mA):∃ od,h.get? dx = some od ∧ ∀ name,PySem.W.lookIn name od = some (mA name):=by
  obtain ⟨o,es,ep,ho,hd,hk,_,hm⟩:=n
  refine ⟨o,ho,fun name => ?_⟩
  have e:=hm name
  unfold nsFind findBy at e
  rw [← Array.find?_toList] at e
  unfold PySem.W.lookIn
  rw [hd]
  dsimp only
  split
  · rename_i y q
    rw [q] at e
    exact congrArg some e
  · rename_i q
    rw [q] at e
    have a:es.toList.any (·.refKey) = false:=by
      rw [List.any_eq_false]
      intro y hy
      obtain ⟨z,t,hkey⟩:=hk y (Array.mem_toList_iff.mp hy)
      simp [DictEntry.refKey,hkey]
    have a':¬ es.toList.any (·.refKey) = true:=by rw [a]; exact Bool.false_ne_true
    rw [if_neg a']
    exact congrArg some e
theorem ObjM.look {h:Heap} {x dx C:Addr} {mA:Str → Option Value} (I:ObjM h x dx C mA):∃ od,PySem.W.InstAt h x (PySem.W.instObj C dx) C (some od) ∧ ∀ name,PySem.W.lookIn name od = some (mA name) :=
  let ⟨od,ho,hl⟩:=lookIn_ns I.ns
  ⟨od,⟨I.obj,rfl,rfl,ho⟩,hl⟩
section
variable {prog:Program} {w:World} {A:Around} {E:Value → Shared → Prop} {s:Shared} {K:PySem.W.Frag} {x dx C f:Addr} {mA:Str → Option Value} {name:Str} {v:Value}
end
theorem RelO.some_of {v:V} {o:Option Value} (r:RelO (some v) o):∃ u,o = some u ∧ RelV v u:=by
  cases o with
  | none => exact (show False from r).elim
  | some u => exact ⟨u,rfl,r⟩
theorem handed_of {v:V} {u:Value} (r:RelV v u):PySem.W.handedIn u = true:=by
  cases v with
  | non => cases (show u = Value.none from r); rfl
  | bl b => cases (show u = Value.bool b from r); rfl
  | int i => obtain ⟨t,e⟩:=(show ∃ t,u = Value.int i t from r); cases e; rfl
  | str x => obtain ⟨t,e⟩:=(show ∃ t,u = Value.str x t from r); cases e; rfl
  | byt b => obtain ⟨t,e⟩:=(show ∃ t,u = Value.bytes b t from r); cases e; rfl
  | flt b => obtain ⟨t,e⟩:=(show ∃ t,u = Value.float b t from r); cases e; rfl
  | ref a => cases (show u = Value.ref a from r); rfl
  | ty n => cases (show u = Value.type n from r); rfl
section
variable {P:Program} {w:World} {H H':Hp} {h h':Heap} {a C dx:Addr} {fs fs':List (Str × V)}
theorem ins_get (hok:HOk P w H h) (e:H a = some (.ins C dx fs)):∃ mA,ObjM h a dx C mA ∧ (∀ f,RelO (fs.lookup f) (mA f)) ∧ PySem.Within mA (fs.map (·.1)) ∧ fs.length ≤ 1000 ∧ H dx = some (.own a):=by
  obtain ⟨d,z,ne,ob,mA,n,r,q⟩:=(show ObjOk P w H h a (.ins C dx fs) from hok a _ e)
  exact ⟨mA,⟨ob,n,ne⟩,r,q,z,d⟩
end
structure Cls (K:PySem.W.Frag) (C:Addr):Prop where
  pg:PySem.W.plainGet K C Str.empty = true
  hd:PySem.W.hasDictIn K C = true
  po:PySem.W.plainOver K C = true
  sa:PySem.W.findIn K (.ref C) "__setattr__" = some (some (.builtin "object.__setattr__"))
theorem Cls.get {K:PySem.W.Frag} {C:Addr} (c:Cls K C) (f:Str):PySem.W.plainGet K C f = true:=c.pg
section
variable {X:Cx} {pins:List (Addr × Obj)} {σ:St} {H:Hp} {s:Shared} {a C dx:Addr} {fs:List (Str × V)} {f:Str} {v:V} {A:Around} {E:Value → Shared → Prop}
theorem attr_of {prog:Program} {w:World} {env:Env} {e:Expr} {f:Str} {pos:Pos} {s:Shared} {Q:Value → Shared → Prop} (hb:attributeBase e f env (eval e env) = eval e env)
    (h:wpAny (model prog w) A (eval e env) (fun o s₁ => wpAny (model prog w) A (getAttr o f true) Q E s₁) E s):wpAny (model prog w) A (eval (.Attribute e f pos) env) Q E s :=
  Attribute_any_ h (by rw [arm_eval_Attribute,hb])
end
section
variable {X:Cx} {o e value:Expr} {f:Str} {pos pos' tpos:Pos} {ta tv:TE}
end
section
variable {X:Cx} {pins:List (Addr × Obj)} {σ:St} {H:Hp} {s:Shared} {A:Around} {E:Value → Shared → Prop} {Q:Value → Shared → Prop} {c:Value} {b:Bool}
inductive TyOf (K:PySem.W.Frag) (H:Hp):V → Value → Prop where
  | non:TyOf K H .non (.type "NoneType")
  | bl (x:Bool):TyOf K H (.bl x) (.type "bool")
  | int (i:Int):TyOf K H (.int i) (.type "int")
  | str (x:Str):TyOf K H (.str x) (.type "str")
  | flt (x:UInt64):TyOf K H (.flt x) (.type "float")
  | lst {a:Addr} {xs:List V} (e:H a = some (.lst xs)):TyOf K H (.ref a) (.type "list")
  | frz {a:Addr} {o:Obj} {xs:List V} (e:H a = some (.frz o (.lst xs))):TyOf K H (.ref a) (.type "list")
  | tup {a:Addr} {xs:List V} (e:H a = some (.tup xs)):TyOf K H (.ref a) (.type "tuple")
  | dK {a:Addr} {kvs:List (Key × V)} (e:H a = some (.dK kvs)):TyOf K H (.ref a) (.type "dict")
  | dT {a:Addr} {kvs:List (List Key × V)} (e:H a = some (.dT kvs)):TyOf K H (.ref a) (.type "dict")
  | ins {a C dx:Addr} {fs:List (Str × V)} (e:H a = some (.ins C dx fs)) (cl:Cls K C) (ha:PySem.W.findIn K (.ref C) "__class__" = some (some (.builtin "object.__class__")))
      (hn:PySem.W.specialIn K (.builtin "object.__class__") "__get__" = some (some (.builtin "getset_descriptor.__get__"))) (htk:PySem.W.takesIn K (.builtin "object.__class__") = some true)
      (hm:PySem.W.mroIn K C (.type "object") = some true):TyOf K H (.ref a) (.ref C)
theorem isinst_ok {x:V} {u t:Value} (I:Inv X pins σ H s) (rx:RelV x u) (ty:TyOf X.K H x t) (e:PySem.W.kitOne X.K t c = some b) (h:∀ tk,Q (.bool b) { s with toks:=tk }) :
    wpAny (model X.prog X.w) A (call (.builtin "isinstance") [u,c]) Q E s:=by
  cases ty with
  | non => cases (show u = Value.none from rx); exact PySem.W.kia_one PySem.W.kitx_none I.kIn True.intro e (fun z => nomatch z) h
  | bl y => cases (show u = Value.bool y from rx); exact PySem.W.kia_one PySem.W.kitx_bool I.kIn True.intro e (fun z => nomatch z) h
  | int i => obtain ⟨t,q⟩:=(show ∃ t,u = Value.int i t from rx); cases q; exact PySem.W.kia_one PySem.W.kitx_int I.kIn True.intro e (fun z => nomatch z) h
  | str y => obtain ⟨t,q⟩:=(show ∃ t,u = Value.str y t from rx); cases q; exact PySem.W.kia_one PySem.W.kitx_str I.kIn True.intro e (fun z => nomatch z) h
  | flt y => obtain ⟨t,q⟩:=(show ∃ t,u = Value.float y t from rx); cases q; exact PySem.W.kia_one PySem.W.kitx_float I.kIn True.intro e (fun z => nomatch z) h
  | @lst a xs ea =>
    cases (show u = Value.ref a from rx)
    obtain ⟨_,_,n,_,h1⟩:=(show ObjOk X.prog X.w H s.heap a (.lst xs) from I.hok a _ ea)
    exact PySem.W.kia_one PySem.W.kitx_list I.kIn ⟨_,h1,rfl⟩ e (fun z => nomatch z) h
  | @frz a ob xs ea =>
    cases (show u = Value.ref a from rx)
    obtain ⟨_,_,_,n,_,h1⟩:=(show ObjOk X.prog X.w H s.heap a (.frz ob (.lst xs)) from I.hok a _ ea)
    exact PySem.W.kia_one PySem.W.kitx_list I.kIn ⟨_,h1,rfl⟩ e (fun z => nomatch z) h
  | @tup a xs ea =>
    cases (show u = Value.ref a from rx)
    obtain ⟨_,_,_,p⟩:=(show ObjOk X.prog X.w H s.heap a (.tup xs) from I.hok a _ ea)
    obtain ⟨o,h1,h2,_⟩:=p
    exact PySem.W.kia_one PySem.W.kitx_tuple I.kIn ⟨o,h1,h2⟩ e (fun z => nomatch z) h
  | @dK a kvs ea =>
    cases (show u = Value.ref a from rx)
    obtain ⟨_,_,vs,_,p⟩:=(show ObjOk X.prog X.w H s.heap a (.dK kvs) from I.hok a _ ea)
    obtain ⟨o,es,ep,h1,h2,_⟩:=p
    exact PySem.W.kia_one PySem.W.kitx_dict I.kIn ⟨o,h1,h2.1⟩ e (fun z => nomatch z) h
  | @dT a kvs ea =>
    cases (show u = Value.ref a from rx)
    obtain ⟨_,_,xs,_,o,es,ep,h1,h2,_⟩:=(show ObjOk X.prog X.w H s.heap a (.dT kvs) from I.hok a _ ea)
    exact PySem.W.kia_one PySem.W.kitx_dict I.kIn ⟨o,h1,h2.1⟩ e (fun z => nomatch z) h
  | @ins a C dx fs ea cl ha hn htk hm =>
    cases (show u = Value.ref a from rx)
    obtain ⟨mA,O,_⟩:=ins_get I.hok ea
    obtain ⟨od,J,_⟩:=O.look
    exact PySem.W.kia_one (PySem.W.kitx_own (cl.get _) cl.hd ha hn htk hm) I.kIn J e (fun z => nomatch z) h
end
end L2
namespace L2
open PySem PySem.Spec PyProof.Rows
structure Room (k:Nat) (A:Around):Prop where
  hd:A.handled = none
  dp:A.depth + 3 * k + 5 < recursionLimit
  un:A.units + 16 * k + 200 < cLine
theorem Room.mono {j k:Nat} {A:Around} (r:Room k A) (h:j ≤ k):Room j A:=⟨r.hd,by have:=r.dp; omega,by have:=r.un; omega⟩
theorem Room.deeper {k:Nat} {A:Around} (r:Room (k + 1) A) (env:Env):Room k (A.deeper env) :=
  ⟨r.hd,by have:=r.dp; show A.depth + 1 + 3 * k + 5 < _; omega,by have:=r.un; show A.units + 3 + 16 * k + 200 < _; omega⟩
theorem make_depth {A:Around} {C:Addr} {us:List Value} {kw:List (Str × Value)}:(A.under (.builtin "type.__call__" ⟨.ref C :: us,kw⟩)).depth = A.depth + 1:=by
  first | rfl | simp [Around.under,Code.weight,Code.isCreation,Code.isGuard,Code.isCaller,Code.frames,Code.isFrame,guardIds]
theorem make_units {A:Around} {C:Addr} {us:List Value} {kw:List (Str × Value)}:(A.under (.builtin "type.__call__" ⟨.ref C :: us,kw⟩)).units = A.units + 1:=by
  first | rfl | simp [Around.under,Code.cUnits,Code.frames,Code.isFrame]
theorem Room.make {k:Nat} {A:Around} (r:Room (k + 1) A) (C:Addr) (us:List Value) (kw:List (Str × Value)):Room k (A.under (.builtin "type.__call__" ⟨.ref C :: us,kw⟩)) :=
  ⟨r.hd,by have:=r.dp; rw [make_depth]; omega,by have:=r.un; rw [make_units]; omega⟩
theorem Room.depth {k:Nat} {A:Around} (r:Room k A):A.depth < recursionLimit:=by have:=r.dp; omega
noncomputable def tNil:TA:=fun _ H Q => Q [] H
noncomputable def tCons (ta:TE) (tr:TA):TA:=fun σ H Q => ta σ H fun x H1 => tr σ H1 fun xs H2 => Q (x :: xs) H2
section
variable {X:Cx} {e:Expr} {es:List Expr} {te:TE} {t:TA} {pos:Pos}
theorem pa_nil:PA X [] tNil:=fun _ _ _ _ H Q I h => Calls.spliced_nil ⟨[],H,I,.nil,h⟩
theorem pa_cons (ha:PE X e te) (hr:PA X es t) (hs:starEach (e :: es) X.env = (false,eval e X.env) :: starEach es X.env:=by rfl):PA X (e :: es) (tCons te t):=by
  intro pos pins s σ H Q I h
  rw [hs]
  show wpAny _ _ (spliced ((false,eval e X.env) :: backTo pos (starEach es X.env))) _ _ s
  refine Calls.spliced_cons (thn (ha pins s σ H _ I h) fun u s1 ⟨x,H1,I1,r1,q1⟩ => ?_)
  exact thn (hr pos pins s1 σ H1 _ I1 q1) fun us s2 ⟨xs,H2,I2,r2,q2⟩ => ⟨x :: xs,H2,I2,.cons r1 r2,q2⟩
noncomputable def tTup (t:TA):TE:=fun σ H Q => t σ H fun xs H1 => xs.length ≤ sizeLine ∧ ∀ p,H1 p = none → Q (.ref p) (upd H1 p (.tup xs))
noncomputable def tLst (t:TA):TE:=fun σ H Q => t σ H fun xs H1 => xs.length ≤ sizeLine ∧ ∀ p,H1 p = none → Q (.ref p) (upd H1 p (.lst xs))
theorem pe_tup {x1} (h:PA X es t):PE X (.Tuple es x1 pos) (tTup t):=by
  intro pins s σ H Q I hq
  refine wpAny_Tuple_spliced (thn (h pos pins s σ H _ I hq) fun us s1 ⟨xs,H1,I1,r,z,q⟩ => ⟨by rw [← r.length]; exact z,?_⟩)
  have hf:H1 s1.heap.objs.size = none:=I1.hok.fresh (Nat.le_refl _)
  refine ⟨.ref s1.heap.objs.size,upd H1 s1.heap.objs.size (.tup xs),I1.laid (t':=s1.toks) (fun b u e => Heap.get?_push_of_some _ e) (Nat.le_refl _) ?_,rfl,q _ hf⟩
  exact ⟨z,us,r,⟨_,Heap.get?_push_size _ rfl,rfl,_,rfl⟩⟩
theorem pe_lst (h:PA X es t):PE X (.List es pos) (tLst t):=by
  intro pins s σ H Q I hq
  refine wpAny_List_spliced (thn (h pos pins s σ H _ I hq) fun us s1 ⟨xs,H1,I1,r,z,q⟩ => ⟨by rw [← r.length]; exact z,?_⟩)
  have hf:H1 s1.heap.objs.size = none:=I1.hok.fresh (Nat.le_refl _)
  refine ⟨.ref s1.heap.objs.size,upd H1 s1.heap.objs.size (.lst xs),I1.laid (t':=s1.toks) (fun b u e => Heap.get?_push_of_some _ e) (Nat.le_refl _) ?_,rfl,q _ hf⟩
  exact ⟨z,us,0,r,Heap.get?_push_size _ rfl⟩
end
noncomputable abbrev Sp:=List V → Hp → VK → XK → Prop
noncomputable abbrev CXT:=List Env → Hp → Shared → XK → Value → Shared → Prop
structure Env0 (P:Program) (w:World) (K:PySem.W.Frag) (mg:Str → Option Value) (base:Heap) (A:Around) (outer:List Env) (s:Shared) (H:Hp):Prop where
  frames:A.frames = some outer
  mod:Mod K mg base
  bs:∀ b o,base.get? b = some o → s.heap.get? b = some o ∧ H b = none
  bsz:base.objs.size ≤ s.heap.objs.size
  funs:s.heap.FunFrames base outer
  frf:∀ b ∈ frs outer,H b = none
  hok:HOk P w H s.heap
  bare:AllBare s.gens
noncomputable def CE (outer:List Env) (P:Program) (w:World) (H:Hp) (s:Shared) (Q:VK) (u:Value) (s':Shared):Prop :=
  ∃ v H',s'.os = s.os ∧ AllBare s'.gens ∧ Un (frs outer) [] H H' s.heap s'.heap ∧ HOk P w H' s'.heap ∧ RelV v u ∧ Q v H'
noncomputable def CR (CX:CXT) (outer:List Env) (P:Program) (w:World) (H:Hp) (s:Shared) (Q:VK) (E:XK) (r:Result) (s':Shared):Prop :=
  match r with
  | .ok (.ret u) => CE outer P w H s Q u s'
  | .ok _ => False
  | .error e => CX outer H s E e s'
structure FnOk (P:Program) (w:World) (K:PySem.W.Frag) (mg:Str → Option Value) (base:Heap) (CX:CXT) (k:Nat) (f:Addr) (fd:FuncData) (ps:List Str) (sp:Sp):Prop where
  len:∀ vs H Q E,sp vs H Q E → vs.length = ps.length
  run:∀ (A:Around) (outer:List Env) (s:Shared) (H:Hp) (args:Args) (us:List Value) (vs:List V) (Q:VK) (E:XK),Room k A → Env0 P w K mg base A outer s H → BindsTo s fd args (ps.zip us) → Vals vs us → sp vs H Q E →
    codeAny (model P w) A (.call (.ref f) args) (CR CX outer P w H s Q E) s
theorem Env0.make {P:Program} {w:World} {K:PySem.W.Frag} {mg:Str → Option Value} {base:Heap} {A:Around} {outer:List Env} {s:Shared} {H:Hp} (e:Env0 P w K mg base A outer s H) (C:Addr) (us:List Value) (kw:List (Str × Value)) :
    Env0 P w K mg base (A.under (.builtin "type.__call__" ⟨.ref C :: us,kw⟩)) outer s H:=⟨by first | exact e.frames | (simpa [Around.under,Code.envs,Code.isFrame,pushEnvs] using e.frames),e.mod,e.bs,e.bsz,e.funs,e.frf,e.hok,e.bare⟩
section
variable {X:Cx} {pins:List (Addr × Obj)} {σ:St} {H:Hp} {s s':Shared}
theorem Inv.env0 (I:Inv X pins σ H s):Env0 X.prog X.w X.K X.mg X.base X.A X.stack s H :=
  ⟨I.ok.frames,I.ok.mod,I.bs,Nat.le_trans I.ok.bsz I.sz,I.stack,I.stkFree,I.hok,I.bare⟩
theorem Inv.after {Q:VK} {u:Value} (I:Inv X pins σ H s) (h:CE X.stack X.prog X.w H s Q u s'):EP X pins σ Q u s':=by
  obtain ⟨v,H',os,bare,un,hok,r,q⟩:=h
  obtain ⟨hh,g,d,t,os'⟩:=s'
  obtain rfl:os' = s.os:=os
  exact ⟨v,H',I.call (h':=hh) (g':=g) (d':=d) (t':=t) (ch:=[]) un hok bare (fun b z => absurd z (by simp)),r,q⟩
end
noncomputable def tCall (sp:Sp) (dvs:List V) (E:XK) (t:TA):TE:=fun σ H Q => t σ H fun vs H1 => sp (vs ++ dvs) H1 Q E
noncomputable def Binds (K:PySem.W.Frag) (fd:FuncData) (ps:List Str) (ds:List Value):Prop :=
  ∀ (s:Shared) (us:List Value),K.In s.heap → (us ++ ds).length = ps.length → BindsTo s fd ⟨us,[]⟩ (ps.zip (us ++ ds))
theorem Binds.all {K:PySem.W.Frag} {fd:FuncData} {ps:List Str} (h:∀ us:List Value,us.length = ps.length → bindArgs fd ⟨us,[]⟩ = pure (ps.zip us)):Binds K fd ps []:=fun s us _ hl => by
  rw [List.append_nil] at hl ⊢
  exact .of_eq (h us hl)
noncomputable def Passes (CX:CXT) (X:Cx) (E:XK):Prop:=∀ (pins:List (Addr × Obj)) (σ:St) (H:Hp) (s:Shared) (e:Value) (s':Shared),Inv X pins σ H s → CX X.stack H s E e s' → X.xe e s'
section
variable {X:Cx} {CX:CXT} {k:Nat} {f C:Addr} {fd:FuncData} {ps:List Str} {sp:Sp} {dvs:List V} {ds:List Value} {E:XK} {x m:Str} {p pos apos:Pos} {e o:Expr} {es:List Expr} {ta:TE} {t:TA}
theorem run_fn {pins:List (Addr × Obj)} {σ:St} {H:Hp} {s:Shared} {Q:VK} {us:List Value} {vs:List V} (F:FnOk X.prog X.w X.K X.mg X.base CX k f fd ps sp) (hr:Room k X.A) (hb:Binds X.K fd ps ds) (hd:Vals dvs ds) (hx:Passes CX X E)
    (I:Inv X pins σ H s) (r:Vals vs us) (h:sp (vs ++ dvs) H Q E):wpAny (model X.prog X.w) X.A (call (.ref f) us) (EP X pins σ Q) X.xe s:=by
  have r2:Vals (vs ++ dvs) (us ++ ds):=r.append hd
  have hl:(us ++ ds).length = ps.length:=by rw [← r2.length]; exact F.len _ _ _ _ h
  refine wpAny_call (codeAny_mono (F.run X.A X.stack s H ⟨us,[]⟩ (us ++ ds) (vs ++ dvs) Q E hr I.env0 (hb s us I.kIn hl) r2 h) fun r s' hq => ?_)
  cases r with
  | error e => exact hx pins σ H s e s' I hq
  | ok fl =>
    cases fl with
    | ret u => exact I.after hq
    | next => exact False.elim hq
    | brk => exact False.elim hq
    | cont => exact False.elim hq
theorem pe_call (F:FnOk X.prog X.w X.K X.mg X.base CX k f fd ps sp) (hr:Room k X.A) (hg:Gl X x) (hm:X.mg x = some (.ref f)) (hk:PySem.W.keepIn X.K (.ref f) = true) (hb:Binds X.K fd ps ds) (hd:Vals dvs ds) (hx:Passes CX X E)
    (ha:PA X (e :: es) t) (hdb:(x == ("__debug__":Str)) = false:=by decide) (he:starEach (e :: es) X.env = (false,eval e X.env) :: starEach es X.env:=by rfl) (hpl:(backTo pos (starEach es X.env)).any (·.1) = false:=by rfl) :
    PE X (.Call (.Name x p) (e :: es) [] pos) (tCall sp dvs E t):=by
  intro pins s σ H Q I h
  refine wpAny_Call_Name_kw (ld_glob I hg hm ?_ hdb)
  refine PySem.W.callWith_K (h₀:=X.base) I.ok.mod.kin hk (thn (ha pos pins s σ H _ I h) fun us s1 ⟨vs,H1,I1,r,q⟩ => ⟨I1.kIn,?_⟩) he hpl
  exact run_fn F hr hb hd hx I1 r q
end
section
variable {X:Cx} {CX:CXT} {k:Nat} {f C:Addr} {fd:FuncData} {ps ks:List Str} {sp:Sp} {E:XK} {x m:Str} {p pos apos kpos:Pos} {e o:Expr} {es:List Expr} {kws:List Keyword} {te ta:TE} {t tk:TA} {nm:Option Str}
variable {g:List Value → List Value → List Value} {gV:List V → List V → List V}
end
structure FnScope (N P:List Str) (sc:Scope):Prop where
  kind:sc.kind = .function
  co:sc.isCoroutine = false
  gen:sc.isGenerator = false
  nd:N.Nodup
  pre:N.take P.length = P
  par:∀ x ∈ P,sc.names.lookup x = some .local ∨ sc.names.lookup x = some .cell
  nofree:∀ y ∈ sc.names,y.2 ≠ .free
theorem bindL_out {kindOf:Str → Option NameKind} {x:Str}:∀ {binds:List (Str × Value)} {m:Str → Option Value},(∀ v,(x,v) ∉ binds) → bindL kindOf binds m x = m x
  | [],_,_ => rfl
  | (n,v) :: r,m,h => by
    unfold bindL
    rw [bindL_out fun w hw => h w (List.mem_cons_of_mem _ hw)]
    split
    · have:x ≠ n:=by rintro rfl; exact h v List.mem_cons_self
      simp [this]
    · rfl
theorem bindC_out {kindOf:Str → Option NameKind} {x:Str}:∀ {binds:List (Str × Value)} {m:Str → Option Value},(∀ v,(x,v) ∉ binds) → bindC kindOf binds m x = m x
  | [],_,_ => rfl
  | (n,v) :: r,m,h => by
    unfold bindC
    rw [bindC_out fun w hw => h w (List.mem_cons_of_mem _ hw)]
    split
    · rfl
    · have:x ≠ n:=by rintro rfl; exact h v List.mem_cons_self
      simp [this]
theorem bindL_get {kindOf:Str → Option NameKind} {x:Str} {v:Value}:∀ {P:List Str} {vs:List Value} {i:Nat} {m:Str → Option Value},P.Nodup → P[i]? = some x → vs[i]? = some v → kindOf x = some .local →
    bindL kindOf (P.zip vs) m x = some v
  | [],_,_,_,_,h,_,_ => by simp at h
  | _ :: _,[],_,_,_,_,h,_ => by simp at h
  | p :: P,w :: vs,0,m,nd,h1,h2,hk => by
    simp at h1 h2; subst h1; subst h2
    show bindL kindOf ((p,w) :: P.zip vs) m p = _
    unfold bindL
    rw [bindL_out fun v hv => (List.nodup_cons.mp nd).1 (List.of_mem_zip hv).1,if_pos hk]
    simp
  | p :: P,w :: vs,i + 1,m,nd,h1,h2,hk => by
    show bindL kindOf ((p,w) :: P.zip vs) m x = _
    unfold bindL
    exact bindL_get (i:=i) (List.nodup_cons.mp nd).2 (by simpa using h1) (by simpa using h2) hk
theorem bindC_get {kindOf:Str → Option NameKind} {x:Str} {v:Value}:∀ {P:List Str} {vs:List Value} {i:Nat} {m:Str → Option Value},P.Nodup → P[i]? = some x → vs[i]? = some v → kindOf x ≠ some .local →
    bindC kindOf (P.zip vs) m x = some v
  | [],_,_,_,_,h,_,_ => by simp at h
  | _ :: _,[],_,_,_,_,h,_ => by simp at h
  | p :: P,w :: vs,0,m,nd,h1,h2,hk => by
    simp at h1 h2; subst h1; subst h2
    show bindC kindOf ((p,w) :: P.zip vs) m p = _
    unfold bindC
    rw [bindC_out fun v hv => (List.nodup_cons.mp nd).1 (List.of_mem_zip hv).1,if_neg hk]
    simp
  | p :: P,w :: vs,i + 1,m,nd,h1,h2,hk => by
    show bindC kindOf ((p,w) :: P.zip vs) m x = _
    unfold bindC
    exact bindC_get (i:=i) (List.nodup_cons.mp nd).2 (by simpa using h1) (by simpa using h2) hk
noncomputable def start (N:List Str) (vs:List V):St:=vs.map some ++ List.replicate (N.length - vs.length) none
noncomputable def cxOf (CX:CXT) (P:Program) (w:World) (K:PySem.W.Frag) (mg:Str → Option Value) (base:Heap) (N:List Str) (qual:Str) (scope:Scope) (f:Addr) (cd:Value) (A:Around) (outer:List Env) (s:Shared) (H:Hp) (E:XK):Cx where
  prog:=P
  w:=w
  K:=K
  mg:=mg
  base:=base
  A:=A.deeper (envOfC qual scope s.heap.objs.size f cd)
  N:=N
  s₀:=s
  H₀:=H
  env:=envOfC qual scope s.heap.objs.size f cd
  outer:=outer
  stack:=envOfC qual scope s.heap.objs.size f cd :: outer
  ex:=[]
  calm:=true
  fn:=fun _ => true
  pn:=[]
  xe:=fun e s' => wpAny (model P w) (A.deeper (envOfC qual scope s.heap.objs.size f cd)) (leaving (envOfC qual scope s.heap.objs.size f cd) e) (fun _ s'' => CX outer H s E e s'') (fun e' s'' => CX outer H s E e' s'') s'
theorem cell_has {sc:Scope} {n:Nat} {x:Str} (h:sc.names.lookup x = some .cell):∃ c,(cellsFrom n sc.names []).lookup x = some c:=by
  have q:=PySem.W.cellsFrom_some sc.names n [] (.inl h)
  exact Option.isSome_iff_exists.mp q
theorem inv_start {CX:CXT} {P:Program} {w:World} {K:PySem.W.Frag} {mg:Str → Option Value} {base:Heap} {N ps:List Str} {qual:Str} {scope:Scope} {f:Addr} {cd:Value} {A:Around} {outer:List Env} {s s1:Shared} {H:Hp} {E:XK} {us:List Value} {vs:List V}
    (S:FnScope N ps scope) (hd:A.handled = none) (e0:Env0 P w K mg base A outer s H) (hl:vs.length = ps.length) (r:Vals vs us)
    (x:InCallC s s.heap.objs.size (bindL (envOfC qual scope s.heap.objs.size f cd).kindOf (ps.zip us) fun _ => none) (cellsFrom (s.heap.objs.size + 1) scope.names []) (bindC (envOfC qual scope s.heap.objs.size f cd).kindOf (ps.zip us) fun _ => none) s1) :
    Inv (cxOf CX P w K mg base N qual scope f cd A outer s H E) [] (start N vs) H s1:=by
  have hpl:ps.length ≤ N.length:=by have:=congrArg List.length S.pre; rw [List.length_take] at this; omega
  obtain ⟨h1,tk,rfl,hk⟩:=x.done
  have noA:∀ b:Addr,b ∉ (cxOf CX P w K mg base N qual scope f cd A outer s H E).ex:=fun b z => absurd (show b ∈ ([]:List Addr) from z) (by simp)
  refine ⟨⟨e0.mod,S.kind,rfl,rfl,Nat.le_refl _,fun y z c h1 h2 => ?_,fun y hy => ?_,fun y c _ h => ?_,fun _ => hd,Around.frames_deeper e0.frames,.inr ⟨rfl,rfl⟩,fun b z => absurd z (noA b),e0.bs,e0.bsz,fun b _ _ => noA b,fun b z => absurd z (noA b),e0.funs,e0.frf⟩,
    rfl,e0.bare,Un.kept hk,⟨_,x.toInCall.ns,fun i y v h1 h2 h3 => ?_⟩,fun y c h => ⟨_,x.cell y c h⟩,e0.hok.fresh (Nat.le_refl _),fun y c h => ?_,fun p hp => absurd (show p ∈ ([]:List (Addr × Obj)) from hp) (by simp),e0.hok.kept hk,?_,fun _ e => by cases (show (none:Option (Str → Option Value)) = some _ from e)⟩
  · exact name_of_addr x.apart (PySem.mem_of_lookup h1) (PySem.mem_of_lookup h2)
  · have hy:scope.names.lookup y = some .cell ∨ scope.names.lookup y = some .free:=hy
    rcases hy with hy | hy
    · exact cell_has hy
    · exact absurd rfl (S.nofree _ (PySem.mem_of_lookup hy))
  · exact Nat.le_of_lt (x.above y c (PySem.mem_of_lookup h))
  · have hi:i < vs.length:=by
      unfold start at h2
      by_cases hi:i < vs.length
      · exact hi
      · rw [List.getElem?_append_right (by simpa using hi)] at h2
        rw [List.getElem?_replicate] at h2
        split at h2 <;> cases h2
    have ha:vs[i]? = some v:=by
      unfold start at h2
      rw [List.getElem?_append_left (by simpa using hi),List.getElem?_map] at h2
      cases e:vs[i]? with
      | none => rw [e] at h2; cases h2
      | some a => rw [e] at h2; cases h2; rfl
    obtain ⟨u,hu,rv⟩:=r.get ha
    have hp:ps[i]? = some y:=by
      rw [← S.pre,List.getElem?_take_of_lt (by omega)]; exact h1
    have ndP:ps.Nodup:=by rw [← S.pre]; exact S.nd.sublist (List.take_sublist _ _)
    refine ⟨u,rv,?_⟩
    rcases S.par y (List.mem_of_getElem? hp) with k | k
    · exact .inl ⟨k,bindL_get ndP hp hu k⟩
    · obtain ⟨c,e⟩:=cell_has (n:=s.heap.objs.size + 1) k
      refine .inr ⟨.inl k,c,e,?_⟩
      have q:=x.cell y c e
      rw [bindC_get ndP hp hu (by show scope.names.lookup y ≠ _; rw [k]; decide)] at q
      exact q
  · exact e0.hok.fresh (Nat.le_of_lt (x.above y c (PySem.mem_of_lookup h)))
  · unfold start
    show _ = N.length
    rw [List.length_append,List.length_map,List.length_replicate]
    omega
theorem fn_of {CX:CXT} {P:Program} {w:World} {K:PySem.W.Frag} {mg:Str → Option Value} {base:Heap} {k:Nat} {f:Addr} {name qual:Str} {params:Arguments} {body:List Stmt} {scope:Scope} {dV kV doc pm cdv ct oc:Value} {an od:Option Addr}
    {osl:Array (Option Value)} {N ps:List Str} {sp:Sp} (lk:K.lookup f = some ⟨oc,od,.func (PySem.W.fnOf name qual params body scope dV kV doc pm an cdv ct),osl⟩) (hcd:PySem.W.codeIn K cdv qual = true) (S:FnScope N ps scope)
    (len:∀ vs H Q E,sp vs H Q E → vs.length = ps.length)
    (hbody:∀ (A:Around) (outer:List Env) (s:Shared) (H:Hp) (vs:List V) (Q:VK) (E:XK),Room k (A.deeper (envOfC qual scope s.heap.objs.size f cdv)) → sp vs H Q E →
      ∃ t,PSs (cxOf CX P w K mg base N qual scope f cdv A outer s H E) body t ∧ t { nx:=fun _ H' => Q .non H',rt:=Q } (start N vs) H) :
    FnOk P w K mg base CX (k + 1) f (PySem.W.fnOf name qual params body scope dV kV doc pm an cdv ct) ps sp:=by
  refine ⟨len,fun A outer s H args us vs Q E hr e0 hb r hsp => ?_⟩
  have hl:=len _ _ _ _ hsp
  have KX:K.In s.heap:=e0.mod.kin.keeps fun b o e => (e0.bs b o e).1
  have lim:s.heap.NoLimit:=e0.mod.nolimit.keeps fun b o e => (e0.bs b o e).1
  have hkind:∀ y ∈ ps.zip us,scope.names.lookup y.1 = some .local ∨ (scope.names.lookup y.1 = some .cell ∧ ((cellsFrom (s.heap.objs.size + 1) scope.names []).lookup y.1).isSome = true):=fun ⟨n,v⟩ hy => by
    rcases S.par n (List.of_mem_zip hy).1 with q | q
    · exact .inl q
    · exact .inr ⟨q,PySem.W.cellsFrom_some _ _ _ (.inl q)⟩
  refine codeAny_call_function hr.depth (KX _ _ lk) rfl S.co S.gen rfl (PySem.W.codeRec_of KX hcd) (hb _ _ _ _ ?_)
  refine wpAny_newFunctionEnv_cells S.kind hkind fun env he s1 x => ?_
  subst he
  refine ⟨lim.keeps x.toInCall.keep,codeAny_func ?_⟩
  obtain ⟨t,ht,hq⟩:=hbody A outer s H vs Q E (hr.deeper _) hsp
  have I:Inv (cxOf CX P w K mg base N qual scope f cdv A outer s H E) [] (start N vs) H s1:=inv_start S hr.hd e0 hl r x
  refine wpAny_mono (ht [] s1 (start N vs) H _ I hq) (fun fl s' hs => ?_) fun e s' hs => hs
  have fin:∀ {σ':St} {H':Hp} {v:V} {u:Value},Inv (cxOf CX P w K mg base N qual scope f cdv A outer s H E) [] σ' H' s' → RelV v u → Q v H' → CE outer P w H s Q u s' :=
    fun {σ' H' v u} J rv q => ⟨v,H',J.os,J.bare,J.base,J.hok,rv,q⟩
  cases fl with
  | ret u =>
    obtain ⟨v,σ',H',J,rv,q⟩:=hs
    exact fin J rv q
  | next =>
    obtain ⟨σ',H',J,q⟩:=hs
    exact fin (v:=V.non) (u:=Value.none) J rfl q
  | brk =>
    obtain ⟨_,_,_,q⟩:=hs
    exact False.elim q
  | cont =>
    obtain ⟨_,_,_,q⟩:=hs
    exact False.elim q
end L2
namespace L2
open PySem PySem.Spec PyProof.Rows
section
variable {X:Cx} {x:Str} {p pos:Pos} {e:Expr} {es:List Expr} {t:TA} {id T:String} {r:List V → Hp → VK → Prop}
noncomputable def tCB (r:List V → Hp → VK → Prop) (t:TA):TE:=fun σ H Q => t σ H fun vs H1 => r vs H1 Q
theorem pe_callB (hc:CallR X (.builtin id) r) (hg:Gl X x) (hm:X.mg x = none) (hv:bootBuiltins x = some (.builtin id)) (ha:PA X (e :: es) t) (hn:x ≠ "__name__":=by decide) (hdb:(x == ("__debug__":Str)) = false:=by decide)
    (he:starEach (e :: es) X.env = (false,eval e X.env) :: starEach es X.env:=by rfl) (hpl:(backTo pos (starEach es X.env)).any (·.1) = false:=by rfl):PE X (.Call (.Name x p) (e :: es) [] pos) (tCB r t):=by
  intro pins s σ H Q I h
  refine wpAny_Call_Name_kw (ld_blt I hg hm hv ?_ hn hdb)
  exact PyProof.Rows.callWith_builtin1 (thn (ha pos pins s σ H _ I h) fun us s1 ⟨vs,H1,I1,r1,q1⟩ => hc pins s1 σ H1 vs us Q I1 r1 q1) he hpl
theorem pe_callTy (hc:CallR X (.type T) r) (hg:Gl X x) (hm:X.mg x = none) (hv:bootBuiltins x = some (.type T)) (ha:PA X (e :: es) t) (hn:x ≠ "__name__":=by decide) (hdb:(x == ("__debug__":Str)) = false:=by decide)
    (he:starEach (e :: es) X.env = (false,eval e X.env) :: starEach es X.env:=by rfl) (hpl:(backTo pos (starEach es X.env)).any (·.1) = false:=by rfl):PE X (.Call (.Name x p) (e :: es) [] pos) (tCB r t):=by
  intro pins s σ H Q I h
  refine wpAny_Call_Name_kw (ld_blt I hg hm hv ?_ hn hdb)
  exact PyProof.Rows.callWith_type1 (thn (ha pos pins s σ H _ I h) fun us s1 ⟨vs,H1,I1,r1,q1⟩ => hc pins s1 σ H1 vs us Q I1 r1 q1) he hpl
end
end L2
namespace HT
open PySem PyProof.Rows
section
open PySem.SeqAt
open PySem.AutoSeq1 (wpAny_loadPart')
open PySem.MeetsSeq PySem.MeetsSeq2 PySem.MeetsSeq3
end
section
variable {prog:Program} {w:World} {A:Around} {E:Value → Shared → Prop} {s:Shared}
theorem cat_tup {t b:Addr} {vs ws:List Value} {Q:Value → Shared → Prop} (ht:IsTup s.heap t vs.toArray) (hb:IsTup s.heap b ws.toArray) (hv:vs ≠ [])
    (h1:ws = [] → Q (.ref t) s) (h2:ws ≠ [] → Q (.ref s.heap.objs.size) { s with heap:=s.heap.push { cls:=.type "tuple",data:=.seq (vs ++ ws).toArray } })
    (hsz:vs.length + ws.length ≤ sizeLine):wpAny (model prog w) A (binaryOp .Add (.ref t) (.ref b)) Q E s:=by
  obtain ⟨⟨cls,dd,data,sl⟩,ho,hc,n,hd⟩:=id ht
  obtain ⟨⟨cls2,dd2,data2,sl2⟩,ho2,hc2,n2,hd2⟩:=id hb
  simp only at hc hd hc2 hd2
  subst hc hd hc2 hd2
  have e:vs.toArray ++ ws.toArray = (vs ++ ws).toArray:=by simp
  by_cases hw:ws = []
  · exact concat_meets ⟨_,ho,rfl⟩ ⟨_,ho2,rfl⟩ noFill_tuple_add seq_tuple_add PySem.F.slot_tuple_add PySem.F.entry_tuple_add (PySem.F.args_tuple_add_2 _ _)
      (tuple_addW1 t b vs.toArray ws.toArray n n2 dd dd2 sl sl2 (by simpa using hv) (by simp [hw])) ⟨ho,ho2,h1 hw⟩
  · refine concat_meets ⟨_,ho,rfl⟩ ⟨_,ho2,rfl⟩ noFill_tuple_add seq_tuple_add PySem.F.slot_tuple_add PySem.F.entry_tuple_add (PySem.F.args_tuple_add_2 _ _)
      (tuple_addW2 t b vs.toArray ws.toArray n n2 dd dd2 sl sl2 (by simpa using hv) (by simpa using hw) (by rw [List.size_toArray,List.size_toArray]; exact hsz)) ⟨ho,ho2,?_⟩
    rw [e]
    exact h2 hw
noncomputable def sIx (n d:Nat):Option Int → Nat
  | none => d
  | some v => if v < 0 then (v + (n:Int)).toNat else min v.toNat n
theorem sIx_le (n d:Nat) (hd:d ≤ n) (o:Option Int):sIx n d o ≤ n:=by
  cases o with
  | none => exact hd
  | some v =>
    show (if v < 0 then (v + (n:Int)).toNat else min v.toNat n) ≤ n
    by_cases hv:v < 0
    · rw [if_pos hv]; omega
    · rw [if_neg hv]; exact Nat.min_le_right _ _
theorem clip_eq (v:Int) (n d:Nat):(if v < 0 then max (v + (n:Int)) 0 else min v (n:Int)) = ((sIx n d (some v):Nat):Int):=by
  show (if v < 0 then max (v + (n:Int)) 0 else min v (n:Int)) = (((if v < 0 then (v + (n:Int)).toNat else min v.toNat n):Nat):Int)
  by_cases hv:v < 0
  · simp only [if_pos hv]; omega
  · simp only [if_neg hv]; omega
theorem adjust_gen (lo hi:Option Int) (n:Nat):Builtin.Slice.sliceAdjust lo hi 1 (n:Int) = (((sIx n 0 lo:Nat):Int),((sIx n n hi:Nat):Int)):=by
  have h1:¬ ((1:Int) < 0):=by omega
  unfold Builtin.Slice.sliceAdjust
  simp only [h1,if_false]
  refine Prod.ext ?_ ?_
  · cases lo with
    | none => rfl
    | some v => exact clip_eq v n 0
  · cases hi with
    | none => rfl
    | some v => exact clip_eq v n n
theorem places_gen (i j:Nat):Builtin.Slice.slicePlaces (i:Int) (j:Int) 1 = j - i:=by
  unfold Builtin.Slice.slicePlaces
  have h1:(1:Int) > 0:=by omega
  simp only [h1,if_true,Int.ediv_one]
  split <;> omega
theorem slicePart_ {v:Value} {o:Option Int} {Q:Option Int → Shared → Prop} (p:IsPart v o) (h:Q o s):wpAny (model prog w) A (Builtin.Slice.slicePartIndex v) Q E s:=by
  cases p with
  | none => exact slicePart_none h
  | int i t => exact slicePart_int h
theorem sliceApplied_gen {sl:Addr} {vl vu:Value} {lo hi:Option Int} {n:Nat} {Q:Int × Int × Nat → Shared → Prop} (hs:s.heap.IsSliceOf sl vl vu .none) (pl:IsPart vl lo) (pu:IsPart vu hi)
    (h:Q (((sIx n 0 lo:Nat):Int),1,sIx n n hi - sIx n 0 lo) s):wpAny (model prog w) A (Builtin.Slice.sliceApplied (.ref sl) (pure (n:Int))) Q E s:=by
  obtain ⟨os,hos,hcs,hds⟩:=id hs
  unfold Builtin.Slice.sliceApplied Builtin.Slice.sliceFields
  refine wpAny_bind (wpAny_bind (wpAny_field hos hds (x:=vl) rfl (wpAny_bind (wpAny_field hos hds (x:=vu) rfl (wpAny_bind (wpAny_field hos hds (x:=.none) rfl (wpAny_pure ?_)))))))
  refine wpAny_bind (slicePart_none ?_)
  show wpAny _ _ (if ((1:Int) == 0) = true then _ else _) _ _ s
  rw [if_neg (by decide)]
  refine wpAny_bind (slicePart_ pl (wpAny_bind (slicePart_ pu (wpAny_bind (wpAny_pure ?_)))))
  show wpAny _ _ (match Builtin.Slice.sliceAdjust lo hi 1 (n:Int) with | (lo,hi) => pure (lo,(1:Int),Builtin.Slice.slicePlaces lo hi 1)) _ _ s
  rw [adjust_gen lo hi n]
  show wpAny _ _ (pure (((sIx n 0 lo:Nat):Int),(1:Int),Builtin.Slice.slicePlaces ((sIx n 0 lo:Nat):Int) ((sIx n n hi:Nat):Int) 1)) _ _ s
  rw [places_gen]
  exact wpAny_pure h
theorem pick_gen (xs:Array Value) (i k:Nat):((List.range k).filterMap fun (m:Nat) => xs[((i:Int) + (m:Int) * 1).toNat]?).toArray = ((xs.toList.drop i).take k).toArray:=by
  have e:(fun (m:Nat) => xs[((i:Int) + (m:Int) * 1).toNat]?) = fun m => xs[i + m]?:=by
    funext m
    have:((i:Int) + (m:Int) * 1).toNat = i + m:=by omega
    rw [this]
  rw [e]
  have:=pick_run xs i k
  rw [List.filterMap_map] at this
  have e2:((fun x => xs[x]?) ∘ fun x => i + x) = fun m => xs[i + m]?:=rfl
  rw [e2] at this
  rw [this]
theorem getItem_tuple_cut {t sl:Addr} {items:Array Value} {vl vu:Value} {lo hi:Option Int} {Q:Value → Shared → Prop} (ht:IsTup s.heap t items) (hs:s.heap.IsSliceOf sl vl vu .none) (pl:IsPart vl lo) (pu:IsPart vu hi)
    (hw:¬ (sIx items.size 0 lo = 0 ∧ sIx items.size items.size hi = items.size))
    (h:Q (.ref s.heap.objs.size) { s with heap:=s.heap.push { cls:=.type "tuple",data:=.seq ((items.toList.drop (sIx items.size 0 lo)).take (sIx items.size items.size hi - sIx items.size 0 lo)).toArray } })
    (hsz:items.size ≤ sizeLine):wpAny (model prog w) A (getItem (.ref t) (.ref sl)) Q E s:=by
  have htake:sizeOk (.seq ((items.toList.drop (sIx items.size 0 lo)).take (sIx items.size items.size hi - sIx items.size 0 lo)).toArray):=by
    show ((items.toList.drop (sIx items.size 0 lo)).take (sIx items.size items.size hi - sIx items.size 0 lo)).toArray.size ≤ sizeLine
    rw [List.size_toArray,List.length_take,List.length_drop,Array.length_toList]
    omega
  have hj:sIx items.size items.size hi ≤ items.size:=sIx_le _ _ (Nat.le_refl _) hi
  obtain ⟨os,hos,hcs,hds⟩:=id hs
  have hTs:s.TypeIs (.ref sl) "slice":=⟨os,hos,hcs⟩
  unfold getItem
  try with_reducible refine wpAny_holding ?_
  first | refine wpAny_bind (wpAny_pure ?_) | skip
  refine wpAny_bind (wpAny_sequenceKey ht.typeIs (by decide) ?_)
  refine wpAny_bind (wpAny_callSpecial?_slot (name:=Str.ofString "__getitem__") ht.typeIs PyProof.Rows.slot_tuple_getitem
    (wpAny_call_entry PyProof.Rows.slot_tuple_getitem ht.typeIs entry_tuple_getitem ?_ (args_tuple_getitem _ _)))
  show wpAny _ _ (Builtin.Tuple.tupleItemsOf (.ref t) >>= _) _ _ s
  refine wpAny_bind (tupleItemsOf_ ht ?_)
  refine wpAny_bind (wpAny_typeOf hTs ?_)
  rw [if_pos (by decide)]
  refine wpAny_bind (sliceApplied_gen hs pl pu ?_)
  have hno:¬ ((((sIx items.size 0 lo:Nat):Int) == 0 && (1:Int) == 1 && (sIx items.size items.size hi - sIx items.size 0 lo) == items.size) = true):=by
    intro q
    rw [Bool.and_eq_true,Bool.and_eq_true] at q
    have q1:((sIx items.size 0 lo:Nat):Int) = 0:=eq_of_beq q.1.1
    have q2:sIx items.size items.size hi - sIx items.size 0 lo = items.size:=eq_of_beq q.2
    exact hw ⟨by omega,by omega⟩
  show wpAny _ _ (if (((sIx items.size 0 lo:Nat):Int) == 0 && (1:Int) == 1 && (sIx items.size items.size hi - sIx items.size 0 lo) == items.size) = true then _ else _) _ _ s
  rw [if_neg hno,pick_gen]
  first
    | exact wpAny_bind (m:=Builtin.Tuple.tupleExact _) (wpAny_newObj_type (wpAny_pure ⟨_,rfl,wpAny_pure h⟩) htake)
    | exact wpAny_bind (m:=Builtin.Tuple.tupleExact _) (wpAny_newObj_type (wpAny_bind (wpAny_pure (wpAny_pure ⟨_,rfl,wpAny_pure h⟩))) htake)
    | exact wpAny_bind (wpAny_bind (m:=Builtin.Tuple.tupleExact _) (wpAny_newObj_type (wpAny_pure (wpAny_pure ⟨_,rfl,wpAny_pure h⟩)) htake))
    | exact wpAny_bind (wpAny_bind (m:=Builtin.Tuple.tupleExact _) (wpAny_newObj_type (wpAny_pure ⟨_,rfl,wpAny_pure h⟩) htake))
end
end HT
namespace L2
open PySem PySem.Spec PyProof.Rows
noncomputable abbrev TO:=St → Hp → (Option Int → Hp → Prop) → Prop
noncomputable def PO (X:Cx) (e:Option Expr) (t:TO):Prop :=
  ∀ (pins:List (Addr × Obj)) (s:Shared) (σ:St) (H:Hp) (Q:Option Int → Hp → Prop),Inv X pins σ H s → t σ H Q →
    wpAny (model X.prog X.w) X.A (evalPart e X.env) (fun u s' => ∃ o H',Inv X pins σ H' s' ∧ IsPart u o ∧ Q o H') X.xe s
noncomputable def tNoPart:TO:=fun _ H Q => Q none H
noncomputable def tPart (t:TE):TO:=fun σ H Q => t σ H fun x H1 => ∃ i,x = .int i ∧ Q (some i) H1
section
variable {X:Cx} {e:Expr} {te:TE} {lo hi:Option Expr} {tl th:TO} {pos p2:Pos}
theorem po_none:PO X none tNoPart:=by
  intro pins s σ H Q I h
  rw [evalPart_none]
  exact wpAny_pure ⟨none,H,I,.none,h⟩
theorem po_some (h:PE X e te):PO X (some e) (tPart te):=by
  intro pins s σ H Q I hw
  rw [evalPart_some]
  refine thn (h pins s σ H _ I hw) fun u s1 ⟨x,H1,I1,r1,q1⟩ => ?_
  obtain ⟨i,rfl,q⟩:=q1
  obtain ⟨t,rfl⟩:=r1
  exact ⟨some i,H1,I1,.int i t,q⟩
noncomputable def SlR (X:Cx) (r:V → Option Int → Option Int → Hp → VK → Prop):Prop :=
  ∀ (pins:List (Addr × Obj)) (s:Shared) (σ:St) (H:Hp) (x:V) (v vl vu:Value) (lo hi:Option Int) (sl:Addr) (Q:VK),Inv X pins σ H s → RelV x v → s.heap.IsSliceOf sl vl vu .none → IsPart vl lo → IsPart vu hi → r x lo hi H Q →
    ∃ T id,typeLookup (.type T) "__getitem__" = pure (some (.builtin id)) ∧ s.TypeIs v T ∧ wpAny (model X.prog X.w) X.A (getItem v (.ref sl)) (EP X pins σ Q) X.xe s
theorem SlR.or {r r':V → Option Int → Option Int → Hp → VK → Prop} (h:SlR X r) (h':SlR X r'):SlR X (fun x lo hi H Q => r x lo hi H Q ∨ r' x lo hi H Q):=by
  intro pins s σ H x v vl vu lo hi sl Q I rx hs pl pu q
  rcases q with q | q
  · exact h pins s σ H x v vl vu lo hi sl Q I rx hs pl pu q
  · exact h' pins s σ H x v vl vu lo hi sl Q I rx hs pl pu q
noncomputable def tSl (r:V → Option Int → Option Int → Hp → VK → Prop) (te:TE) (tl th:TO):TE:=fun σ H Q => te σ H fun x H1 => tl σ H1 fun l H2 => th σ H2 fun u H3 => r x l u H3 Q
theorem pe_slice {r:V → Option Int → Option Int → Hp → VK → Prop} (hr:SlR X r) (he:PE X e te) (hl:PO X lo tl) (hu:PO X hi th):PE X (.Subscript e (.Slice lo hi none p2) pos) (tSl r te tl th):=by
  intro pins s σ H Q I h
  refine Subscript_ (thn (he pins s σ H _ I h) fun v s1 ⟨x,H1,I1,r1,q1⟩ => ?_)
  refine wpAny_Slice (thn (hl pins s1 σ H1 _ I1 q1) fun vl s2 ⟨l,H2,I2,pl,q2⟩ => thn (hu pins s2 σ H2 _ I2 q2) fun vu s3 ⟨u,H3,I3,pu,q3⟩ => ?_)
  rw [evalPart_none]
  refine wpAny_pure ?_
  have I4:Inv X pins σ H3 { s3 with heap:=s3.heap.push { cls:=.type "slice",data:=.fields #[vl,vu,.none] } }:=I3.kept (t':=s3.toks) fun b ob q => Heap.get?_push_of_some _ q
  obtain ⟨T,id,hT,ht,hg⟩:=hr pins { s3 with heap:=s3.heap.push { cls:=.type "slice",data:=.fields #[vl,vu,.none] } } σ H3 x v vl vu l u s3.heap.objs.size Q I4 r1 (Heap.IsSliceOf.new ..) pl pu q3
  show wpAny (model X.prog X.w) X.A (subscriptTail e (.Slice lo hi none p2) v (.ref s3.heap.objs.size)) (EP X pins σ Q) X.xe { s3 with heap:=s3.heap.push { cls:=.type "slice",data:=.fields #[vl,vu,.none] } }
  exact tail_any (ops:=[.ref s3.heap.objs.size,v]) ht hT hg (by with_unfolding_all rfl)
noncomputable def cutV (xs:List V) (lo hi:Option Int):List V:=(xs.drop (HT.sIx xs.length 0 lo)).take (HT.sIx xs.length xs.length hi - HT.sIx xs.length 0 lo)
theorem cutV_length (xs:List V) (lo hi:Option Int):(cutV xs lo hi).length ≤ xs.length:=by
  unfold cutV
  rw [List.length_take,List.length_drop]
  omega
noncomputable def rSlT (K:PySem.W.Frag):V → Option Int → Option Int → Hp → VK → Prop:=fun x lo hi H Q => ∃ a xs,x = .ref a ∧ SqT K H a xs ∧
  ¬ (HT.sIx xs.length 0 lo = 0 ∧ HT.sIx xs.length xs.length hi = xs.length) ∧ ∀ p,H p = none → Q (.ref p) (upd H p (.tup (cutV xs lo hi)))
theorem sl_tup:SlR X (rSlT X.K):=by
  intro pins s σ H x v vl vu lo hi sl Q I rx hs pl pu h
  obtain ⟨a,xs,rfl,hx,hw,q⟩:=h
  cases rx
  obtain ⟨its,r,ht,hz⟩:=I.tuple hx
  have hlen:its.toArray.size = xs.length:=by rw [List.size_toArray]; exact r.length.symm
  refine ⟨"tuple",_,PyProof.Rows.slot_tuple_getitem.lookup,ht.typeIs,?_⟩
  refine HT.getItem_tuple_cut ht hs pl pu (by rw [hlen]; exact hw) ?_ (by rw [hlen]; exact hz)
  rw [hlen]
  refine ⟨.ref s.heap.objs.size,_,I.laid (t':=s.toks) (o:=.tup (cutV xs lo hi)) (fun b ob q => Heap.get?_push_of_some _ q) (Nat.le_refl _) ?_,rfl,q _ (I.hok.fresh (Nat.le_refl _))⟩
  exact ⟨Nat.le_trans (cutV_length xs lo hi) hz,_,(r.drop (HT.sIx xs.length 0 lo)).take (HT.sIx xs.length xs.length hi - HT.sIx xs.length 0 lo),IsTup.new _ _⟩
noncomputable def rCatT (K:PySem.W.Frag):R2:=fun x y H Q => ∃ a b xs ys,x = .ref a ∧ y = .ref b ∧ SqT K H a xs ∧ SqT K H b ys ∧ xs ≠ [] ∧ xs.length + ys.length ≤ sizeLine ∧
  (ys = [] → Q (.ref a) H) ∧ (ys ≠ [] → ∀ p,H p = none → Q (.ref p) (upd H p (.tup (xs ++ ys))))
theorem Vals.nil_iff {xs:List V} {us:List Value} (r:Vals xs us):us = [] ↔ xs = []:=by
  cases r with
  | nil => simp
  | cons _ _ => simp
theorem op_catT:OpR X (binaryOp .Add) (rCatT X.K):=by
  intro pins s σ H x y v u Q I rx ry h
  obtain ⟨a,b,xs,ys,rfl,rfl,ha,hb,hx,hz,q1,q2⟩:=h
  cases rx
  cases ry
  obtain ⟨its,r1,p1,_⟩:=I.tuple ha
  obtain ⟨its2,r2,p2,_⟩:=I.tuple hb
  refine HT.cat_tup p1 p2 (fun z => hx (r1.nil_iff.mp z)) (fun z => ⟨.ref a,H,I,rfl,q1 (r2.nil_iff.mp z)⟩) (fun z => ?_) (by rw [← r1.length,← r2.length]; exact hz)
  refine ⟨.ref s.heap.objs.size,_,I.laid (t':=s.toks) (o:=.tup (xs ++ ys)) (fun b ob q => Heap.get?_push_of_some _ q) (Nat.le_refl _) ?_,rfl,q2 (fun w => z (r2.nil_iff.mpr w)) _ (I.hok.fresh (Nat.le_refl _))⟩
  exact ⟨by rw [List.length_append]; exact hz,_,r1.append r2,IsTup.new _ _⟩
end
end L2
namespace L2
open PySem PySem.Spec PyProof.Rows
noncomputable def ixN (n:Nat) (i:Int):Option Nat:=if 0 ≤ i then (if i < n then some i.toNat else none) else if -(n:Int) ≤ i then some (i + n).toNat else none
noncomputable def atI {α:Type} (xs:List α) (i:Int):Option α:=(ixN xs.length i).bind fun j => xs[j]?
theorem ixN_seq {n:Nat} {i:Int} {j:Nat} (h:ixN n i = some j):seqIndex? i n = some j ∧ j < n ∧ -(n:Int) ≤ i ∧ i < n:=by
  unfold ixN at h
  by_cases h0:0 ≤ i
  · rw [if_pos h0] at h
    by_cases h1:i < n
    · rw [if_pos h1] at h
      have e:i.toNat = j:=Option.some.inj h
      exact ⟨by rw [seqIndex_of h0 h1,e],by omega,by omega,h1⟩
    · rw [if_neg h1] at h; cases h
  · rw [if_neg h0] at h
    by_cases h1:-(n:Int) ≤ i
    · rw [if_pos h1] at h
      have e:(i + n).toNat = j:=Option.some.inj h
      exact ⟨by rw [seqIndex_neg (by omega) h1,e],by omega,h1,by omega⟩
    · rw [if_neg h1] at h; cases h
theorem atI_get {α:Type} {xs:List α} {i:Int} {v:α} (h:atI xs i = some v):∃ j,seqIndex? i xs.length = some j ∧ xs[j]? = some v ∧ j < xs.length ∧ -(xs.length:Int) ≤ i ∧ i < xs.length:=by
  unfold atI at h
  cases e:ixN xs.length i with
  | none => rw [e] at h; cases h
  | some j =>
    rw [e] at h
    obtain ⟨h1,h2,h3,h4⟩:=ixN_seq e
    exact ⟨j,h1,h,h2,h3,h4⟩
noncomputable def PlainIx (b:Expr):Prop:=∀ o i,subscripted b false o i = operate [o,i] (getItem o i)
noncomputable def IxR (X:Cx) (r:R2):Prop :=
  ∀ (value slice:Expr) (pins:List (Addr × Obj)) (s:Shared) (σ:St) (H:Hp) (x y:V) (v u:Value) (Q:VK),Inv X pins σ H s → RelV x v → RelV y u → r x y H Q →
    subscripted slice false v u = operate [v,u] (getItem v u) → wpAny (model X.prog X.w) X.A (subscriptTail value slice v u) (EP X pins σ Q) X.xe s
noncomputable def MtR (X:Cx) (id:String) (r:V → List V → Hp → VK → Prop):Prop :=
  ∀ (pins:List (Addr × Obj)) (s:Shared) (σ:St) (H:Hp) (x:V) (xs:List V) (v:Value) (us:List Value) (Q:VK),Inv X pins σ H s → RelV x v → Vals xs us → r x xs H Q →
    wpAny (model X.prog X.w) X.A (call (.builtin id) (v :: us)) (EP X pins σ Q) X.xe s
section
variable {X:Cx} {a b:Expr} {ta tb:TE} {pos:Pos}
theorem IxR.or {r r':R2} (h:IxR X r) (h':IxR X r'):IxR X (fun x y H Q => r x y H Q ∨ r' x y H Q):=by
  intro value slice pins s σ H x y v u Q I rx ry q hs
  rcases q with q | q
  · exact h value slice pins s σ H x y v u Q I rx ry q hs
  · exact h' value slice pins s σ H x y v u Q I rx ry q hs
theorem pe_ix {r:R2} (hr:IxR X r) (ha:PE X a ta) (hb:PE X b tb) (hs:PlainIx b):PE X (.Subscript a b pos) (tOp r ta tb):=by
  intro pins s σ H Q I h
  exact Subscript_ (binT ha hb I h fun v u s2 x y H2 I2 rx ry q => hr a b pins s2 σ H2 x y v u Q I2 rx ry q (hs _ _))
noncomputable def rIxL (K:PySem.W.Frag):R2:=fun x y H Q => ∃ p xs i v,x = .ref p ∧ y = .int i ∧ SqL K H p xs ∧ atI xs i = some v ∧ Q v H
noncomputable def rIxT (K:PySem.W.Frag):R2:=fun x y H Q => ∃ p xs i v,x = .ref p ∧ y = .int i ∧ SqT K H p xs ∧ atI xs i = some v ∧ Q v H
noncomputable def rIxS:R2:=fun x y H Q => ∃ z i c,x = .str z ∧ y = .int i ∧ z.length ≤ sizeLine ∧ atI z.cps.toList i = some c ∧ Q (.str ⟨#[c]⟩) H
theorem ix_list:IxR X (rIxL X.K):=by
  intro value slice pins s σ H x y v u Q I rx ry h hs
  obtain ⟨p,xs,i,z,rfl,rfl,hq,he,q⟩:=h
  cases rx
  obtain ⟨t,rfl⟩:=ry
  obtain ⟨its,r,pl,hz⟩:=I.list hq
  obtain ⟨j,h1,h2,h3,h4,h5⟩:=atI_get he
  obtain ⟨w,ew,rw'⟩:=r.get h2
  have hl:=r.length
  have hn:=line63
  have fin:EP X pins σ Q w s:=⟨z,H,I,rw',q⟩
  by_cases h0:0 ≤ i
  · have hj:i.toNat = j:=by
      rw [seqIndex_of h0 h5] at h1
      exact Option.some.inj h1
    exact item_listR pl.isList h0 (by omega) (by rw [hj]; simpa using ew) fin hs
  · have hj:(i + (its.toArray.size:Int)).toNat = j:=by
      rw [seqIndex_neg (by omega) h4] at h1
      rw [List.size_toArray,← hl]
      exact Option.some.inj h1
    exact subscriptTail_builtinR (x:=w) pl.isList.typeIs slot_list_getitem.lookup
      (wpAny_getItem_list_neg (Q:=fun r s' => r = w ∧ EP X pins σ Q r s') pl.isList (by omega) (by rw [List.size_toArray] <;> omega) (by omega) (by rw [hj]; simpa using ew) ⟨rfl,fin⟩) hs
theorem ix_tup:IxR X (rIxT X.K):=by
  intro value slice pins s σ H x y v u Q I rx ry h hs
  obtain ⟨p,xs,i,z,rfl,rfl,hq,he,q⟩:=h
  cases rx
  obtain ⟨t,rfl⟩:=ry
  obtain ⟨its,r,pl,hz⟩:=I.tuple hq
  obtain ⟨j,h1,h2,h3,h4,h5⟩:=atI_get he
  obtain ⟨w,ew,rw'⟩:=r.get h2
  have hl:=r.length
  have hn:=line63
  have fin:EP X pins σ Q w s:=⟨z,H,I,rw',q⟩
  exact subscriptTail_builtinR (x:=w) pl.typeIs slot_tuple_getitem.lookup
    (getItem_tuple (j:=j) (Q:=fun r s' => r = w ∧ EP X pins σ Q r s') pl (by omega) (by omega) (by rw [List.size_toArray,← hl]; exact h1) (by simpa using ew) ⟨rfl,fin⟩) hs
theorem ix_str:IxR X rIxS:=by
  intro value slice pins s σ H x y v u Q I rx ry h hs
  obtain ⟨z,i,c,rfl,rfl,hz,he,q⟩:=h
  obtain ⟨t,rfl⟩:=rx
  obtain ⟨t',rfl⟩:=ry
  obtain ⟨j,h1,h2,h3,h4,h5⟩:=atI_get he
  have hl:z.cps.toList.length = z.length:=by simp [Str.length]
  rw [hl] at h1 h4 h5
  have hn:=line63
  exact tail_any (typeIs_str s z t) slot_str_getitem.lookup (getItem_str (c:=c) (by
    have e1:decide (i < -(2 ^ 63:Int)) = false:=decide_eq_false (by omega)
    have e2:decide (i ≥ 2 ^ 63) = false:=decide_eq_false (by omega)
    rw [e1,e2,Bool.or_false]) (by rw [h1]; simpa using h2) ⟨.str ⟨#[c]⟩,H,I.tok _,⟨_,rfl⟩,q⟩) hs
noncomputable def rIx (K:PySem.W.Frag):R2:=fun x y H Q => rIxL K x y H Q ∨ rIxT K x y H Q ∨ rIxS x y H Q
theorem ix_seq:IxR X (rIx X.K):=ix_list.or (ix_tup.or ix_str)
theorem mapSeq_set (its:List Value) (n j:Nat) (u:Value):Obj.mapSeq (·.setIfInBounds j u) { cls:=.type "list",data:=.seq its.toArray n } = { cls:=.type "list",data:=.seq (its.set j u).toArray n }:=by
  simp [Obj.mapSeq]
theorem Inv.lst {pins:List (Addr × Obj)} {σ:St} {H:Hp} {s:Shared} {p:Addr} {xs:List V} (I:Inv X pins σ H s) (h:H p = some (.lst xs)) :
    ∃ (its:List Value) (n:Nat),Vals xs its ∧ s.heap.get? p = some { cls:=.type "list",data:=.seq its.toArray n } ∧ xs.length ≤ sizeLine:=by
  obtain ⟨z,its,n,r,e⟩:=I.hok p _ h
  exact ⟨its,n,r,e,z⟩
theorem Inv.lstUpd {pins:List (Addr × Obj)} {σ:St} {H:Hp} {s:Shared} {p:Addr} {xs ys:List V} {its its':List Value} {n n':Nat} {f:Obj → Obj} (I:Inv X pins σ H s) (h:H p = some (.lst xs))
    (ho:s.heap.get? p = some { cls:=.type "list",data:=.seq its.toArray n }) (hf:f { cls:=.type "list",data:=.seq its.toArray n } = { cls:=.type "list",data:=.seq its'.toArray n' }) (r:Vals ys its') (hz:ys.length ≤ sizeLine) (t:Nat) :
    Inv X pins σ (upd H p (.lst ys)) { s with heap:=s.heap.update p f,toks:=t }:=by
  have e:(s.heap.update p f).get? p = some { cls:=.type "list",data:=.seq its'.toArray n' }:=by
    rw [Heap.get?_update_self f ho (by rw [hf] <;> rfl),hf]
  refine I.write (x:=p) (e:=p) (by rw [h]; trivial) (.inl rfl) (fun b u hb q => (Heap.get?_update_other _ _ (Ne.symm hb)).trans q) ⟨_,e⟩ ?_
  exact ⟨hz,its',n',r,e⟩
noncomputable def rSetL:V → V → V → Hp → (Hp → Prop) → Prop:=fun o i v H Q => ∃ p xs k j,o = .ref p ∧ i = .int k ∧ H p = some (.lst xs) ∧ ixN xs.length k = some j ∧ Q (upd H p (.lst (xs.set j v)))
theorem set_list:PSet X rSetL:=by
  intro pins s σ H o i v ov iv u Q I ro ri rv h
  obtain ⟨p,xs,k,j,rfl,rfl,hp,hj,q⟩:=h
  cases ro
  obtain ⟨t,rfl⟩:=ri
  obtain ⟨its,n,r,ho,hz⟩:=I.lst hp
  obtain ⟨h1,h2,h3,h4⟩:=ixN_seq hj
  have hl:=r.length
  have hn:=line63
  have I':Inv X pins σ (upd H p (.lst (xs.set j v))) { s with heap:=s.heap.update p (Obj.mapSeq (·.setIfInBounds j u)) } :=
    I.lstUpd hp ho (mapSeq_set its n j u) (r.set rv j) (by rw [List.length_set]; exact hz) s.toks
  by_cases h0:0 ≤ k
  · have hk:k.toNat = j:=by
      rw [seqIndex_of h0 h4] at h1
      exact Option.some.inj h1
    exact PySem.W.ki_setAt ho h0 (by omega) (by rw [List.size_toArray,← hl]; exact h4) (by rw [hk]; exact ⟨_,I',q⟩)
  · have hk:(k + (its.toArray.size:Int)).toNat = j:=by
      rw [seqIndex_neg (by omega) h3] at h1
      rw [List.size_toArray,← hl]
      exact Option.some.inj h1
    exact PySem.W.ki_setBack ho (by omega) (by rw [List.size_toArray,← hl]; exact h3) (by omega) (by rw [hk]; exact ⟨_,I',q⟩)
theorem slice_bounds (lo hi:Option Int) (n:Nat):(sliceBounds lo hi none n).1 = ((HT.sIx n 0 lo:Nat):Int) ∧ (sliceBounds lo hi none n).2.1 = ((HT.sIx n n hi:Nat):Int) ∧ (sliceBounds lo hi none n).2.2 = 1:=by
  refine ⟨?_,?_,rfl⟩
  · cases lo with
    | none => simp [sliceBounds,HT.sIx]
    | some i =>
      simp only [sliceBounds,HT.sIx,Option.getD_none,show (1:Int) > 0 by decide,if_true]
      by_cases h:i < 0
      · simp only [h,if_true] <;> omega
      · simp only [h,if_false] <;> omega
  · cases hi with
    | none => simp [sliceBounds,HT.sIx]
    | some i =>
      simp only [sliceBounds,HT.sIx,Option.getD_none,show (1:Int) > 0 by decide,if_true]
      by_cases h:i < 0
      · simp only [h,if_true] <;> omega
      · simp only [h,if_false] <;> omega
theorem slicePick_cut (its:List Value) (lo hi:Option Int):slicePick its.toArray lo hi none = ((its.drop (HT.sIx its.length 0 lo)).take (HT.sIx its.length its.length hi - HT.sIx its.length 0 lo)).toArray:=by
  obtain ⟨h1,h2,h3⟩:=slice_bounds lo hi its.toArray.size
  unfold slicePick
  rw [h1,h2,h3]
  simp only [sliceRange_one,pick_run,List.size_toArray] <;> rfl
noncomputable def rSlL (K:PySem.W.Frag):V → Option Int → Option Int → Hp → VK → Prop:=fun x lo hi H Q => ∃ a xs,x = .ref a ∧ SqL K H a xs ∧ ∀ p,H p = none → Q (.ref p) (upd H p (.lst (cutV xs lo hi)))
theorem sl_list:SlR X (rSlL X.K):=by
  intro pins s σ H x v vl vu lo hi sl Q I rx hs pl pu h
  obtain ⟨a,xs,rfl,hx,q⟩:=h
  cases rx
  obtain ⟨its,r,ht,hz⟩:=I.list hx
  have hlen:=r.length
  refine ⟨"list",_,slot_list_getitem.lookup,ht.isList.typeIs,?_⟩
  refine wpAny_getItem_list_slice ht.isList hs pl pu .none (by simp) ?_ (by rw [List.size_toArray] <;> omega)
  rw [slicePick_cut,← hlen]
  refine ⟨.ref s.heap.objs.size,_,I.laid (t':=s.toks) (o:=.lst (cutV xs lo hi)) (fun b ob q => Heap.get?_push_of_some _ q) (Nat.le_refl _) ?_,rfl,q _ (I.hok.fresh (Nat.le_refl _))⟩
  exact ⟨Nat.le_trans (cutV_length xs lo hi) hz,_,0,(r.drop (HT.sIx xs.length 0 lo)).take (HT.sIx xs.length xs.length hi - HT.sIx xs.length 0 lo),Heap.get?_push_size _ rfl⟩
theorem call_list_of:CallR X (.type "list") (fun xs H Q => ∃ p ys,xs = [.ref p] ∧ (SqL X.K H p ys ∨ SqT X.K H p ys) ∧ ∀ l,H l = none → Q (.ref l) (upd H l (.lst ys))):=by
  intro pins s σ H xs us Q I r h
  obtain ⟨p,ys,rfl,hq,q⟩:=h
  obtain ⟨u,rfl,rx⟩:=vals1 r
  cases rx
  have fin:∀ (its:List Value),Vals ys its → ys.length ≤ sizeLine → ∀ (h':Heap) (c':Nat),(∀ b o',s.heap.get? b = some o' → h'.get? b = some o') →
      h'.get? s.heap.objs.size = some { cls:=.type "list",dict:=none,data:=.seq its.toArray c',slots:=#[] } → EP X pins σ Q (.ref s.heap.objs.size) { s with heap:=h' }:=fun its r' hz h' c' kp e =>
    ⟨.ref s.heap.objs.size,_,I.laid (t':=s.toks) kp (Nat.le_refl _) (show ObjOk X.prog X.w _ h' _ (.lst ys) from ⟨hz,its,c',r',e⟩),rfl,q _ (I.hok.fresh (Nat.le_refl _))⟩
  rcases hq with hq | hq
  · obtain ⟨its,r',pl,hz⟩:=I.list hq
    have hlen:=r'.length
    obtain ⟨o,ho,hc,n,hd⟩:=pl.isList
    exact call_list_seq p (.inl rfl) ho hc hd (fun h' c' kp e => fin its r' hz h' c' kp e) (by simp only [List.size_toArray] <;> omega)
  · obtain ⟨its,r',pl,hz⟩:=I.tuple hq
    have hlen:=r'.length
    obtain ⟨o,ho,hc,n,hd⟩:=pl
    exact call_list_seq p (.inr rfl) ho hc hd (fun h' c' kp e => fin its r' hz h' c' kp e) (by simp only [List.size_toArray] <;> omega)
noncomputable def tyV (K:PySem.W.Frag) (T:String) (x:V) (H:Hp):Prop:=match x with
  | .str _ => T = "str"
  | .int _ => T = "int"
  | .ref p => (T = "list" ∧ ∃ xs,SqL K H p xs) ∨ (T = "tuple" ∧ ∃ o,K.lookup p = some o ∧ o.cls = .type "tuple" ∧ o.dict = none) ∨
      (T = "dict" ∧ ((∃ kvs,H p = some (.dK kvs)) ∨ ∃ kvs,H p = some (.dT kvs))) ∨ (T = "set" ∧ ∃ S n,H p = some (.set S n))
  | _ => False
theorem tyV_is {pins:List (Addr × Obj)} {σ:St} {H:Hp} {s:Shared} {T:String} {x:V} {v:Value} (I:Inv X pins σ H s) (r:RelV x v) (ty:tyV X.K T x H) :
    s.TypeIs v T ∧ ∀ a,v = .ref a → ∃ ob,s.heap.get? a = some ob ∧ ob.dict = none:=by
  cases x with
  | str z =>
    obtain ⟨t,rfl⟩:=r
    cases (show T = "str" from ty)
    exact ⟨typeIs_str s z t,fun _ e => nomatch e⟩
  | int i =>
    obtain ⟨t,rfl⟩:=r
    cases (show T = "int" from ty)
    exact ⟨typeIs_int s i t,fun _ e => nomatch e⟩
  | ref p =>
    cases r
    rcases ty with ⟨rfl,xs,hq⟩ | ⟨rfl,o,hk,hc,hd⟩ | ⟨rfl,hk⟩ | ⟨rfl,S,n,hk⟩
    · obtain ⟨its,_,pl,_⟩:=I.list hq
      refine ⟨pl.isList.typeIs,fun a e => ?_⟩
      cases e
      obtain ⟨o,n,e,c,hd,_⟩:=pl
      exact ⟨o,e,hd⟩
    · refine ⟨⟨o,I.kIn p o hk,hc⟩,fun a e => ?_⟩
      cases e
      exact ⟨o,I.kIn _ o hk,hd⟩
    · have z:∃ o,s.heap.get? p = some o ∧ o.ExactDict:=by
        rcases hk with ⟨kvs,hk⟩ | ⟨kvs,hk⟩
        · obtain ⟨_,_,_,_,o,_,_,e,ex,_⟩:=I.hok p _ hk
          exact ⟨o,e,ex⟩
        · obtain ⟨_,_,_,_,o,_,_,e,ex,_⟩:=I.hok p _ hk
          exact ⟨o,e,ex⟩
      obtain ⟨o,e,ex⟩:=z
      refine ⟨⟨o,e,ex.1⟩,fun a e2 => ?_⟩
      cases e2
      exact ⟨o,e,ex.2.1⟩
    · obtain ⟨o,_,_,_,e,ex,_⟩:=I.hok p _ hk
      refine ⟨⟨o,e,ex.1⟩,fun a e2 => ?_⟩
      cases e2
      exact ⟨o,e,ex.2.1⟩
  | _ => exact False.elim ty
noncomputable def tBM0 (K:PySem.W.Frag) (T:String) (r:V → List V → Hp → VK → Prop) (to:TE):TE:=fun σ H Q => to σ H fun x H1 => tyV K T x H1 ∧ r x [] H1 Q
noncomputable def tBM (K:PySem.W.Frag) (T:String) (r:V → List V → Hp → VK → Prop) (to:TE) (t:TA):TE:=fun σ H Q => to σ H fun x H1 => tyV K T x H1 ∧ t σ H1 fun xs H2 => r x xs H2 Q
variable {o e:Expr} {es:List Expr} {to:TE} {t:TA} {name:Str} {apos cpos:Pos} {T id:String} {r:V → List V → Hp → VK → Prop}
theorem pe_bm0 (pa:PlainAttrs T) (slot:Slot T name id) (hty:typeOf (.builtin id) = pure (.type "method_descriptor")) (hm:MtR X id r) (ho:PE X o to)
    (hbase:attributeBase o name X.env (eval o X.env) = eval o X.env:=by rfl) (hline:(apos.endLine == cpos.line) = true:=by rfl):PE X (.Call (.Attribute o name apos) [] [] cpos) (tBM0 X.K T r to):=by
  intro pins s σ H Q I h
  refine wpAny_Call_method0_late hbase hline (thn (ho pins s σ H _ I h) fun v s1 ⟨x,H1,I1,r1,ty,q1⟩ => ?_)
  obtain ⟨h1,h2⟩:=tyV_is I1 r1 ty
  exact ⟨T,id,pa,slot,hty,h1,h2,Calls.callWith_builtin rfl (PySem.evalArgs_none (hm pins s1 σ H1 x [] v [] Q I1 r1 .nil q1))⟩
theorem pe_bm (pa:PlainAttrs T) (slot:Slot T name id) (hty:typeOf (.builtin id) = pure (.type "method_descriptor")) (hm:MtR X id r) (ho:PE X o to) (ha:PA X (e :: es) t)
    (hbase:attributeBase o name X.env (eval o X.env) = eval o X.env:=by rfl)
    (hfew:((backTo cpos (starEach (e :: es) X.env)).all (fun x => !x.1) && (backToKw cpos (keywordEach [] X.env)).all (fun x => x.1.isSome)
      && decide ((e :: es).length + ([]:List Keyword).length + (if ([]:List Keyword).isEmpty then 0 else 1) < 30)) = true:=by rfl)
    (hline:(apos.endLine == cpos.line) = true:=by rfl) (hs:starEach (e :: es) X.env = (false,eval e X.env) :: starEach es X.env:=by rfl) (hplain:(backTo cpos (starEach es X.env)).any (·.1) = false:=by rfl) :
    PE X (.Call (.Attribute o name apos) (e :: es) [] cpos) (tBM X.K T r to t):=by
  intro pins s σ H Q I h
  refine wpAny_Call_method_late hbase hfew hline rfl (thn (ho pins s σ H _ I h) fun v s1 ⟨x,H1,I1,r1,ty,q1⟩ => ?_)
  obtain ⟨h1,h2⟩:=tyV_is I1 r1 ty
  refine ⟨T,id,pa,slot,hty,h1,h2,?_⟩
  have hA:=ha cpos pins s1 σ H1 _ I1 q1
  rw [hs] at hA ⊢
  refine Calls.callWith_builtin (by show (false || (backTo cpos (starEach es X.env)).any (·.1)) = false; rw [hplain] <;> rfl) (Calls.evalArgs_plain ?_)
  exact thn hA fun us s2 ⟨vs,H2,I2,r2,q2⟩ => hm pins s2 σ H2 x vs v us Q I2 r1 r2 q2
end
end L2
namespace L2
open PySem PySem.Spec PyProof.Rows
noncomputable def MtM (X:Cx) (id:String) (r:V → List V → Hp → VK → Prop):Prop :=
  ∀ (pins:List (Addr × Obj)) (s:Shared) (σ:St) (H:Hp) (x:V) (xs:List V) (v:Value) (us:List Value) (Q:VK),Inv X pins σ H s → RelV x v → Vals xs us → r x xs H Q →
    wpAny (model X.prog X.w) X.A (call (.builtin id) (v :: us)) (EP X pins σ Q) X.xe s
theorem Vals.one:∀ {x:V} {us:List Value},Vals [x] us → ∃ u,us = [u] ∧ RelV x u
  | _,_,.cons r .nil => ⟨_,rfl,r⟩
theorem Vals.zero:∀ {us:List Value},Vals [] us → us = []
  | _,.nil => rfl
section
variable {X:Cx} {pins:List (Addr × Obj)} {σ:St} {H:Hp} {s:Shared} {l b:Addr} {xs ys zs:List V}
theorem Inv.lset {its its':List Value} {n:Nat} {f:Array Value → Array Value} {t':Nat} (I:Inv X pins σ H s) (hH:H l = some (.lst xs))
    (e:s.heap.get? l = some { cls:=.type "list",data:=.seq its.toArray n }) (hf:f its.toArray = its'.toArray) (hv:Vals ys its') (hz:ys.length ≤ sizeLine) :
    Inv X pins σ (upd H l (.lst ys)) { s with heap:=s.heap.update l (Obj.mapSeq f),toks:=t' }:=by
  have q:=PySem.IsL.update e f
  rw [hf] at q
  refine I.write (x:=l) (e:=l) (by rw [hH]; exact trivial) (.inl rfl) (fun b' u hb hu => (Heap.get?_update_other s.heap (Obj.mapSeq f) (Ne.symm hb)).trans hu) ⟨_,q⟩ ?_
  exact ⟨hz,its',_,hv,q⟩
theorem Inv.lnew {its:List Value} {t':Nat} (I:Inv X pins σ H s) (hv:Vals ys its) (hz:ys.length ≤ sizeLine) :
    Inv X pins σ (upd H s.heap.objs.size (.lst ys)) { s with heap:=s.heap.push { cls:=.type "list",data:=.seq its.toArray },toks:=t' } :=
  I.laid (fun _ _ q => Heap.get?_push_of_some _ q) (Nat.le_refl _) ⟨hz,its,0,hv,Heap.get?_push_size _ rfl⟩
theorem Inv.fresh (I:Inv X pins σ H s):H s.heap.objs.size = none:=I.hok.fresh (Nat.le_refl _)
theorem Inv.lstM (I:Inv X pins σ H s) (hH:H l = some (.lst xs)):xs.length ≤ sizeLine ∧ ∃ (its:List Value) (n:Nat),Vals xs its ∧ xs.length = its.length ∧ s.heap.get? l = some { cls:=.type "list",data:=.seq its.toArray n }:=by
  obtain ⟨z,its,n,r,e⟩:=I.hok l _ hH
  exact ⟨z,its,n,r,r.length,e⟩
end
section
variable {X:Cx}
noncomputable def rAppend:V → List V → Hp → VK → Prop:=fun x vs H Q => ∃ l xs y,x = .ref l ∧ vs = [y] ∧ H l = some (.lst xs) ∧ xs.length < sizeLine ∧ Q .non (upd H l (.lst (xs ++ [y])))
theorem mt_append:MtM X "list.append" rAppend:=by
  intro pins s σ H x vs v us Q I rx rv h
  obtain ⟨l,xs,y,rfl,rfl,hH,hz,q⟩:=h
  cases rx
  obtain ⟨u,rfl,ru⟩:=rv.one
  obtain ⟨z,its,n,r,hl,e⟩:=I.lstM hH
  refine call_meets F.slot_list_append ⟨_,e,rfl⟩ F.entry_list_append (F.args_list_append_2 _ _) (PySem.list_append l its.toArray n u (by rw [List.size_toArray]; omega)) ⟨e,?_⟩
  refine ⟨.non,_,I.lset (its':=its ++ [u]) hH e (by simp) (r.append (.cons ru .nil)) ?_,rfl,q⟩
  rw [List.length_append,List.length_singleton]
  omega
end
section
variable {prog:Program} {w:World} {A:Around} {E:Value → Shared → Prop} {s:Shared}
set_option maxRecDepth 100000 in
end
section
variable {X:Cx}
end
end L2
namespace L2
open PySem PySem.Spec PyProof.Rows
section
variable {κ:Type} [DecidableEq κ]
noncomputable def valV (kvs:List (κ × V)) (k:κ):Option V:=(kvs.find? fun kv => decide (kv.1 = k)).map (·.2)
theorem valV_pos {p:κ × V} {r:List (κ × V)} {k:κ} (e:p.1 = k):valV (p :: r) k = some p.2:=by simp [valV,List.find?_cons,e]
theorem valV_neg {p:κ × V} {r:List (κ × V)} {k:κ} (e:¬ p.1 = k):valV (p :: r) k = valV r k:=by simp [valV,List.find?_cons,e]
theorem RelO.isSome_eq {o:Option V} {u:Option Value} (r:RelO o u):o.isSome = u.isSome:=by
  cases o with
  | none => cases u with
    | none => rfl
    | some _ => exact (show False from r).elim
  | some _ => cases u with
    | none => exact (show False from r).elim
    | some _ => rfl
theorem KV.val {kvs:List (κ × V)} {vs:List (κ × Value)} (r:KV kvs vs) (k:κ):RelO (valV kvs k) (valueAt vs k):=by
  unfold KV at r
  induction r with
  | nil => exact True.intro
  | @cons p q ps qs h t ih =>
    obtain ⟨h1,h2⟩:=h
    by_cases e:p.1 = k
    · have e':q.1 = k:=h1.symm.trans e
      have b:valueAt (q :: qs) k = some q.2:=by simp [valueAt,List.find?_cons,e']
      rw [valV_pos e,b]; exact h2
    · have e':¬ q.1 = k:=fun z => e (h1.trans z)
      have b:valueAt (q :: qs) k = valueAt qs k:=by simp [valueAt,List.find?_cons,e']
      rw [valV_neg e,b]; exact ih
end
theorem kV_is {P:Program} {w:World} {k:Key} {u:Value} (r:RelV (kV k) u):(mixKind P w).is k u = true:=by
  cases k with
  | inl i => obtain ⟨t,e⟩:=(show ∃ t,u = Value.int i t from r); subst e; exact mixKind_int P w i t
  | inr x => obtain ⟨t,e⟩:=(show ∃ t,u = Value.str x t from r); subst e; exact mixKind_str P w x t
section
variable {P:Program} {w:World} {H:Hp} {h:Heap} {a:Addr}
end
section
variable {X:Cx} {pins:List (Addr × Obj)} {σ:St} {H:Hp} {s:Shared} {a:Addr} {y v:V} {u r:Value} {o:Option V} {A:Around} {E:Value → Shared → Prop}
end
section
variable {X:Cx} {pins:List (Addr × Obj)} {σ:St} {H:Hp} {s:Shared} {a:Addr} {kvs:List (Key × V)} {k:Key} {u:Value} {A:Around} {E:Value → Shared → Prop}
end
noncomputable def NoSl (i:Expr):Prop:=∀ ov iv,subscripted i false ov iv = operate [ov,iv] (getItem ov iv)
theorem subD_of {prog:Program} {w:World} {A:Around} {E:Value → Shared → Prop} {s:Shared} {env:Env} {value slice:Expr} {pos:Pos} {T id:String} {Q:Value → Shared → Prop}
    (hl:typeLookup (.type T) "__getitem__" = pure (some (.builtin id))) (hs:NoSl slice)
    (h:wpAny (model prog w) A (eval value env) (fun o s₁ => wpAny (model prog w) A (eval slice env) (fun i s₂ => s₂.TypeIs o T ∧ wpAny (model prog w) A (getItem o i) Q E s₂) E s₁) E s) :
    wpAny (model prog w) A (eval (.Subscript value slice pos) env) Q E s:=by
  refine Subscript_ (wpAny_mono h (fun o s₁ h₁ => wpAny_mono h₁ (fun i s₂ h₂ => ?_) fun _ _ x => x) fun _ _ x => x)
  obtain ⟨hT,h₂⟩:=h₂
  unfold subscriptTail
  refine wpAny_bind ?_
  rw [getitemInPython_of_ne hT.not_modules]
  refine wpAny_bind (wpAny_specialOf hT hl ?_)
  have fin:wpAny (model prog w) A (subscripted slice false o i) (fun r s₃ => wpAny (model prog w) A (letTemporaryGo value o r >>= fun _ => pure r) Q E s₃) E s₂:=by
    rw [hs o i]
    exact wpAny_operating (wpAny_mono h₂ (fun r s₃ h₃ => wpAny_bind (wpAny_letTemporaryGo (wpAny_pure h₃))) fun _ _ x => x)
  first
    | exact wpAny_pure (wpAny_bind fin)
    | exact wpAny_bind (wpAny_pure (wpAny_bind fin))
    | exact wpAny_bind fin
section
variable {X:Cx} {o i e value:Expr} {pos pos' tpos:Pos} {td ty tv:TE}
end
section
variable {X:Cx} {pos:Pos}
end
section
variable {X:Cx} {pins:List (Addr × Obj)} {σ:St} {H:Hp} {s:Shared} {a:Addr} {y d:V} {u r:Value} {o:Option V} {A:Around} {E:Value → Shared → Prop}
end
section
variable {X:Cx} {o e f:Expr} {apos cpos:Pos} {td ty tx:TE}
end
section
variable {X:Cx} {pins:List (Addr × Obj)} {σ:St} {H:Hp} {s:Shared} {a:Addr} {kvs:List (Key × V)} {A:Around} {E:Value → Shared → Prop}
end
section
variable {X:Cx} {pins:List (Addr × Obj)} {σ:St} {H:Hp} {s:Shared} {a:Addr} {y:V} {u:Value} {A:Around} {E:Value → Shared → Prop}
end
end L2
namespace Att
open PySem PySem.W PySem.Calls PyProof.Rows
theorem ints_of_wellAll {P:Params} {h:Heap}:∀ (ns:List Int) (vs:List Value),WellAll P h vs (ns.map WData.int) → IntsAre vs ns:=by
  intro ns
  induction ns with
  | nil =>
    intro vs w
    rw [List.map_nil] at w
    cases w
    exact .nil
  | cons n ns ih =>
    intro vs w
    rw [List.map_cons] at w
    cases w with
    | cons a b =>
      cases a
      exact .cons _ _ (ih _ b)
theorem script_of {l:OpenLaw} {n:Nat} (hn:l.most = some n) {P:Params} {h:Heap} {args:List WData} {vals:List Value}
    (hpre:l.row.toRowW.claim.pre args = true) (hwl:WellAll P h vals args) :
    ∃ a vs ns,vals = [Value.ref a] ∧ args = [WData.list (ns.map WData.int)] ∧ h.get? a = some { cls:=.type "list",data:=.seq vs.toArray } ∧ IntsAre vs ns ∧ ns.length ≤ n:=by
  have hsh:WShape.hasAll [] args [.list .int] = true:=(pre_splitW hpre).1
  have hc:l.pre.holds [] { args:=args } = true:=(pre_splitW hpre).2
  obtain ⟨d,r,rfl,h1,h2⟩:=hasAllW_cons hsh
  obtain rfl:=hasAllW_nil h2
  obtain ⟨xs,rfl,h3⟩:=hasW_list h1
  obtain ⟨ns,rfl⟩:=items_int h3
  have hlen:ns.length ≤ n:=by
    unfold OpenLaw.pre at hc
    have h4:(WTm.not (.lt (.lit (.int (n:Int))) (.len (.arg 0)))).holds [] { args:=[.list (ns.map .int)] } = true:=by
      have h4:=(holds_andW hc).1
      rw [hn] at h4
      exact h4
    have h5:=condW_of h4 (w_not (w_lt w_lit (w_len_list (w_arg rfl))))
    rw [List.length_map] at h5
    refine Nat.le_of_not_lt fun q => ?_
    have q':(n:Int) < ((ns.length:Nat):Int):=by omega
    first
      | (rw [decide_eq_true q'] at h5; exact absurd h5 (by decide))
      | (simp at h5; omega)
  cases hwl with
  | cons w1 w2 =>
    cases w2
    cases w1 with
    | list ho hall => exact ⟨_,_,ns,rfl,rfl,ho,ints_of_wellAll ns _ hall,hlen⟩
theorem post_true (l:OpenLaw) (args:List WData):l.row.toRowW.claim.post args (.bool true) args = true :=
  postW_of (r:=l.row.toRowW) (X:=(true == true))
    (show WShape.has [] (.bool true) .bool = true by first | rfl | decide | simp [WShape.has,WShape.arms,WShape.armsAll])
    (show (WTm.eq .res (.lit (.bool true))).value [] { args:=args,res:=some (.bool true),after:=args } = some (.bool (true == true)) from w_eq_bool (w_res rfl) w_lit) rfl
theorem attach_call {l:OpenLaw} {n:Nat} {q:Program} {loose:List Str} {XP:(Str → Option Value) → Heap → Prop} {YP:World → Heap → Prop} {d:DefRec}
    (hn:l.most = some n) (hdf:d.params.defaults = [])
    (call:∀ (w:World) (s₀ s₁:Shared) (mg mb:Str → Option Value) (fa:Addr) (o:Obj) (pm cd doc:Value) (a:Addr) (vs:List Value) (ns:List Int),
      Ground q loose [] XP w s₀ mg mb s₁.heap → YP w s₁.heap →
      s₁.heap.get? fa = some o → o.data = .func (docDef d.name d.params d.body d.scope pm cd doc) → s₁.heap.CodeRec cd d.name → mg d.name = some (.ref fa) →
      s₁.heap.get? a = some { cls:=.type "list",data:=.seq vs.toArray } → IntsAre vs ns → ns.length ≤ n → s₁.gens = #[] →
      codeAny (model l.prog w) callerA (.call (.ref fa) ⟨[.ref a],[]⟩) (fun r s' => r = .ok (.ret (.bool true)) ∧ OldK s₁.heap s'.heap ∧ s'.os = s₁.os ∧ AllBare s'.gens) s₁) :
    WalkO q loose XP YP l.row.toRowW d [] (fun f vs => PySem.call f vs):=by
  intro w s₀ s₁ mg mb G Y fa o pm cd doc dV kV ho hd hcd hD hmg hg args vals as hpre hlay hrd hwl hlo
  obtain rfl:dV = .none:=Dflts.none hD hdf
  obtain rfl:kV = .none:=Dflts.noKw hD
  obtain ⟨a,vs,ns,rfl,rfl,hobj,hints,hlen⟩:=script_of hn hpre hwl
  refine enter_call (codeAny_mono (call w s₀ s₁ mg mb fa o pm cd doc a vs ns G Y ho (fd_plain hd) hcd hmg hobj hints hlen hg) fun r s' hq => ?_)
  obtain ⟨rfl,h2,h3,h4⟩:=hq
  exact ⟨.inl ⟨.bool true,.bool true,[],rfl,fun _ => rfl,.bool true,post_true l _,fun _ => ⟨List.Pairwise.nil,fun _ hm => (nomatch hm)⟩⟩,h2,h3,h4⟩
section
variable {prog:Program} {w:World} {A:Around} {E:Value → Shared → Prop} {s:Shared} {K:Frag}
end
end Att
namespace L2
open PySem PySem.Spec PyProof.Rows
theorem vals_ints:∀ {vs:List Value} {ns:List Int},IntsAre vs ns → Vals (ns.map V.int) vs
  | _,_,.nil => .nil
  | _,_,.cons n t h => .cons ⟨t,rfl⟩ (vals_ints h)
noncomputable def Only (H:Hp):Prop:=∀ b,H b = none ∨ ∃ o xs,H b = some (.frz o (.lst xs))
theorem law_call {P:Program} {w:World} {K:PySem.W.Frag} {mg mb:Str → Option Value} {CX:CXT} {k:Nat} {fa a:Addr} {fd:FuncData} {x:Str} {sp:Sp} {s₁:Shared} {vs:List Value} {ns:List Int}
    (KX:K.In s₁.heap) (hns:s₁.heap.Ns mainGlobals mg) (hb:s₁.heap.Ns builtinsNs mb) (hbb:∀ x:Str,x ≠ "__name__" → mb x = bootBuiltins x) (hlim:s₁.heap.NoLimit) (hg:s₁.gens = #[])
    (ha:s₁.heap.get? a = some { cls:=.type "list",data:=.seq vs.toArray }) (hi:IntsAre vs ns) (hl:ns.length ≤ sizeLine) (hr:Room k callerA)
    (F:∀ base:Heap,K.In base → base.Ns mainGlobals mg → FnOk P w K mg base CX k fa fd [x] sp) (hbind:∀ (s:Shared) (u:Value),BindsTo s fd ⟨[u],[]⟩ [(x,u)])
    (hsp:∀ H:Hp,Only H → SqL K H a (ns.map V.int) → sp [.ref a] H (fun v _ => v = .bl true) fun _ _ _ => False)
    (hCX:∀ H e s',CX [] H s₁ (fun _ _ _ => False) e s' → False) :
    codeAny (model P w) callerA (.call (.ref fa) ⟨[.ref a],[]⟩) (fun r s' => r = .ok (.ret (.bool true)) ∧ OldK s₁.heap s'.heap ∧ s'.os = s₁.os ∧ AllBare s'.gens) s₁:=by
  have rv:=vals_ints hi
  have lenV:=hi.length
  have core:∀ H:Hp,Only H → SqL K H a (ns.map V.int) → HOk P w H s₁.heap → (∀ b,H b ≠ none → b = a) → (H a ≠ none → K.lookup a = none) →
      codeAny (model P w) callerA (.call (.ref fa) ⟨[.ref a],[]⟩) (fun r s' => r = .ok (.ret (.bool true)) ∧ OldK s₁.heap s'.heap ∧ s'.os = s₁.os ∧ AllBare s'.gens) s₁:=by
    intro H hO hS hok hA hK
    have base_of:∀ {b:Addr} {o:Obj},s₁.heap.get? b = some o → H b = none → (hidT s₁.heap H).get? b = some o:=fun e n => hidT_get e n
    have noA:∀ {b:Addr} {o:Obj} {es:Array DictEntry} {ep:Nat},s₁.heap.get? b = some o → o.data = .dict es ep → H b = none:=fun {b o es ep} e d => by
      cases q:H b with
      | none => rfl
      | some u =>
        have e':b = a:=hA b (by rw [q]; simp)
        subst e'
        rw [ha] at e; cases e
        have d':Data.seq vs.toArray _ = Data.dict es ep:=d
        cases d'
    have nsK:∀ {b:Addr} {m:Str → Option Value},s₁.heap.Ns b m → (hidT s₁.heap H).Ns b m:=fun {b m} ⟨o,es,ep,e,d,r⟩ => ⟨o,es,ep,base_of e (noA e d),d,r⟩
    have hKb:K.In (hidT s₁.heap H):=fun b o e => base_of (KX b o e) (by
      cases q:H b with
      | none => rfl
      | some u =>
        have e':b = a:=hA b (by rw [q]; simp)
        subst e'
        rw [hK (by rw [q]; simp)] at e; cases e)
    have hM:Mod K mg (hidT s₁.heap H):=⟨hKb,nsK hns,⟨mb,nsK hb,hbb⟩,let ⟨mc,h1,h2⟩:=hlim; ⟨mc,nsK h1,h2⟩⟩
    have e0:Env0 P w K mg (hidT s₁.heap H) callerA [] s₁ H:=⟨rfl,hM,fun b o e => of_hidT e,Nat.le_of_eq (hidT_size _ _),trivial,fun b hb => absurd (show b ∈ ([]:List Addr) from hb) (by simp),hok,.of_eq hg⟩
    refine codeAny_mono ((F _ hKb (nsK hns)).run callerA [] s₁ H ⟨[.ref a],[]⟩ [.ref a] [.ref a] _ _ hr e0 (hbind s₁ (.ref a)) (.cons rfl .nil) (hsp H hO hS)) fun r s' h => ?_
    cases r with
    | error e => exact (hCX H e s' h).elim
    | ok fl =>
      cases fl with
      | next => exact False.elim h
      | brk => exact False.elim h
      | cont => exact False.elim h
      | ret u =>
        obtain ⟨v,H',os,bare,un,hok',r',q⟩:=h
        have q':v = .bl true:=q
        subst q'
        obtain rfl:u = Value.bool true:=r'
        refine ⟨rfl,OldK.of_keep fun b o e => ?_,os,bare⟩
        cases q:H b with
        | none => exact un.keep b o e q (by intro z; exact absurd (show b ∈ ([]:List Addr) from z) (by simp)) (by simp)
        | some u =>
          rcases hO b with z | ⟨ob,xs,z⟩
          · rw [q] at z; cases z
          · have z2:=un.frzs b ob _ z
            obtain ⟨e1,_⟩:=hok b _ z
            obtain ⟨e2,_⟩:=hok' b _ z2
            rw [e] at e1; cases e1
            exact e2
  cases hk:K.lookup a with
  | some o =>
    have e:=KX a o hk
    rw [ha] at e
    cases e
    refine core (fun _ => none) (fun _ => .inl rfl) (.inr ⟨_,vs.toArray,_,hk,rfl,rfl,rfl,by rw [List.size_toArray,lenV]; exact hl,by simpa using rv⟩) (fun b u z => by have z':(none:Option HO) = some u:=z; cases z') (fun b z => absurd rfl z) fun z => absurd rfl z
  | none =>
    refine core (fun b => if b = a then some (.frz { cls:=.type "list",data:=.seq vs.toArray } (.lst (ns.map V.int))) else none) (fun b => ?_) (.inl (.inr ⟨{ cls:=.type "list",data:=.seq vs.toArray },if_pos rfl⟩)) (fun b u z => ?_) (fun b z => ?_) fun _ => hk
    · by_cases hb:b = a
      · exact .inr ⟨_,_,if_pos hb⟩
      · exact .inl (if_neg hb)
    · by_cases hb:b = a
      · have z':=(if_pos hb).symm.trans z
        cases z'
        subst hb
        exact ⟨ha,by rw [List.length_map]; exact hl,vs,_,rv,ha⟩
      · have z':=(if_neg hb).symm.trans z
        cases z'
    · by_cases hb:b = a
      · exact hb
      · exact absurd (if_neg hb) z
end L2
namespace L2
open PySem PySem.Spec PyProof.Rows
theorem walk_of {l:PySem.W.OpenLaw} {n k:Nat} {q:Program} {loose:List Str} {XP:(Str → Option Value) → Heap → Prop} {YP:World → Heap → Prop} {d:DefRec} {K:Params → PySem.W.Frag} {CX:World → CXT} {sp:World → Sp} {x:Str}
    (hn:l.most = some n) (hn2:n ≤ sizeLine) (hdf:d.params.defaults = []) (hr:Room k callerA)
    (hY:∀ (w:World) (h:Heap),YP w h → (K w.params).In h)
    (F:∀ (w:World) (mg:Str → Option Value) (fa:Addr) (h:Heap),(K w.params).In h → h.Ns mainGlobals mg → mg d.name = some (.ref fa) →
      ∃ fd:FuncData,(∀ (s:Shared) (u:Value),BindsTo s fd ⟨[u],[]⟩ [(x,u)]) ∧
        ∀ base:Heap,(K w.params).In base → base.Ns mainGlobals mg → FnOk l.prog w (K w.params) mg base (CX w) k fa fd [x] (sp w))
    (hsp:∀ (w:World) (H:Hp) (a:Addr) (ns:List Int),ns.length ≤ n → Only H → SqL (K w.params) H a (ns.map V.int) → sp w [.ref a] H (fun v _ => v = .bl true) fun _ _ _ => False)
    (hCX:∀ (w:World) (H:Hp) (s:Shared) (e:Value) (s':Shared),CX w [] H s (fun _ _ _ => False) e s' → False) :
    PySem.W.WalkO q loose XP YP l.row.toRowW d [] (fun f vs => PySem.call f vs):=by
  refine Att.attach_call hn hdf fun w s₀ s₁ mg mb fa o pm cd doc a vs ns G Y ho hd hcd hmg hobj hints hlen hg => ?_
  have KX:=hY w _ Y
  obtain ⟨fd,hb,hF⟩:=F w mg fa _ KX G.T.g hmg
  exact law_call KX G.T.g G.T.b G.T.builtins G.T.nolimit hg hobj hints (Nat.le_trans hlen hn2) hr hF hb (fun H hO hS => hsp w H a ns hlen hO hS) fun H e s' => hCX w H s₁ e s'
end L2
namespace L2
open PySem PySem.Spec PyProof.Rows
noncomputable def defArgs (s:Stmt):Arguments:=match s with
  | .FunctionDef _ a _ _ _ _ _ _ _ _ => a
  | _ => { posonlyargs:=[],args:=[],vararg:=none,kwonlyargs:=[],kw_defaults:=[],kwarg:=none,defaults:=[] }
noncomputable def defBody (s:Stmt):List Stmt:=match s with
  | .FunctionDef _ _ b _ _ _ _ _ _ _ => b
  | _ => []
noncomputable def defScope (s:Stmt):Scope:=match s with
  | .FunctionDef _ _ _ _ _ _ sc _ _ _ => sc
  | _ => { kind:=.function,names:=[],isGenerator:=false,isCoroutine:=false }
noncomputable abbrev CX0:CXT:=fun _ _ _ _ _ _ => False
noncomputable abbrev E0:XK:=fun _ _ _ => False
theorem pass0 {X:Cx}:Passes CX0 X E0:=fun _ _ _ _ _ _ _ h => h.elim
structure Fun (K:PySem.W.Frag) (x qual:Str) (st:Stmt) (f:Addr) (fd:FuncData):Prop where
  ex:∃ (oc:Value) (od:Option Addr) (kV doc pm:Value) (an:Option Addr) (cdv ct:Value) (osl:Array (Option Value)),
    fd = PySem.W.fnOf x qual (defArgs st) (defBody st) (defScope st) .none kV doc pm an cdv ct ∧ K.lookup f = some ⟨oc,od,.func fd,osl⟩ ∧ PySem.W.codeIn K cdv qual = true
  kp:PySem.W.keepIn K (.ref f) = true
section
variable {P:Program} {w:World} {K:PySem.W.Frag} {mg:Str → Option Value} {base:Heap}
theorem Fun.ok {x qual:Str} {st:Stmt} {f:Addr} {fd:FuncData} {N ps:List Str} {k:Nat} {sp:Sp} (F:Fun K x qual st f fd) (S:FnScope N ps (defScope st)) (len:∀ vs H Q E,sp vs H Q E → vs.length = ps.length)
    (hbody:∀ (cdv:Value) (A:Around) (outer:List Env) (s:Shared) (H:Hp) (vs:List V) (Q:VK) (E:XK),Room k (A.deeper (envOfC qual (defScope st) s.heap.objs.size f cdv)) → sp vs H Q E →
      ∃ t,PSs (cxOf CX0 P w K mg base N qual (defScope st) f cdv A outer s H E).nox (defBody st) t ∧ t { nx:=fun _ H' => Q .non H',rt:=Q } (start N vs) H):FnOk P w K mg base CX0 (k + 1) f fd ps sp:=by
  obtain ⟨oc,od,kV,doc,pm,an,cdv,ct,osl,rfl,lk,hcd⟩:=F.ex
  refine fn_of lk hcd S len fun A outer s H vs Q E hr hsp => ?_
  obtain ⟨t,h,q⟩:=hbody cdv A outer s H vs Q E hr hsp
  exact ⟨t,h.nox,q⟩
theorem fun_mk {x qual:Str} {st:Stmt} {f:Addr} {oc:Value} {od an:Option Addr} {osl:Array (Option Value)} {kV doc pm cdv ct:Value} (l:K.lookup f = some ⟨oc,od,.func (PySem.W.fnOf x qual (defArgs st) (defBody st) (defScope st) .none kV doc pm an cdv ct),osl⟩)
    (c:PySem.W.codeIn K cdv qual = true) (k:PySem.W.keepIn K (.ref f) = true):Fun K x qual st f (PySem.W.fnOf x qual (defArgs st) (defBody st) (defScope st) .none kV doc pm an cdv ct):=⟨⟨oc,od,kV,doc,pm,an,cdv,ct,osl,rfl,l,c⟩,k⟩
end
section
variable {X:Cx}
theorem pv (i:Nat) {x:Str} {pos:Pos} (hN:X.N[i]? = some x:=by rfl) (hv:Vis X.env.scope x:=by first | exact Or.inl rfl | exact Or.inr (Or.inl rfl) | exact Or.inr (Or.inr rfl)) (hd:(x == ("__debug__":Str)) = false:=by decide)
    (hcd:(x == ("__classdict__":Str)) = false:=by decide):PE X (.Name x pos) (tVar i):=pe_var hN hv hd hcd
end
noncomputable def Same (H H':Hp):Prop:=∀ b o,H b = some o → H' b = some o
theorem Same.refl (H:Hp):Same H H:=fun _ _ h => h
theorem Same.trans {H H1 H2:Hp} (a:Same H H1) (b:Same H1 H2):Same H H2:=fun c o h => b c o (a c o h)
theorem Same.seq {K:PySem.W.Frag} {H H':Hp} {a:Addr} {xs:List V} (e:Same H H') (h:SqL K H a xs):SqL K H' a xs:=by
  rcases h with (h | ⟨o,h⟩) | h
  · exact .inl (.inl (e _ _ h))
  · exact .inl (.inr ⟨o,e _ _ h⟩)
  · exact .inr h
end L2
set_option Elab.async false
set_option linter.all false
set_option maxRecDepth 100000
set_option maxHeartbeats 4000000
namespace M
open PySem PySem.Spec PyProof.Rows L2
noncomputable abbrev DK:=Sum Int (List Nat)
inductive D where
  | non | bl (b:Bool) | int (i:Int) | str (x:List Nat) | tup (xs:List D) | lst (xs:List D) | dic (ks:List DK) (vs:List D) | ref (k:Nat)
noncomputable def dk:DK → Key
  | .inl i => .inl i
  | .inr x => .inr ⟨x.toArray⟩
inductive Cell where
  | lst (ds:List D) | dic (ks:List DK) (vs:List D) | dead
  | exz (c:Str) | exn (c:Str) (j:Nat) | xdc (nm:Str) (d:D) | obj (c:Str) (ns:List Str) (ds:List D)
noncomputable abbrev Mu:=List Cell
structure Exc where
  c:Nat
  d:D
inductive Res (α:Type) where
  | ok (a:α) (μ:Mu)
  | exc (x:Exc) (μ:Mu)
  | bad
noncomputable def Res.bind {α β:Type}:Res α → (α → Mu → Res β) → Res β
  | .ok a μ,f => f a μ
  | .exc x μ,_ => .exc x μ
  | .bad,_ => .bad
noncomputable def ofO {α:Type} (μ:Mu):Option α → Res α
  | some a => .ok a μ
  | none => .bad
@[simp] theorem bind_ok {α β:Type} (a:α) (μ:Mu) (f:α → Mu → Res β):(Res.ok a μ).bind f = f a μ:=rfl
@[simp] theorem ofO_some {α:Type} (μ:Mu) (a:α):ofO μ (some a) = .ok a μ:=rfl
noncomputable def deref (μ:Mu):D → D
  | .ref k => match μ[k]? with
    | some (.lst ds) => .lst ds
    | some (.dic ks vs) => .dic ks vs
    | _ => .ref k
  | d => d
@[simp] theorem deref_int (μ:Mu) (i:Int):deref μ (.int i) = .int i:=rfl
@[simp] theorem deref_dic (μ:Mu) (x:List DK) (y:List D):deref μ (.dic x y) = .dic x y:=rfl
noncomputable abbrev En:=List (Option D)
noncomputable abbrev MX:=En → Mu → Res D
noncomputable abbrev MB:=En → Mu → Res Bool
noncomputable abbrev MAs:=En → Mu → Res (List D)
inductive Out where
  | nx (ρ:En) | rt (d:D) | bk (ρ:En) | ct (ρ:En)
noncomputable abbrev MSt:=En → Mu → Res Out
mutual
noncomputable def Rep (K:PySem.W.Frag) (F:Hp) (α:List Addr):D → V → Prop
  | .non,v => v = .non
  | .bl b,v => v = .bl b
  | .int i,v => v = .int i
  | .str x,v => v = .str ⟨x.toArray⟩
  | .tup ds,v => ∃ a vs,v = .ref a ∧ SqT K F a vs ∧ Reps K F α ds vs
  | .lst ds,v => ∃ a vs,v = .ref a ∧ SqL K F a vs ∧ Reps K F α ds vs
  | .dic ks ds,v => ∃ a vs,v = .ref a ∧ F a = some (.dK ((ks.map dk).zip vs)) ∧ ks.length = ds.length ∧ Reps K F α ds vs
  | .ref k,v => ∃ a,α[k]? = some a ∧ v = .ref a
noncomputable def Reps (K:PySem.W.Frag) (F:Hp) (α:List Addr):List D → List V → Prop
  | [],vs => vs = []
  | d :: ds,vs => ∃ v r,vs = v :: r ∧ Rep K F α d v ∧ Reps K F α ds r
end
structure Ext (α:List Addr) (F:Hp) (α':List Addr) (F':Hp):Prop where
  fr:Same F F'
  al:∀ (k:Nat) (a:Addr),α[k]? = some a → α'[k]? = some a
theorem Ext.refl (α:List Addr) (F:Hp):Ext α F α F:=⟨Same.refl F,fun _ _ h => h⟩
theorem Ext.trans {α α1 α2:List Addr} {F F1 F2:Hp} (a:Ext α F α1 F1) (b:Ext α1 F1 α2 F2):Ext α F α2 F2:=⟨a.fr.trans b.fr,fun k x h => b.al k x (a.al k x h)⟩
theorem Same.tup {K:PySem.W.Frag} {H H':Hp} {a:Addr} {xs:List V} (e:Same H H') (h:SqT K H a xs):SqT K H' a xs:=by
  rcases h with (h | ⟨o,h⟩) | h
  · exact .inl (.inl (e _ _ h))
  · exact .inl (.inr ⟨o,e _ _ h⟩)
  · exact .inr h
section
variable {K:PySem.W.Frag} {F F' H H':Hp} {α α':List Addr}
mutual
theorem Rep.mono (e:Ext α F α' F'):∀ {d:D} {v:V},Rep K F α d v → Rep K F' α' d v
  | .non,_,h => h
  | .bl _,_,h => h
  | .int _,_,h => h
  | .str _,_,h => h
  | .tup ds,v,h => by
    unfold Rep at h ⊢
    obtain ⟨a,vs,hv,hs,hr⟩:=h
    exact ⟨a,vs,hv,Same.tup e.fr hs,Reps.mono e hr⟩
  | .lst ds,v,h => by
    unfold Rep at h ⊢
    obtain ⟨a,vs,hv,hs,hr⟩:=h
    exact ⟨a,vs,hv,e.fr.seq hs,Reps.mono e hr⟩
  | .dic ks ds,v,h => by
    unfold Rep at h ⊢
    obtain ⟨a,vs,hv,hs,hl,hr⟩:=h
    exact ⟨a,vs,hv,e.fr _ _ hs,hl,Reps.mono e hr⟩
  | .ref k,v,h => by
    unfold Rep at h ⊢
    obtain ⟨a,ha,hv⟩:=h
    exact ⟨a,e.al k a ha,hv⟩
theorem Reps.mono (e:Ext α F α' F'):∀ {ds:List D} {vs:List V},Reps K F α ds vs → Reps K F' α' ds vs
  | [],_,h => h
  | d :: ds,vs,h => by
    unfold Reps at h ⊢
    obtain ⟨v,r,hv,h1,h2⟩:=h
    exact ⟨v,r,hv,Rep.mono e h1,Reps.mono e h2⟩
end
theorem Reps.length:∀ {ds:List D} {vs:List V},Reps K F α ds vs → ds.length = vs.length
  | [],vs,h => by unfold Reps at h; subst h; rfl
  | d :: ds,vs,h => by
    unfold Reps at h
    obtain ⟨v,r,hv,_,h2⟩:=h
    subst hv
    simp [Reps.length h2]
theorem Reps.get:∀ {ds:List D} {vs:List V} {i:Nat} {d:D},Reps K F α ds vs → ds[i]? = some d → ∃ v,vs[i]? = some v ∧ Rep K F α d v
  | [],_,_,_,_,e => by simp at e
  | d :: ds,vs,0,d',h,e => by
    unfold Reps at h
    obtain ⟨v,r,hv,h1,_⟩:=h
    subst hv
    simp at e
    subst e
    exact ⟨v,rfl,h1⟩
  | d :: ds,vs,i + 1,d',h,e => by
    unfold Reps at h
    obtain ⟨v,r,hv,_,h2⟩:=h
    subst hv
    obtain ⟨u,hu,hr⟩:=Reps.get (i:=i) (d:=d') h2 (by simpa using e)
    exact ⟨u,by simpa using hu,hr⟩
theorem Reps.append:∀ {ds es:List D} {vs us:List V},Reps K F α ds vs → Reps K F α es us → Reps K F α (ds ++ es) (vs ++ us)
  | [],_,_,_,h,h' => by unfold Reps at h; subst h; exact h'
  | d :: ds,es,vs,us,h,h' => by
    unfold Reps at h
    obtain ⟨v,r,hv,h1,h2⟩:=h
    subst hv
    show Reps K F α (d :: (ds ++ es)) (v :: (r ++ us))
    unfold Reps
    exact ⟨v,_,rfl,h1,Reps.append h2 h'⟩
theorem reps_nil:Reps K F α [] []:=by unfold Reps; rfl
theorem reps_cons {d:D} {ds:List D} {v:V} {vs:List V} (h:Rep K F α d v) (h':Reps K F α ds vs):Reps K F α (d :: ds) (v :: vs):=by unfold Reps; exact ⟨v,vs,rfl,h,h'⟩
theorem Reps.one {d:D} {vs:List V} (h:Reps K F α [d] vs):∃ v,vs = [v] ∧ Rep K F α d v:=by
  unfold Reps at h
  obtain ⟨v,r,hv,h1,h2⟩:=h
  unfold Reps at h2
  subst h2
  exact ⟨v,hv,h1⟩
theorem Reps.two {d e:D} {vs:List V} (h:Reps K F α [d,e] vs):∃ v u,vs = [v,u] ∧ Rep K F α d v ∧ Rep K F α e u:=by
  unfold Reps at h
  obtain ⟨v,r,hv,h1,h2⟩:=h
  obtain ⟨u,hr,h3⟩:=h2.one
  subst hr
  exact ⟨v,u,hv,h1,h3⟩
theorem Reps.take:∀ {ds:List D} {vs:List V} (n:Nat),Reps K F α ds vs → Reps K F α (ds.take n) (vs.take n)
  | _,_,0,_ => by simp; exact reps_nil
  | [],vs,n + 1,h => by unfold Reps at h; subst h; exact reps_nil
  | d :: ds,vs,n + 1,h => by
    unfold Reps at h
    obtain ⟨v,r,hv,h1,h2⟩:=h
    subst hv
    simp only [List.take_succ_cons]
    exact reps_cons h1 (Reps.take n h2)
theorem Reps.drop:∀ {ds:List D} {vs:List V} (n:Nat),Reps K F α ds vs → Reps K F α (ds.drop n) (vs.drop n)
  | _,_,0,h => h
  | [],vs,n + 1,h => by unfold Reps at h; subst h; exact reps_nil
  | d :: ds,vs,n + 1,h => by
    unfold Reps at h
    obtain ⟨v,r,hv,h1,h2⟩:=h
    subst hv
    exact Reps.drop n h2
theorem Reps.set {d:D} {v:V} (h':Rep K F α d v):∀ {ds:List D} {vs:List V} (n:Nat),Reps K F α ds vs → Reps K F α (ds.set n d) (vs.set n v)
  | [],vs,n,h => by unfold Reps at h; subst h; exact reps_nil
  | e :: ds,vs,0,h => by
    unfold Reps at h
    obtain ⟨u,r,hv,h1,h2⟩:=h
    subst hv
    exact reps_cons h' h2
  | e :: ds,vs,n + 1,h => by
    unfold Reps at h
    obtain ⟨u,r,hv,h1,h2⟩:=h
    subst hv
    exact reps_cons h1 (Reps.set h' n h2)
end
noncomputable def cA (K:PySem.W.Frag) (x:Str):Addr:=match PySem.W.nsIn K mainGlobals x with
  | some (some (.ref C)) => C
  | _ => 0
theorem cA_of {K:PySem.W.Frag} {x:Str} {C:Addr} (h:PySem.W.nsIn K mainGlobals x = some (some (.ref C))):cA K x = C:=by unfold cA; rw [h]
noncomputable def excP (a:Addr) (C:Value) (dx:Option Addr):Heap → Prop:=fun h => ∃ vs sl,h.get? a = some ⟨C,dx,.fields vs,sl⟩
noncomputable def CellOk (K:PySem.W.Frag) (α:List Addr) (F H:Hp) (a:Addr):Cell → Prop
  | .lst ds => F a = none ∧ ∃ vs,H a = some (.lst vs) ∧ Reps K F α ds vs
  | .dic ks ds => F a = none ∧ ∃ vs,H a = some (.dK ((ks.map dk).zip vs)) ∧ ks.length = ds.length ∧ Reps K F α ds vs
  | .dead => True
  | .exn C j => F a = none ∧ ∃ dx,α[j]? = some dx ∧ H a = some (.ext (excP a (.ref (cA K C)) (some dx)))
  | .exz C => F a = none ∧ H a = some (.ext (excP a (.ref (cA K C)) none))
  | .xdc nm d => F a = none ∧ ∃ v,H a = some (.xd [(nm,v)]) ∧ Rep K F α d v
  | .obj C ns ds => F a = none ∧ ∃ dx vs,H a = some (.ins (cA K C) dx (ns.zip vs)) ∧ ns.length = ds.length ∧ Reps K F α ds vs
theorem CellOk.live {K:PySem.W.Frag} {α:List Addr} {F H:Hp} {a:Addr} {c:Cell} (h:CellOk K α F H a c) (hd:c ≠ .dead):F a = none ∧ ∃ o,H a = some o:=by
  cases c with
  | dead => exact absurd rfl hd
  | lst ds => exact ⟨h.1,let ⟨_,_,z,_⟩:=h; ⟨_,z⟩⟩
  | dic ks ds => exact ⟨h.1,let ⟨_,_,z,_⟩:=h; ⟨_,z⟩⟩
  | exn C j => exact ⟨h.1,let ⟨_,_,_,z⟩:=h; ⟨_,z⟩⟩
  | exz C => exact ⟨h.1,_,h.2⟩
  | xdc nm d => exact ⟨h.1,let ⟨_,_,z,_⟩:=h; ⟨_,z⟩⟩
  | obj C ns ds => exact ⟨h.1,let ⟨_,_,_,z,_⟩:=h; ⟨_,z⟩⟩
theorem CellOk.go {K:PySem.W.Frag} {α α':List Addr} {F H F' H':Hp} {a:Addr} {c:Cell} (h:CellOk K α F H a c) (e:Ext α F α' F') (hf:c ≠ .dead → F' a = F a) (hh:c ≠ .dead → H' a = H a):CellOk K α' F' H' a c:=by
  cases c with
  | dead => trivial
  | lst ds => obtain ⟨h1,vs,h2,h3⟩:=h; exact ⟨by rw [hf (by simp)]; exact h1,vs,by rw [hh (by simp)]; exact h2,h3.mono e⟩
  | dic ks ds => obtain ⟨h1,vs,h2,hl,h3⟩:=h; exact ⟨by rw [hf (by simp)]; exact h1,vs,by rw [hh (by simp)]; exact h2,hl,h3.mono e⟩
  | exn C j => obtain ⟨h1,dx,h2,h3⟩:=h; exact ⟨by rw [hf (by simp)]; exact h1,dx,e.al _ _ h2,by rw [hh (by simp)]; exact h3⟩
  | exz C => obtain ⟨h1,h2⟩:=h; exact ⟨by rw [hf (by simp)]; exact h1,by rw [hh (by simp)]; exact h2⟩
  | xdc nm d => obtain ⟨h1,v,h2,h3⟩:=h; exact ⟨by rw [hf (by simp)]; exact h1,v,by rw [hh (by simp)]; exact h2,h3.mono e⟩
  | obj C ns ds => obtain ⟨h1,dx,vs,h2,hl,h3⟩:=h; exact ⟨by rw [hf (by simp)]; exact h1,dx,vs,by rw [hh (by simp)]; exact h2,hl,h3.mono e⟩
structure ZS where
  z:Hp
  a0:List Addr
  f0:Hp
noncomputable def ZS.up (Z:ZS) (p:Addr) (o:HO):ZS:={ Z with z:=upd Z.z p o }
theorem up_ne {Z:ZS} {p b:Addr} {o:HO} (h:b ≠ p):(Z.up p o).z b = Z.z b:=upd_ne h
theorem up_same {Z:ZS} {p:Addr} {o:HO}:(Z.up p o).z p = some o:=upd_same
structure RH (K:PySem.W.Frag) (Z:ZS) (α:List Addr) (F H:Hp) (μ:Mu):Prop where
  sub:Same F H
  len:α.length = μ.length
  cell:∀ (k:Nat) (a:Addr) (c:Cell),α[k]? = some a → μ[k]? = some c → CellOk K α F H a c
  zs:Same Z.z H
  zf:∀ (a:Addr) (o:HO),Z.z a = some o → F a = none
  zc:∀ (k:Nat) (a:Addr) (c:Cell),α[k]? = some a → μ[k]? = some c → c ≠ .dead → Z.z a = none
  dis:∀ (j k:Nat) (a:Addr) (c c':Cell),α[j]? = some a → α[k]? = some a → μ[j]? = some c → μ[k]? = some c' → c ≠ .dead → c' ≠ .dead → j = k
  ext:Ext Z.a0 Z.f0 α F
structure RS (K:PySem.W.Frag) (Z:ZS) (α:List Addr) (F H:Hp) (σ:L2.St) (ρ:En) (μ:Mu):Prop where
  hp:RH K Z α F H μ
  len:ρ.length = σ.length
  sl:∀ (i:Nat) (d:D),ρ[i]? = some (some d) → ∃ v,σ[i]? = some (some v) ∧ Rep K F α d v
theorem RS.to {K:PySem.W.Frag} {Z:ZS} {α α':List Addr} {F H F' H':Hp} {σ:L2.St} {ρ:En} {μ μ':Mu} (r:RS K Z α F H σ ρ μ) (h:RH K Z α' F' H' μ') (e:Ext α F α' F'):RS K Z α' F' H' σ ρ μ' :=
  ⟨h,r.len,fun i d hd => let ⟨v,h1,h2⟩:=r.sl i d hd; ⟨v,h1,h2.mono e⟩⟩
theorem same_upd {F H:Hp} {p:Addr} {o:HO} (hs:Same F H) (hp:H p = none):Same F (upd F p o):=fun b u e => by
  have:b ≠ p:=fun z => by subst z; rw [hs _ _ e] at hp; cases hp
  rw [upd_ne this]; exact e
theorem RH.lay {K:PySem.W.Frag} {Z:ZS} {α:List Addr} {F H:Hp} {μ:Mu} {p:Addr} (o:HO) (r:RH K Z α F H μ) (hp:H p = none):RH K Z α (upd F p o) (upd H p o) μ:=by
  have sF:=same_upd (o:=o) r.sub hp
  have ex:Ext α F α (upd F p o):=⟨sF,fun _ _ h => h⟩
  refine ⟨fun b u e => ?_,r.len,fun k a c ha hc => ?_,fun b u e => ?_,fun b u e => ?_,r.zc,r.dis,r.ext.trans ex⟩
  · by_cases hb:b = p
    · subst hb; rw [upd_same] at e ⊢; exact e
    · rw [upd_ne hb] at e ⊢; exact r.sub b u e
  · have h:=r.cell k a c ha hc
    have ne:c ≠ .dead → a ≠ p:=fun hd => let ⟨_,_,z⟩:=h.live hd; ne_of_none z hp
    exact h.go ex (fun hd => upd_ne (ne hd)) fun hd => upd_ne (ne hd)
  · rw [upd_ne (ne_of_none (r.zs b u e) hp)]; exact r.zs b u e
  · rw [upd_ne (ne_of_none (r.zs b u e) hp)]; exact r.zf b u e
theorem RH.layExt {K:PySem.W.Frag} {Z:ZS} {α:List Addr} {F H:Hp} {μ:Mu} {p:Addr} (o:HO) (r:RH K Z α F H μ) (hp:H p = none):Ext α F α (upd F p o):=⟨same_upd r.sub hp,fun _ _ h => h⟩
noncomputable def Pk (K:PySem.W.Frag) (α:List Addr) (F H:Hp):D → V → Prop
  | .lst ds,v => ∃ a vs,v = .ref a ∧ SqL K H a vs ∧ Reps K F α ds vs
  | .dic ks ds,v => ∃ a vs,v = .ref a ∧ H a = some (.dK ((ks.map dk).zip vs)) ∧ ks.length = ds.length ∧ Reps K F α ds vs
  | d,v => Rep K F α d v
theorem RH.pk {K:PySem.W.Frag} {Z:ZS} {α:List Addr} {F H:Hp} {μ:Mu} {d:D} {v:V} (r:RH K Z α F H μ) (h:Rep K F α d v):Pk K α F H (deref μ d) v:=by
  cases d with
  | non => exact h
  | bl b => exact h
  | int i => exact h
  | str x => exact h
  | tup ds => exact h
  | lst ds =>
    unfold Rep at h
    obtain ⟨a,vs,hv,hs,hr⟩:=h
    exact ⟨a,vs,hv,r.sub.seq hs,hr⟩
  | dic ks ds =>
    unfold Rep at h
    obtain ⟨a,vs,hv,hs,hl,hr⟩:=h
    exact ⟨a,vs,hv,r.sub _ _ hs,hl,hr⟩
  | ref k =>
    have h0:=h
    unfold Rep at h
    obtain ⟨a,ha,hv⟩:=h
    cases e:μ[k]? with
    | none => rw [show deref μ (.ref k) = .ref k by simp only [deref,e]]; exact h0
    | some c =>
      have hc:=r.cell k a c ha e
      cases c with
      | lst ds =>
        obtain ⟨_,vs,h2,h3⟩:=hc
        rw [show deref μ (.ref k) = .lst ds by simp only [deref,e]]
        exact ⟨a,vs,hv,SqL.of h2,h3⟩
      | dic ks ds =>
        obtain ⟨_,vs,h2,hl,h3⟩:=hc
        rw [show deref μ (.ref k) = .dic ks ds by simp only [deref,e]]
        exact ⟨a,vs,hv,h2,hl,h3⟩
      | _ => rw [show deref μ (.ref k) = .ref k by simp only [deref,e]]; exact h0
structure EXT where
  P:ZS → Exc → Mu → Prop
  mono:∀ (Z:ZS) (p:Addr) (o:HO) (x:Exc) (μ:Mu),Z.z p = none → P Z x μ → P (Z.up p o) x μ
noncomputable def GE (K:PySem.W.Frag) (EX:EXT) (Z:ZS) (α:List Addr) (F:Hp) (Q:VK):Res D → Prop
  | .ok d μ' => ∀ v α' F' H',RH K Z α' F' H' μ' → Ext α F α' F' → Rep K F' α' d v → Q v H'
  | .exc x μ' => EX.P Z x μ'
  | .bad => False
noncomputable def GB (K:PySem.W.Frag) (EX:EXT) (Z:ZS) (α:List Addr) (F:Hp) (Q:Bool → Hp → Prop):Res Bool → Prop
  | .ok b μ' => ∀ α' F' H',RH K Z α' F' H' μ' → Ext α F α' F' → Q b H'
  | .exc x μ' => EX.P Z x μ'
  | .bad => False
noncomputable def GA (K:PySem.W.Frag) (EX:EXT) (Z:ZS) (α:List Addr) (F:Hp) (Q:List V → Hp → Prop):Res (List D) → Prop
  | .ok ds μ' => ∀ vs α' F' H',RH K Z α' F' H' μ' → Ext α F α' F' → Reps K F' α' ds vs → Q vs H'
  | .exc x μ' => EX.P Z x μ'
  | .bad => False
noncomputable def GS (K:PySem.W.Frag) (EX:EXT) (Z:ZS) (α:List Addr) (F:Hp) (N:Ends):Res Out → Prop
  | .ok (.nx ρ') μ' => ∀ σ' α' F' H',RS K Z α' F' H' σ' ρ' μ' → Ext α F α' F' → N.nx σ' H'
  | .ok (.bk ρ') μ' => ∀ σ' α' F' H',RS K Z α' F' H' σ' ρ' μ' → Ext α F α' F' → N.bk σ' H'
  | .ok (.ct ρ') μ' => ∀ σ' α' F' H',RS K Z α' F' H' σ' ρ' μ' → Ext α F α' F' → N.ct σ' H'
  | .ok (.rt d) μ' => ∀ v α' F' H',RH K Z α' F' H' μ' → Ext α F α' F' → Rep K F' α' d v → N.rt v H'
  | .exc x μ' => EX.P Z x μ'
  | .bad => False
noncomputable def ME (X:Cx) (EX:EXT) (e:Expr) (m:MX):Prop:=∃ t:TE,PE X e t ∧ ∀ Z α F H σ ρ μ Q,RS X.K Z α F H σ ρ μ → GE X.K EX Z α F Q (m ρ μ) → t σ H Q
noncomputable def MT (X:Cx) (EX:EXT) (e:Expr) (m:MB):Prop:=∃ t:TT,PT X e t ∧ ∀ Z α F H σ ρ μ Q,RS X.K Z α F H σ ρ μ → GB X.K EX Z α F Q (m ρ μ) → t σ H Q
noncomputable def MW (X:Cx) (EX:EXT) (e:Expr) (m:MB):Prop:=∃ t:TT,PW X e t ∧ ∀ Z α F H σ ρ μ Q,RS X.K Z α F H σ ρ μ → GB X.K EX Z α F Q (m ρ μ) → t σ H Q
noncomputable def MA (X:Cx) (EX:EXT) (es:List Expr) (m:MAs):Prop:=∃ t:TA,PA X es t ∧ (∀ Z α F H σ ρ μ Q,RS X.K Z α F H σ ρ μ → GA X.K EX Z α F Q (m ρ μ) → t σ H Q) ∧ ∀ ρ μ ds μ',m ρ μ = .ok ds μ' → ds.length = es.length
noncomputable def MS (X:Cx) (EX:EXT) (st:Stmt) (m:MSt):Prop:=∃ t:TS,PS X st t ∧ ∀ Z α F H σ ρ μ N,RS X.K Z α F H σ ρ μ → GS X.K EX Z α F N (m ρ μ) → t N σ H
noncomputable def MSs (X:Cx) (EX:EXT) (st:List Stmt) (m:MSt):Prop:=∃ t:TS,PSs X st t ∧ ∀ Z α F H σ ρ μ N,RS X.K Z α F H σ ρ μ → GS X.K EX Z α F N (m ρ μ) → t N σ H
theorem GE.ext {K:PySem.W.Frag} {EX:EXT} {Z:ZS} {α α1:List Addr} {F F1:Hp} {Q:VK} {r:Res D} (e:Ext α F α1 F1) (h:GE K EX Z α F Q r):GE K EX Z α1 F1 Q r:=by
  cases r with
  | ok d μ => exact fun v α' F' H' R e' q => h v α' F' H' R (e.trans e') q
  | exc x μ => exact h
  | bad => exact h
theorem GB.ext {K:PySem.W.Frag} {EX:EXT} {Z:ZS} {α α1:List Addr} {F F1:Hp} {Q:Bool → Hp → Prop} {r:Res Bool} (e:Ext α F α1 F1) (h:GB K EX Z α F Q r):GB K EX Z α1 F1 Q r:=by
  cases r with
  | ok d μ => exact fun α' F' H' R e' => h α' F' H' R (e.trans e')
  | exc x μ => exact h
  | bad => exact h
theorem GS.ext {K:PySem.W.Frag} {EX:EXT} {Z:ZS} {α α1:List Addr} {F F1:Hp} {N:Ends} {r:Res Out} (e:Ext α F α1 F1) (h:GS K EX Z α F N r):GS K EX Z α1 F1 N r:=by
  cases r with
  | ok o μ =>
    cases o with
    | nx ρ => exact fun σ' α' F' H' R e' => h σ' α' F' H' R (e.trans e')
    | bk ρ => exact fun σ' α' F' H' R e' => h σ' α' F' H' R (e.trans e')
    | ct ρ => exact fun σ' α' F' H' R e' => h σ' α' F' H' R (e.trans e')
    | rt d => exact fun v α' F' H' R e' q => h v α' F' H' R (e.trans e') q
  | exc x μ => exact h
  | bad => exact h
theorem GE.step {K:PySem.W.Frag} {EX:EXT} {Z:ZS} {α:List Addr} {F:Hp} {r:Res D} {β:Type} {f:D → Mu → Res β} {G:Res β → Prop} {Q:VK} (h:G (r.bind f)) (hx:∀ x μ,G (.exc x μ) → EX.P Z x μ) (hb:¬ G .bad)
    (hk:∀ d μ' v α' F' H',RH K Z α' F' H' μ' → Ext α F α' F' → Rep K F' α' d v → G (f d μ') → Q v H'):GE K EX Z α F Q r:=by
  cases r with
  | ok d μ => exact fun v α' F' H' R e q => hk d μ v α' F' H' R e q h
  | exc x μ => exact hx _ _ h
  | bad => exact hb h
theorem GB.step {K:PySem.W.Frag} {EX:EXT} {Z:ZS} {α:List Addr} {F:Hp} {r:Res Bool} {β:Type} {f:Bool → Mu → Res β} {G:Res β → Prop} {Q:Bool → Hp → Prop} (h:G (r.bind f)) (hx:∀ x μ,G (.exc x μ) → EX.P Z x μ) (hb:¬ G .bad)
    (hk:∀ d μ' α' F' H',RH K Z α' F' H' μ' → Ext α F α' F' → G (f d μ') → Q d H'):GB K EX Z α F Q r:=by
  cases r with
  | ok d μ => exact fun α' F' H' R e => hk d μ α' F' H' R e h
  | exc x μ => exact hx _ _ h
  | bad => exact hb h
theorem GA.step {K:PySem.W.Frag} {EX:EXT} {Z:ZS} {α:List Addr} {F:Hp} {r:Res (List D)} {β:Type} {f:List D → Mu → Res β} {G:Res β → Prop} {Q:List V → Hp → Prop} (h:G (r.bind f)) (hx:∀ x μ,G (.exc x μ) → EX.P Z x μ) (hb:¬ G .bad)
    (hk:∀ d μ' v α' F' H',RH K Z α' F' H' μ' → Ext α F α' F' → Reps K F' α' d v → G (f d μ') → Q v H'):GA K EX Z α F Q r:=by
  cases r with
  | ok d μ => exact fun v α' F' H' R e q => hk d μ v α' F' H' R e q h
  | exc x μ => exact hx _ _ h
  | bad => exact hb h
theorem GA.stepE {K:PySem.W.Frag} {EX:EXT} {Z:ZS} {α:List Addr} {F:Hp} {r:Res (List D)} {β:Type} {f:List D → Mu → Res β} {G:Res β → Prop} {Q:List V → Hp → Prop} (h:G (r.bind f)) (hx:∀ x μ,G (.exc x μ) → EX.P Z x μ) (hb:¬ G .bad)
    (hk:∀ d μ' v α' F' H',r = .ok d μ' → RH K Z α' F' H' μ' → Ext α F α' F' → Reps K F' α' d v → G (f d μ') → Q v H'):GA K EX Z α F Q r:=by
  cases r with
  | ok d μ => exact fun v α' F' H' R e q => hk d μ v α' F' H' rfl R e q h
  | exc x μ => exact hx _ _ h
  | bad => exact hb h
end M
set_option Elab.async false
set_option linter.all false
set_option maxRecDepth 100000
set_option maxHeartbeats 4000000
namespace M
open PySem PySem.Spec PyProof.Rows L2
section
variable {X:Cx} {EX:EXT} {e a b c:Expr} {pos:Pos} {m ma mb mc:MX} {es rest:List Expr}
noncomputable def mVar (i:Nat):MX:=fun ρ μ => match ρ[i]? with
  | some (some d) => .ok d μ
  | _ => .bad
noncomputable def mC (d:D):MX:=fun _ μ => .ok d μ
theorem me_var {i:Nat} {x:Str} (hN:X.N[i]? = some x) (hv:Vis X.env.scope x) (hd:(x == ("__debug__":Str)) = false) (hcd:(x == ("__classdict__":Str)) = false):ME X EX (.Name x pos) (mVar i):=by
  refine ⟨tVar i,pe_var hN hv hd hcd,fun Z α F H σ ρ μ Q R g => ?_⟩
  unfold mVar at g
  cases e:ρ[i]? with
  | none => rw [e] at g; exact g.elim
  | some o =>
    cases o with
    | none => rw [e] at g; exact g.elim
    | some d =>
      rw [e] at g
      obtain ⟨v,h1,h2⟩:=R.sl i d e
      exact ⟨v,h1,g v α F H R.hp (Ext.refl _ _) h2⟩
theorem me_c {v:V} {d:D} (h:PE X e (tC v)) (r:∀ (F:Hp) (α:List Addr),Rep X.K F α d v):ME X EX e (mC d) :=
  ⟨_,h,fun Z α F H σ ρ μ Q R g => g v α F H R.hp (Ext.refl _ _) (r F α)⟩
theorem me_int {i j}:ME X EX (.Constant (.int i) j pos) (mC (.int i)):=me_c pe_int fun _ _ => by unfold Rep; rfl
theorem me_bl {i j}:ME X EX (.Constant (.bool i) j pos) (mC (.bl i)):=me_c pe_bl fun _ _ => by unfold Rep; rfl
theorem me_non {j}:ME X EX (.Constant .none j pos) (mC .non):=me_c pe_non fun _ _ => by unfold Rep; rfl
theorem me_str {x:Str} {cs:List Nat} {j} (h:x = ⟨cs.toArray⟩):ME X EX (.Constant (.str x) j pos) (mC (.str cs)):=me_c pe_str fun _ _ => by unfold Rep; rw [h]
noncomputable abbrev G2:=D → D → Option D
noncomputable def mBin (g:G2) (ma mb:MX):MX:=fun ρ μ => (ma ρ μ).bind fun x μ1 => (mb ρ μ1).bind fun y μ2 => ofO μ2 (g (deref μ2 x) (deref μ2 y))
noncomputable def Serves (K:PySem.W.Frag) (r:R2) (g:G2):Prop:=∀ Z α F H μ a b c x y Q,RH K Z α F H μ → Pk K α F H a x → Pk K α F H b y → g a b = some c →
  (∀ v F' H',RH K Z α F' H' μ → Same F F' → Rep K F' α c v → Q v H') → r x y H Q
noncomputable def OpM (X:Cx) (f:Value → Value → Sem Value) (g:G2):Prop:=∃ r,OpR X f r ∧ Serves X.K r g
noncomputable def Good (X:Cx) (EX:EXT) (t:TE) (m:MX):Prop:=∀ Z α F H σ ρ μ Q,RS X.K Z α F H σ ρ μ → GE X.K EX Z α F Q (m ρ μ) → t σ H Q
theorem good_two {ta tb:TE} {r:R2} {g:G2} (sa:Good X EX ta ma) (sb:Good X EX tb mb) (ho:Serves X.K r g):Good X EX (tOp r ta tb) (mBin g ma mb):=by
  intro Z α F H σ ρ μ Q R gd
  refine sa Z α F H σ ρ μ _ R (GE.step (G:=GE X.K EX Z α F Q) gd (fun _ _ h => h) (fun h => h) fun d1 μ1 v1 α1 F1 H1 R1 e1 p1 g1 => ?_)
  refine sb Z α1 F1 H1 σ ρ μ1 _ (R.to R1 e1) (GE.step (G:=GE X.K EX Z α F Q) g1 (fun _ _ h => h) (fun h => h) fun d2 μ2 v2 α2 F2 H2 R2 e2 p2 g2 => ?_)
  cases hg:g (deref μ2 d1) (deref μ2 d2) with
  | none => rw [hg] at g2; exact g2.elim
  | some c =>
    rw [hg] at g2
    exact ho Z α2 F2 H2 μ2 _ _ c v1 v2 Q R2 (R2.pk (p1.mono e2)) (R2.pk p2) hg fun v F' H' R' sf rp => g2 v α2 F' H' R' (e1.trans (e2.trans ⟨sf,fun _ _ h => h⟩)) rp
theorem me_bin {op:Operator} {g:G2} (ho:OpM X (binaryOp op) g) (ha:ME X EX a ma) (hb:ME X EX b mb):ME X EX (.BinOp a op b pos) (mBin g ma mb):=by
  obtain ⟨r,h1,h2⟩:=ho
  obtain ⟨ta,pa,sa⟩:=ha
  obtain ⟨tb,pb,sb⟩:=hb
  exact ⟨_,pe_op h1 pa pb,good_two sa sb h2⟩
theorem me_cmp {op:CmpOp} {g:G2} (ho:OpM X (compareOp op) g) (ha:ME X EX a ma) (hb:ME X EX b mb) (hm:behindInMarks op b = false):ME X EX (.Compare a [op] [b] pos) (mBin g ma mb):=by
  obtain ⟨r,h1,h2⟩:=ho
  obtain ⟨ta,pa,sa⟩:=ha
  obtain ⟨tb,pb,sb⟩:=hb
  exact ⟨_,pe_cmpR h1 pa pb hm,good_two sa sb h2⟩
noncomputable def asB (d:D):Option Bool:=match d with
  | .bl b => some b
  | _ => none
noncomputable def mTest (m:MX):MB:=fun ρ μ => (m ρ μ).bind fun d μ1 => ofO μ1 (asB d)
noncomputable def GoodB (X:Cx) (EX:EXT) (t:TT) (m:MB):Prop:=∀ Z α F H σ ρ μ Q,RS X.K Z α F H σ ρ μ → GB X.K EX Z α F Q (m ρ μ) → t σ H Q
theorem good_test {t:TE} (h:Good X EX t m):GoodB X EX (fun σ H Q => t σ H fun x H' => ∃ k,x = .bl k ∧ Q k H') (mTest m):=by
  intro Z α F H σ ρ μ Q R g
  refine h Z α F H σ ρ μ _ R (GE.step (G:=GB X.K EX Z α F Q) g (fun _ _ h => h) (fun h => h) fun d μ1 v α1 F1 H1 R1 e1 p g1 => ?_)
  cases d with
  | bl k => unfold Rep at p; exact ⟨k,p,g1 α1 F1 H1 R1 e1⟩
  | _ => exact g1.elim
theorem mt_cmp {op:CmpOp} {g:G2} (ho:OpM X (compareOp op) g) (ha:ME X EX a ma) (hb:ME X EX b mb) (hm:behindInMarks op b = false):MT X EX (.Compare a [op] [b] pos) (mTest (mBin g ma mb)):=by
  obtain ⟨r,h1,h2⟩:=ho
  obtain ⟨ta,pa,sa⟩:=ha
  obtain ⟨tb,pb,sb⟩:=hb
  exact ⟨_,pt_cmpR h1 pa pb hm,good_test (good_two sa sb h2)⟩
noncomputable def mChain (g g':G2) (ma mb mc:MX):MX:=fun ρ μ => (ma ρ μ).bind fun x μ1 => (mb ρ μ1).bind fun y μ2 => (ofO μ2 ((g (deref μ2 x) (deref μ2 y)).bind asB)).bind fun k μ3 =>
  match k with
  | true => (mc ρ μ3).bind fun z μ4 => ofO μ4 (g' (deref μ4 y) (deref μ4 z))
  | false => .ok (.bl false) μ3
theorem good_chain {ta tb tc:TE} {r r':R2} {g g':G2} (sa:Good X EX ta ma) (sb:Good X EX tb mb) (sc:Good X EX tc mc) (ho:Serves X.K r g) (ho':Serves X.K r' g') :
    Good X EX (tChain r r' ta tb tc) (mChain g g' ma mb mc):=by
  intro Z α F H σ ρ μ Q R gd
  refine sa Z α F H σ ρ μ _ R (GE.step (G:=GE X.K EX Z α F Q) gd (fun _ _ h => h) (fun h => h) fun d1 μ1 v1 α1 F1 H1 R1 e1 p1 g1 => ?_)
  refine sb Z α1 F1 H1 σ ρ μ1 _ (R.to R1 e1) (GE.step (G:=GE X.K EX Z α F Q) g1 (fun _ _ h => h) (fun h => h) fun d2 μ2 v2 α2 F2 H2 R2 e2 p2 g2 => ?_)
  cases hg:g (deref μ2 d1) (deref μ2 d2) with
  | none => rw [hg] at g2; exact g2.elim
  | some c =>
    rw [hg] at g2
    cases c with
    | bl k =>
      refine ho Z α2 F2 H2 μ2 _ _ (.bl k) v1 v2 _ R2 (R2.pk (p1.mono e2)) (R2.pk p2) hg fun v F' H' R' sf rp => ?_
      unfold Rep at rp
      refine ⟨k,rp,?_⟩
      have e3:Ext α2 F2 α2 F':=⟨sf,fun _ _ h => h⟩
      cases k with
      | false => exact g2 _ α2 F' H' R' (e1.trans (e2.trans e3)) (by unfold Rep; rfl)
      | true =>
        refine sc Z α2 F' H' σ ρ μ2 _ (R.to R' (e1.trans (e2.trans e3))) (GE.step (G:=GE X.K EX Z α F Q) g2 (fun _ _ h => h) (fun h => h) fun d4 μ4 v4 α4 F4 H4 R4 e4 p4 g4 => ?_)
        cases hg':g' (deref μ4 d2) (deref μ4 d4) with
        | none => rw [hg'] at g4; exact g4.elim
        | some c' =>
          rw [hg'] at g4
          exact ho' Z α4 F4 H4 μ4 _ _ c' v2 v4 Q R4 (R4.pk (p2.mono (e3.trans e4))) (R4.pk p4) hg' fun v F' H' R' sf rp => g4 v α4 F' H' R' (e1.trans (e2.trans (e3.trans (e4.trans ⟨sf,fun _ _ h => h⟩)))) rp
    | _ => exact g2.elim
theorem me_chain {op op':CmpOp} {g g':G2} (ho:OpM X (compareOp op) g) (ho':OpM X (compareOp op') g') (ha:ME X EX a ma) (hb:ME X EX b mb) (hc:ME X EX c mc)
    (hm:lastMarks [op,op'] [b,c] = false):ME X EX (.Compare a [op,op'] [b,c] pos) (mChain g g' ma mb mc):=by
  obtain ⟨r,h1,h2⟩:=ho
  obtain ⟨r',h1',h2'⟩:=ho'
  obtain ⟨ta,pa,sa⟩:=ha
  obtain ⟨tb,pb,sb⟩:=hb
  obtain ⟨tc,pc,sc⟩:=hc
  exact ⟨_,pe_chain h1 h1' pa pb pc hm,good_chain sa sb sc h2 h2'⟩
noncomputable def isN (d:D):Bool:=match d with
  | .non => true
  | _ => false
noncomputable def mIsN (m:MX):MX:=fun ρ μ => (m ρ μ).bind fun d μ1 => .ok (.bl (isN d)) μ1
theorem isN_rep {K:PySem.W.Frag} {F:Hp} {α:List Addr} {d:D} {v:V} (h:Rep K F α d v):decide (v = .non) = isN d:=by
  cases d with
  | non => unfold Rep at h; subst h; rfl
  | bl _ => unfold Rep at h; subst h; rfl
  | int _ => unfold Rep at h; subst h; rfl
  | str _ => unfold Rep at h; subst h; rfl
  | tup _ => unfold Rep at h; obtain ⟨a,vs,h,_⟩:=h; subst h; rfl
  | lst _ => unfold Rep at h; obtain ⟨a,vs,h,_⟩:=h; subst h; rfl
  | dic _ _ => unfold Rep at h; obtain ⟨a,vs,h,_⟩:=h; subst h; rfl
  | ref _ => unfold Rep at h; obtain ⟨a,_,h⟩:=h; subst h; rfl
theorem good_isN {t:TE} (h:Good X EX t m):Good X EX (tIsN t) (mIsN m):=by
  intro Z α F H σ ρ μ Q R g
  refine h Z α F H σ ρ μ _ R (GE.step (G:=GE X.K EX Z α F Q) g (fun _ _ h => h) (fun h => h) fun d μ1 v α1 F1 H1 R1 e1 p g1 => ?_)
  rw [isN_rep p]
  exact g1 _ α1 F1 H1 R1 e1 (by unfold Rep; rfl)
theorem mt_isN {j pos'} (ha:ME X EX a m):MT X EX (.Compare a [.Is] [.Constant .none j pos'] pos) (mTest (mIsN m)):=by
  obtain ⟨t,p,s⟩:=ha
  exact ⟨_,pt_cmp (pc_isN p) rfl,good_test (good_isN s)⟩
noncomputable def truD (d:D):Option Bool:=match d with
  | .non => some false
  | .bl b => some b
  | .int i => some (i != 0)
  | .str x => if x.length ≤ 16777216 then some (!x.isEmpty) else none
  | .tup xs => some (!xs.isEmpty)
  | .lst xs => some (!xs.isEmpty)
  | .dic ks vs => some (!vs.isEmpty)
  | .ref _ => none
noncomputable def mTru (m:MX):MB:=fun ρ μ => (m ρ μ).bind fun d μ1 => ofO μ1 (truD (deref μ1 d))
theorem isEmpty_len {β γ:Type} {l:List β} {r:List γ} (h:l.length = r.length):l.isEmpty = r.isEmpty:=by
  cases l <;> cases r <;> simp_all
theorem tru_pk {K:PySem.W.Frag} {α:List Addr} {F H:Hp} {d:D} {v:V} {k:Bool} (sub:Same F H) (h:Pk K α F H d v) (e:truD d = some k):TruV K v H k:=by
  cases d with
  | non => unfold Pk Rep at h; subst h; cases e; rfl
  | bl _ => unfold Pk Rep at h; subst h; cases e; rfl
  | int _ => unfold Pk Rep at h; subst h; cases e; rfl
  | str x =>
    unfold Pk Rep at h
    subst h
    unfold truD at e
    simp only at e
    split at e
    · rename_i hl
      cases e
      refine ⟨?_,?_⟩
      · rw [sizeLine_eq]; simpa [Str.length] using hl
      · cases x with
        | nil => rfl
        | cons c r => simp [Str.length]; omega
    · cases e
  | tup xs =>
    unfold Pk Rep at h
    obtain ⟨a,vs,rfl,hs,hr⟩:=h
    cases e
    exact .inr (.inl ⟨vs,Same.tup sub hs,by rw [isEmpty_len hr.length]⟩)
  | lst xs =>
    unfold Pk at h
    obtain ⟨a,vs,rfl,hs,hr⟩:=h
    cases e
    exact .inl ⟨vs,hs,by rw [isEmpty_len hr.length]⟩
  | dic ks xs =>
    unfold Pk at h
    obtain ⟨a,vs,rfl,hs,hl,hr⟩:=h
    cases e
    refine .inr (.inr ⟨_,hs,?_⟩)
    congr 1
    refine isEmpty_len ?_
    have:=hr.length
    simp
    omega
  | ref _ => cases e
theorem mt_truth (ha:ME X EX a m) (he:∀ whole,isTrue a X.env whole = (do let v ← whole; standAt a.pos; holding [v] (truthy v))):MT X EX a (mTru m):=by
  obtain ⟨t,p,s⟩:=ha
  refine ⟨_,pt_truth p he,fun Z α F H σ ρ μ Q R g => ?_⟩
  refine s Z α F H σ ρ μ _ R (GE.step (G:=GB X.K EX Z α F Q) g (fun _ _ h => h) (fun h => h) fun d μ1 v α1 F1 H1 R1 e1 p g1 => ?_)
  cases hk:truD (deref μ1 d) with
  | none => rw [hk] at g1; exact g1.elim
  | some k => rw [hk] at g1; exact ⟨k,tru_pk R1.sub (R1.pk p) hk,g1 α1 F1 H1 R1 e1⟩
variable {n na nb:MB}
noncomputable def mAnd (m n:MB):MB:=fun ρ μ => (m ρ μ).bind fun k μ1 => match k with
  | true => n ρ μ1
  | false => .ok false μ1
noncomputable def mOr (m n:MB):MB:=fun ρ μ => (m ρ μ).bind fun k μ1 => match k with
  | true => .ok true μ1
  | false => n ρ μ1
noncomputable def mNot (m:MB):MB:=fun ρ μ => (m ρ μ).bind fun k μ1 => .ok (!k) μ1
theorem MW.t (h:MW X EX e n):MT X EX e n:=let ⟨t,p,s⟩:=h; ⟨t,p.pt,s⟩
theorem mw_and1 (ha:MT X EX a na):MW X EX (.BoolOp .And [a] pos) na:=let ⟨t,p,s⟩:=ha; ⟨t,pw_and1 p,s⟩
theorem mw_or1 (ha:MT X EX a na):MW X EX (.BoolOp .Or [a] pos) na:=let ⟨t,p,s⟩:=ha; ⟨t,pw_or1 p,s⟩
theorem mw_and (ha:MT X EX a na) (hb:MW X EX (.BoolOp .And (b :: rest) pos) nb):MW X EX (.BoolOp .And (a :: b :: rest) pos) (mAnd na nb):=by
  obtain ⟨ta,pa,sa⟩:=ha
  obtain ⟨tb,pb,sb⟩:=hb
  refine ⟨_,pw_and pa pb,fun Z α F H σ ρ μ Q R g => ?_⟩
  refine sa Z α F H σ ρ μ _ R (GB.step (G:=GB X.K EX Z α F Q) g (fun _ _ h => h) (fun h => h) fun k μ1 α1 F1 H1 R1 e1 g1 => ?_)
  cases k with
  | true => exact (if_pos rfl).mpr (sb Z α1 F1 H1 σ ρ μ1 Q (R.to R1 e1) (GB.ext e1 g1))
  | false => exact g1 α1 F1 H1 R1 e1
theorem mw_or (ha:MT X EX a na) (hb:MW X EX (.BoolOp .Or (b :: rest) pos) nb):MW X EX (.BoolOp .Or (a :: b :: rest) pos) (mOr na nb):=by
  obtain ⟨ta,pa,sa⟩:=ha
  obtain ⟨tb,pb,sb⟩:=hb
  refine ⟨_,pw_or pa pb,fun Z α F H σ ρ μ Q R g => ?_⟩
  refine sa Z α F H σ ρ μ _ R (GB.step (G:=GB X.K EX Z α F Q) g (fun _ _ h => h) (fun h => h) fun k μ1 α1 F1 H1 R1 e1 g1 => ?_)
  cases k with
  | true => exact g1 α1 F1 H1 R1 e1
  | false => exact sb Z α1 F1 H1 σ ρ μ1 Q (R.to R1 e1) (GB.ext e1 g1)
theorem mt_not (ha:MT X EX a na):MT X EX (.UnaryOp .Not a pos) (mNot na):=by
  obtain ⟨ta,pa,sa⟩:=ha
  refine ⟨_,pt_not pa,fun Z α F H σ ρ μ Q R g => ?_⟩
  exact sa Z α F H σ ρ μ _ R (GB.step (G:=GB X.K EX Z α F Q) g (fun _ _ h => h) (fun h => h) fun k μ1 α1 F1 H1 R1 e1 g1 => g1 α1 F1 H1 R1 e1)
noncomputable def mAndV (ma mb:MX):MX:=fun ρ μ => (ma ρ μ).bind fun x μ1 => match x with
  | .bl true => mb ρ μ1
  | .bl false => .ok (.bl false) μ1
  | _ => .bad
noncomputable def mOrV (ma mb:MX):MX:=fun ρ μ => (ma ρ μ).bind fun x μ1 => match x with
  | .bl true => .ok (.bl true) μ1
  | .bl false => mb ρ μ1
  | _ => .bad
noncomputable def mNotV (ma:MX):MX:=fun ρ μ => (ma ρ μ).bind fun x μ1 => match x with
  | .bl k => .ok (.bl (!k)) μ1
  | _ => .bad
theorem me_one {op} (h:ME X EX a m):ME X EX (.BoolOp op [a] pos) m:=let ⟨t,p,s⟩:=h; ⟨t,pe_one p,s⟩
theorem me_and (ha:ME X EX a ma) (hb:ME X EX (.BoolOp .And (b :: rest) pos) mb):ME X EX (.BoolOp .And (a :: b :: rest) pos) (mAndV ma mb):=by
  obtain ⟨ta,pa,sa⟩:=ha
  obtain ⟨tb,pb,sb⟩:=hb
  refine ⟨_,pe_and pa pb,fun Z α F H σ ρ μ Q R g => ?_⟩
  refine sa Z α F H σ ρ μ _ R (GE.step (G:=GE X.K EX Z α F Q) g (fun _ _ h => h) (fun h => h) fun d μ1 v α1 F1 H1 R1 e1 p g1 => ?_)
  cases d with
  | bl k =>
    unfold Rep at p
    refine ⟨k,p,?_⟩
    cases k with
    | true => exact sb Z α1 F1 H1 σ ρ μ1 Q (R.to R1 e1) (GE.ext e1 g1)
    | false => exact g1 _ α1 F1 H1 R1 e1 (by unfold Rep; rfl)
  | _ => exact g1.elim
theorem me_or (ha:ME X EX a ma) (hb:ME X EX (.BoolOp .Or (b :: rest) pos) mb):ME X EX (.BoolOp .Or (a :: b :: rest) pos) (mOrV ma mb):=by
  obtain ⟨ta,pa,sa⟩:=ha
  obtain ⟨tb,pb,sb⟩:=hb
  refine ⟨_,pe_or pa pb,fun Z α F H σ ρ μ Q R g => ?_⟩
  refine sa Z α F H σ ρ μ _ R (GE.step (G:=GE X.K EX Z α F Q) g (fun _ _ h => h) (fun h => h) fun d μ1 v α1 F1 H1 R1 e1 p g1 => ?_)
  cases d with
  | bl k =>
    unfold Rep at p
    refine ⟨k,p,?_⟩
    cases k with
    | false => exact sb Z α1 F1 H1 σ ρ μ1 Q (R.to R1 e1) (GE.ext e1 g1)
    | true => exact g1 _ α1 F1 H1 R1 e1 (by unfold Rep; rfl)
  | _ => exact g1.elim
theorem me_not (ha:ME X EX a ma):ME X EX (.UnaryOp .Not a pos) (mNotV ma):=by
  obtain ⟨ta,pa,sa⟩:=ha
  refine ⟨_,pe_not pa,fun Z α F H σ ρ μ Q R g => ?_⟩
  refine sa Z α F H σ ρ μ _ R (GE.step (G:=GE X.K EX Z α F Q) g (fun _ _ h => h) (fun h => h) fun d μ1 v α1 F1 H1 R1 e1 p g1 => ?_)
  cases d with
  | bl k => unfold Rep at p; exact ⟨k,p,g1 _ α1 F1 H1 R1 e1 (by unfold Rep; rfl)⟩
  | _ => exact g1.elim
noncomputable def mIf (n:MB) (ma mb:MX):MX:=fun ρ μ => (n ρ μ).bind fun k μ1 => match k with
  | true => ma ρ μ1
  | false => mb ρ μ1
theorem me_if (hc:MT X EX c n) (ha:ME X EX a ma) (hb:ME X EX b mb):ME X EX (.IfExp c a b pos) (mIf n ma mb):=by
  obtain ⟨tc,pc,sc⟩:=hc
  obtain ⟨ta,pa,sa⟩:=ha
  obtain ⟨tb,pb,sb⟩:=hb
  refine ⟨_,pe_ifExp pc pa pb,fun Z α F H σ ρ μ Q R g => ?_⟩
  refine sc Z α F H σ ρ μ _ R (GB.step (G:=GE X.K EX Z α F Q) g (fun _ _ h => h) (fun h => h) fun k μ1 α1 F1 H1 R1 e1 g1 => ?_)
  cases k with
  | true => exact sa Z α1 F1 H1 σ ρ μ1 Q (R.to R1 e1) (GE.ext e1 g1)
  | false => exact sb Z α1 F1 H1 σ ρ μ1 Q (R.to R1 e1) (GE.ext e1 g1)
variable {ms:MAs}
noncomputable def mNil:MAs:=fun _ μ => .ok [] μ
noncomputable def mCons (m:MX) (ms:MAs):MAs:=fun ρ μ => (m ρ μ).bind fun d μ1 => (ms ρ μ1).bind fun ds μ2 => .ok (d :: ds) μ2
theorem ma_nil:MA X EX [] mNil:=⟨_,pa_nil,fun Z α F H σ ρ μ Q R g => g [] α F H R.hp (Ext.refl _ _) reps_nil,fun ρ μ ds μ' h => by cases h; rfl⟩
theorem ma_cons (ha:ME X EX e m) (hr:MA X EX es ms) (hs:starEach (e :: es) X.env = (false,eval e X.env) :: starEach es X.env):MA X EX (e :: es) (mCons m ms):=by
  obtain ⟨ta,pa,sa⟩:=ha
  obtain ⟨tr,pr,sr,lr⟩:=hr
  refine ⟨_,pa_cons pa pr hs,fun Z α F H σ ρ μ Q R g => ?_,fun ρ μ ds μ' h => ?_⟩
  rotate_left
  · unfold mCons at h
    cases e1:m ρ μ with
    | ok d μ1 =>
      rw [e1] at h
      simp only [bind_ok] at h
      cases e2:ms ρ μ1 with
      | ok dr μ2 =>
        rw [e2] at h
        simp only [bind_ok] at h
        cases h
        simp [lr _ _ _ _ e2]
      | exc x μ2 => rw [e2] at h; cases h
      | bad => rw [e2] at h; cases h
    | exc x μ1 => rw [e1] at h; cases h
    | bad => rw [e1] at h; cases h
  refine sa Z α F H σ ρ μ _ R (GE.step (G:=GA X.K EX Z α F Q) g (fun _ _ h => h) (fun h => h) fun d μ1 v α1 F1 H1 R1 e1 p g1 => ?_)
  refine sr Z α1 F1 H1 σ ρ μ1 _ (R.to R1 e1) (GA.step (G:=GA X.K EX Z α F Q) g1 (fun _ _ h => h) (fun h => h) fun ds μ2 vs α2 F2 H2 R2 e2 p2 g2 => ?_)
  exact g2 (v :: vs) α2 F2 H2 R2 (e1.trans e2) (reps_cons (p.mono e2) p2)
noncomputable def mTup (ms:MAs):MX:=fun ρ μ => (ms ρ μ).bind fun ds μ1 => .ok (.tup ds) μ1
noncomputable def mLst (ms:MAs):MX:=fun ρ μ => (ms ρ μ).bind fun ds μ1 => .ok (.lst ds) μ1
theorem lay_tup {K:PySem.W.Frag} {Z:ZS} {F H:Hp} {α:List Addr} {μ:Mu} {ds:List D} {vs:List V} {p:Addr} (R:RH K Z α F H μ) (r:Reps K F α ds vs) (hp:H p = none) :
    RH K Z α (upd F p (.tup vs)) (upd H p (.tup vs)) μ ∧ Same F (upd F p (.tup vs)) ∧ Rep K (upd F p (.tup vs)) α (.tup ds) (.ref p) :=
  ⟨R.lay _ hp,same_upd R.sub hp,by unfold Rep; exact ⟨p,vs,rfl,SqT.of upd_same,r.mono (R.layExt _ hp)⟩⟩
theorem lay_lst {K:PySem.W.Frag} {Z:ZS} {F H:Hp} {α:List Addr} {μ:Mu} {ds:List D} {vs:List V} {p:Addr} (R:RH K Z α F H μ) (r:Reps K F α ds vs) (hp:H p = none) :
    RH K Z α (upd F p (.lst vs)) (upd H p (.lst vs)) μ ∧ Same F (upd F p (.lst vs)) ∧ Rep K (upd F p (.lst vs)) α (.lst ds) (.ref p) :=
  ⟨R.lay _ hp,same_upd R.sub hp,by unfold Rep; exact ⟨p,vs,rfl,SqL.of upd_same,r.mono (R.layExt _ hp)⟩⟩
theorem me_tup {x1} (h:MA X EX es ms) (hl:es.length ≤ 16777216:=by decide):ME X EX (.Tuple es x1 pos) (mTup ms):=by
  obtain ⟨t,p,s,l⟩:=h
  refine ⟨_,pe_tup p,fun Z α F H σ ρ μ Q R g => ?_⟩
  refine s Z α F H σ ρ μ _ R (GA.stepE (G:=GE X.K EX Z α F Q) g (fun _ _ h => h) (fun h => h) fun ds μ1 vs α1 F1 H1 hm R1 e1 p1 g1 => ?_)
  refine ⟨by rw [← p1.length,sizeLine_eq,l _ _ _ _ hm]; exact hl,fun q hq => ?_⟩
  obtain ⟨a1,a2,a3⟩:=lay_tup R1 p1 hq
  exact g1 _ α1 _ _ a1 (e1.trans ⟨a2,fun _ _ h => h⟩) a3
theorem me_lst (h:MA X EX es ms) (hl:es.length ≤ 16777216:=by decide):ME X EX (.List es pos) (mLst ms):=by
  obtain ⟨t,p,s,l⟩:=h
  refine ⟨_,pe_lst p,fun Z α F H σ ρ μ Q R g => ?_⟩
  refine s Z α F H σ ρ μ _ R (GA.stepE (G:=GE X.K EX Z α F Q) g (fun _ _ h => h) (fun h => h) fun ds μ1 vs α1 F1 H1 hm R1 e1 p1 g1 => ?_)
  refine ⟨by rw [← p1.length,sizeLine_eq,l _ _ _ _ hm]; exact hl,fun q hq => ?_⟩
  obtain ⟨a1,a2,a3⟩:=lay_lst R1 p1 hq
  exact g1 _ α1 _ _ a1 (e1.trans ⟨a2,fun _ _ h => h⟩) a3
noncomputable def gIdx:G2:=fun a b => match a,b with
  | .lst ds,.int i => atI ds i
  | .tup ds,.int i => atI ds i
  | .str cs,.int i => if cs.length ≤ 16777216 then (atI cs i).map fun c => .str [c] else none
  | _,_ => none
theorem reps_atI {K:PySem.W.Frag} {F:Hp} {α:List Addr} {ds:List D} {vs:List V} {i:Int} {d:D} (r:Reps K F α ds vs) (h:atI ds i = some d):∃ v,atI vs i = some v ∧ Rep K F α d v:=by
  unfold atI at h ⊢
  rw [← r.length]
  cases e:ixN ds.length i with
  | none => rw [e] at h; cases h
  | some j => rw [e] at h; exact r.get h
theorem serves_idx {K:PySem.W.Frag}:Serves K (rIx K) gIdx:=by
  intro Z α F H μ a b c x y Q R ha hb hg k
  cases b with
  | int i =>
    unfold Pk Rep at hb
    subst hb
    cases a with
    | lst ds =>
      obtain ⟨p,vs,rfl,hs,hr⟩:=ha
      obtain ⟨v,h1,h2⟩:=reps_atI hr hg
      exact .inl ⟨p,vs,i,v,rfl,rfl,hs,h1,k v F H R (Same.refl _) h2⟩
    | tup ds =>
      unfold Pk Rep at ha
      obtain ⟨p,vs,rfl,hs,hr⟩:=ha
      obtain ⟨v,h1,h2⟩:=reps_atI hr hg
      exact .inr (.inl ⟨p,vs,i,v,rfl,rfl,Same.tup R.sub hs,h1,k v F H R (Same.refl _) h2⟩)
    | str cs =>
      unfold Pk Rep at ha
      subst ha
      simp only [gIdx] at hg
      split at hg
      · rename_i hl
        cases e:atI cs i with
        | none => rw [e] at hg; cases hg
        | some c' =>
          rw [e] at hg
          cases hg
          exact .inr (.inr ⟨_,i,c',rfl,rfl,by rw [sizeLine_eq]; simpa [Str.length] using hl,by simpa using e,k _ F H R (Same.refl _) (by unfold Rep; rfl)⟩)
      · cases hg
    | _ => cases hg
  | _ => cases a <;> cases hg
theorem me_idx (ha:ME X EX a ma) (hb:ME X EX b mb) (hs:PlainIx b):ME X EX (.Subscript a b pos) (mBin gIdx ma mb):=by
  obtain ⟨ta,pa,sa⟩:=ha
  obtain ⟨tb,pb,sb⟩:=hb
  exact ⟨_,pe_ix ix_seq pa pb hs,good_two sa sb serves_idx⟩
end
end M
set_option Elab.async false
set_option linter.all false
set_option maxRecDepth 100000
set_option maxHeartbeats 4000000
namespace M
open PySem PySem.Spec PyProof.Rows L2
theorem rep_int {K:PySem.W.Frag} {F:Hp} {α:List Addr} (i:Int):Rep K F α (.int i) (.int i):=by unfold Rep; rfl
theorem rep_bl {K:PySem.W.Frag} {F:Hp} {α:List Addr} (i:Bool):Rep K F α (.bl i) (.bl i):=by unfold Rep; rfl
theorem rep_non {K:PySem.W.Frag} {F:Hp} {α:List Addr}:Rep K F α .non .non:=by unfold Rep; rfl
theorem rep_str {K:PySem.W.Frag} {F:Hp} {α:List Addr} (x:List Nat):Rep K F α (.str x) (.str ⟨x.toArray⟩):=by unfold Rep; rfl
theorem pk_int {K:PySem.W.Frag} {F H:Hp} {α:List Addr} {i:Int} {v:V} (h:Pk K α F H (.int i) v):v = .int i:=by unfold Pk Rep at h; exact h
theorem pk_bl {K:PySem.W.Frag} {F H:Hp} {α:List Addr} {i:Bool} {v:V} (h:Pk K α F H (.bl i) v):v = .bl i:=by unfold Pk Rep at h; exact h
theorem pk_str {K:PySem.W.Frag} {F H:Hp} {α:List Addr} {x:List Nat} {v:V} (h:Pk K α F H (.str x) v):v = .str ⟨x.toArray⟩:=by unfold Pk Rep at h; exact h
theorem pk_non {K:PySem.W.Frag} {F H:Hp} {α:List Addr} {v:V} (h:Pk K α F H .non v):v = .non:=by unfold Pk Rep at h; exact h
noncomputable def gInt (h:Int → Int → Option Int):G2:=fun a b => match a,b with
  | .int i,.int j => (h i j).map .int
  | _,_ => none
noncomputable def gIntB (h:Int → Int → Bool):G2:=fun a b => match a,b with
  | .int i,.int j => some (.bl (h i j))
  | _,_ => none
section
variable {X:Cx} {EX:EXT}
theorem sv_int {K:PySem.W.Frag} {C:Int → Int → Prop} [inst:∀ i j,Decidable (C i j)] {h:Int → Int → Int}:Serves K (rI C fun i j => .int (h i j)) (gInt fun i j => if C i j then some (h i j) else none):=by
  intro Z α F H μ a b c x y Q R ha hb hg k
  cases a with
  | int i =>
    cases b with
    | int j =>
      have ha:=pk_int ha
      have hb:=pk_int hb
      simp only [gInt] at hg
      by_cases hc:C i j
      · rw [if_pos hc] at hg
        cases hg
        exact ⟨i,j,ha,hb,hc,k _ F H R (Same.refl _) (rep_int _)⟩
      · rw [if_neg hc] at hg; cases hg
    | _ => cases hg
  | _ => cases hg
theorem sv_int0 {K:PySem.W.Frag} {h:Int → Int → Int}:Serves K (rI0 fun i j => .int (h i j)) (gInt fun i j => some (h i j)):=by
  intro Z α F H μ a b c x y Q R ha hb hg k
  cases a with
  | int i =>
    cases b with
    | int j =>
      have ha:=pk_int ha
      have hb:=pk_int hb
      cases hg
      exact ⟨i,j,ha,hb,k _ F H R (Same.refl _) (rep_int _)⟩
    | _ => cases hg
  | _ => cases hg
theorem sv_intB {K:PySem.W.Frag} {h:Int → Int → Bool}:Serves K (rI0 fun i j => .bl (h i j)) (gIntB h):=by
  intro Z α F H μ a b c x y Q R ha hb hg k
  cases a with
  | int i =>
    cases b with
    | int j =>
      have ha:=pk_int ha
      have hb:=pk_int hb
      cases hg
      exact ⟨i,j,ha,hb,k _ F H R (Same.refl _) (rep_bl _)⟩
    | _ => cases hg
  | _ => cases hg
noncomputable def gOr (g h:G2):G2:=fun a b => match g a b with
  | some c => some c
  | none => h a b
theorem Serves.or {K:PySem.W.Frag} {r r':R2} {g g':G2} (h:Serves K r g) (h':Serves K r' g'):Serves K (fun x y H Q => r x y H Q ∨ r' x y H Q) (gOr g g'):=by
  intro Z α F H μ a b c x y Q R ha hb hg k
  unfold gOr at hg
  cases e:g a b with
  | some d => rw [e] at hg; have hg:d = c:=Option.some.inj hg; subst hg; exact .inl (h Z α F H μ a b _ x y Q R ha hb e k)
  | none => rw [e] at hg; exact .inr (h' Z α F H μ a b c x y Q R ha hb hg k)
theorem OpM.or {f:Value → Value → Sem Value} {g g':G2} (h:OpM X f g) (h':OpM X f g'):OpM X f (gOr g g'):=by
  obtain ⟨r,a,b⟩:=h
  obtain ⟨r',a',b'⟩:=h'
  exact ⟨_,a.or a',b.or b'⟩
theorem OpM.as {f:Value → Value → Sem Value} {g g':G2} (h:OpM X f g) (e:∀ a b c,g' a b = some c → g a b = some c):OpM X f g':=by
  obtain ⟨r,a,b⟩:=h
  exact ⟨r,a,fun Z α F H μ p q c x y Q R ha hb hg k => b Z α F H μ p q c x y Q R ha hb (e p q c hg) k⟩
noncomputable def gAddT:G2:=fun a b => match a,b with
  | .tup xs,.tup ys => if decide (xs.length + ys.length ≤ 16777216) && !xs.isEmpty then some (.tup (xs ++ ys)) else none
  | _,_ => none
noncomputable def gAddT0:G2:=fun a b => match a,b with
  | .tup [],.tup ys => some (.tup ys)
  | _,_ => none
noncomputable def gAddL:G2:=fun a b => match a,b with
  | .lst xs,.lst ys => if xs.length + ys.length ≤ 16777216 then some (.lst (xs ++ ys)) else none
  | _,_ => none
noncomputable def gAddS:G2:=fun a b => match a,b with
  | .str xs,.str ys => if xs.length + ys.length ≤ 16777216 then some (.str (xs ++ ys)) else none
  | _,_ => none
noncomputable def gAdd:G2:=fun a b => match a,b with
  | .int i,.int j => some (.int (i + j))
  | .str xs,.str ys => if xs.length + ys.length ≤ 16777216 then some (.str (xs ++ ys)) else none
  | .tup xs,.tup ys => if xs.length + ys.length ≤ 16777216 then some (.tup (xs ++ ys)) else none
  | .lst xs,.lst ys => if xs.length + ys.length ≤ 16777216 then some (.lst (xs ++ ys)) else none
  | _,_ => none
theorem str_append (x y:List Nat):(⟨x.toArray⟩:Str) ++ (⟨y.toArray⟩:Str) = ⟨(x ++ y).toArray⟩:=by
  show Str.append _ _ = _
  unfold Str.append
  simp
theorem om_addS:OpM X (binaryOp .Add) gAddS:=by
  refine ⟨_,op_add_str,fun Z α F H μ a b c x y Q R ha hb hg k => ?_⟩
  cases a with
  | str i =>
    cases b with
    | str j =>
      have ha:=pk_str ha
      have hb:=pk_str hb
      simp only [gAddS] at hg
      split at hg
      · rename_i hl
        cases hg
        refine ⟨_,_,ha,hb,by rw [sizeLine_eq]; simpa [Str.length] using hl,?_⟩
        rw [str_append]
        exact k _ F H R (Same.refl _) (rep_str _)
      · cases hg
    | _ => cases hg
  | _ => cases hg
theorem om_addT:OpM X (binaryOp .Add) gAddT:=by
  refine ⟨_,op_catT,fun Z α F H μ a b c x y Q R ha hb hg k => ?_⟩
  cases a with
  | tup i =>
    cases b with
    | tup j =>
      have ha0:=ha
      unfold Pk Rep at ha hb
      obtain ⟨p,vs,rfl,hs,hr⟩:=ha
      obtain ⟨p',vs',rfl,hs',hr'⟩:=hb
      simp only [gAddT] at hg
      split at hg
      · rename_i hl
        cases hg
        rw [Bool.and_eq_true] at hl
        have h1:=of_decide_eq_true hl.1
        refine ⟨p,p',vs,vs',rfl,rfl,Same.tup R.sub hs,Same.tup R.sub hs',?_,by rw [sizeLine_eq,← hr.length,← hr'.length]; exact h1,fun he => ?_,fun _ q hq => ?_⟩
        · intro he
          subst he
          have:=hr.length
          cases i with
          | nil => simp at hl
          | cons _ _ => simp at this
        · subst he
          have:=hr'.length
          cases j with
          | nil => rw [List.append_nil] at k; exact k _ F H R (Same.refl _) ha0
          | cons _ _ => simp at this
        · obtain ⟨a1,a2,a3⟩:=lay_tup R (hr.append hr') hq
          exact k _ _ _ a1 a2 a3
      · cases hg
    | _ => cases hg
  | _ => cases hg
noncomputable def rCatL (K:PySem.W.Frag):R2:=fun x y H Q => ∃ l b xs zs,x = .ref l ∧ y = .ref b ∧ SqL K H l xs ∧ SqL K H b zs ∧ xs.length + zs.length ≤ sizeLine ∧ ∀ p,H p = none → Q (.ref p) (upd H p (.lst (xs ++ zs)))
theorem op_catL:OpR X (binaryOp .Add) (rCatL X.K):=by
  intro pins s σ H x y v u Q I rx ry h
  obtain ⟨l,b,xs,zs,rfl,rfl,hH,hB,hz,q⟩:=h
  cases rx
  cases ry
  obtain ⟨its,r,pl,_⟩:=I.list hH
  obtain ⟨its2,r2,pl2,_⟩:=I.list hB
  obtain ⟨m,F⟩:=I.fr
  have e1:=r.length
  have e2:=r2.length
  obtain ⟨⟨cls,dd,data,sl⟩,n,ho,hc,hd,hs⟩:=pl
  obtain ⟨⟨cls2,dd2,data2,sl2⟩,n2,ho2,hc2,hd2,hs2⟩:=pl2
  simp only at hc hd hs hc2 hd2 hs2
  subst hc hd hs hc2 hd2 hs2
  have ea:its.toArray ++ its2.toArray = (its ++ its2).toArray:=by simp
  refine concat_meets ⟨_,ho,rfl⟩ ⟨_,ho2,rfl⟩ noFill_list_add seq_list_add PySem.F.slot_list_add PySem.F.entry_list_add (PySem.F.args_list_add_2 _ _) (list_addW l b its.toArray its2.toArray n n2 _ _ sl sl2 (by simp only [List.size_toArray]; omega)) ⟨ho,ho2,?_⟩
  rw [ea]
  exact ⟨.ref _,_,I.lnew (t':=s.toks) (r.append r2) (by rw [List.length_append]; omega),rfl,q _ I.fresh⟩
theorem op_catT0:OpR X (binaryOp .Add) (fun x y H Q => ∃ a b ys,x = .ref a ∧ y = .ref b ∧ SqT X.K H a [] ∧ SqT X.K H b ys ∧ Q (.ref b) H):=by
  intro pins s σ H x y v u Q I rx ry h
  obtain ⟨a,b,ys,rfl,rfl,ha,hb,q⟩:=h
  cases rx
  cases ry
  obtain ⟨its,r1,p1,_⟩:=I.tuple ha
  obtain ⟨its2,r2,p2,_⟩:=I.tuple hb
  have e1:its.length = 0:=r1.length.symm
  obtain rfl:=List.length_eq_zero_iff.mp e1
  obtain ⟨o1,g1,c1,n1,d1⟩:=p1
  obtain ⟨o2,g2,c2,n2,d2⟩:=p2
  obtain ⟨k1,f1,w1,z1⟩:=o1
  obtain ⟨k2,f2,w2,z2⟩:=o2
  dsimp only at c1 d1 c2 d2
  subst c1 d1 c2 d2
  exact concat_meets ⟨_,g1,rfl⟩ ⟨_,g2,rfl⟩ noFill_tuple_add seq_tuple_add PySem.F.slot_tuple_add PySem.F.entry_tuple_add (PySem.F.args_tuple_add_2 _ _)
    (tuple_addW0 a b #[] its2.toArray n1 n2 f1 f2 z1 z2 rfl) ⟨g1,g2,.ref b,H,I,rfl,q⟩
theorem om_addT0:OpM X (binaryOp .Add) gAddT0:=by
  refine ⟨_,op_catT0,fun Z α F H μ a b c x y Q R ha hb hg k => ?_⟩
  cases a with
  | tup i =>
    cases i with
    | nil =>
      cases b with
      | tup j =>
        have hb0:=hb
        unfold Pk Rep at ha hb
        obtain ⟨p,vs,rfl,hs,hr⟩:=ha
        obtain ⟨p',vs',rfl,hs',hr'⟩:=hb
        cases hg
        have:=hr.length
        cases vs with
        | nil => exact ⟨p,p',vs',rfl,rfl,Same.tup R.sub hs,Same.tup R.sub hs',k _ F H R (Same.refl _) hb0⟩
        | cons _ _ => simp at this
      | _ => cases hg
    | cons _ _ => cases b <;> cases hg
  | _ => cases hg
theorem om_addL:OpM X (binaryOp .Add) gAddL:=by
  refine ⟨_,op_catL,fun Z α F H μ a b c x y Q R ha hb hg k => ?_⟩
  cases a with
  | lst i =>
    cases b with
    | lst j =>
      unfold Pk at ha hb
      obtain ⟨p,vs,rfl,hs,hr⟩:=ha
      obtain ⟨p',vs',rfl,hs',hr'⟩:=hb
      simp only [gAddL] at hg
      split at hg
      · rename_i hl
        cases hg
        refine ⟨p,p',vs,vs',rfl,rfl,hs,hs',by rw [sizeLine_eq,← hr.length,← hr'.length]; exact hl,fun q hq => ?_⟩
        obtain ⟨a1,a2,a3⟩:=lay_lst R (hr.append hr') hq
        exact k _ _ _ a1 a2 a3
      · cases hg
    | _ => cases hg
  | _ => cases hg
theorem om_add:OpM X (binaryOp .Add) gAdd:=by
  have h0:OpM X (binaryOp .Add) (gInt fun i j => some (i + j)):=⟨_,op_add,sv_int0⟩
  refine OpM.as (OpM.or h0 (OpM.or om_addS (OpM.or om_addT0 (OpM.or om_addT om_addL)))) fun a b c h => ?_
  cases a with
  | int i => cases b with
    | int j => exact h
    | _ => cases h
  | str i => cases b with
    | str j => have h:gAddS (.str i) (.str j) = some c:=h; simp only [gOr,gInt,h]
    | _ => cases h
  | tup i => cases b with
    | tup j =>
      cases i with
      | nil =>
        simp only [gAdd] at h
        split at h
        · cases h; rfl
        · cases h
      | cons i0 ir =>
        simp only [gAdd] at h
        split at h
        · rename_i hl
          cases h
          have e:gAddT (.tup (i0 :: ir)) (.tup j) = some (.tup (i0 :: ir ++ j)):=by
            simp only [gAddT,List.isEmpty_cons,Bool.not_false,Bool.and_true]
            rw [if_pos (by simpa using hl)]
          simp only [gOr,gInt,gAddS,gAddT0,e]
        · cases h
    | _ => cases h
  | lst i => cases b with
    | lst j => exact h
    | _ => cases h
  | _ => cases h
noncomputable def gSub:G2:=gInt fun i j => some (i - j)
theorem om_sub:OpM X (binaryOp .Sub) gSub:=⟨_,op_sub,sv_int0⟩
instance (i j:Int):Decidable (CMul i j):=by unfold CMul; infer_instance
instance (i j:Int):Decidable (CPow i j):=by unfold CPow; infer_instance
noncomputable def gMul:G2:=gInt fun i j => if CMul i j then some (i * j) else none
theorem om_mul:OpM X (binaryOp .Mult) gMul:=⟨_,op_mul,sv_int⟩
noncomputable def CDv (i j:Int):Prop:=0 < j ∧ j < 18446744073709551616
instance (i j:Int):Decidable (CDv i j):=by unfold CDv; infer_instance
theorem op_div:OpR X (binaryOp .FloorDiv) (rI CDv fun i j => .int (i / j)):=opI fun i j _ _ _ _ _ hc q => by
  have h1:(0:Int) < j:=hc.1
  have h2:j < 18446744073709551616:=hc.2
  refine floordiv_int (by omega) (by rw [Int.fdiv_eq_ediv_of_nonneg i (by omega)]; exact q) (.inl (PyProof.noPylong_of_log2 ?_))
  have h3:j.natAbs < 2 ^ 64:=by omega
  have h4:j.natAbs ≠ 0:=by omega
  have:=(Nat.log2_lt h4).mpr h3
  omega
noncomputable def gDiv:G2:=gInt fun i j => if CDv i j then some (i / j) else none
theorem om_div:OpM X (binaryOp .FloorDiv) gDiv:=⟨_,op_div,sv_int⟩
noncomputable def gMod:G2:=gInt fun i j => if 0 < j then some (i % j) else none
theorem om_mod:OpM X (binaryOp .Mod) gMod:=⟨_,op_mod,sv_int⟩
noncomputable def gLt:G2:=gIntB fun i j => decide (i < j)
noncomputable def gLe:G2:=gIntB fun i j => decide (i ≤ j)
noncomputable def gGt:G2:=gIntB fun i j => decide (j < i)
theorem om_lt:OpM X (compareOp .Lt) gLt:=⟨_,op_lt,sv_intB⟩
theorem om_le:OpM X (compareOp .LtE) gLe:=⟨_,op_le,sv_intB⟩
theorem om_gt:OpM X (compareOp .Gt) gGt:=⟨_,op_gt,sv_intB⟩
end
mutual
noncomputable def plainD:D → Bool
  | .non => true
  | .bl _ => true
  | .int _ => true
  | .str x => x.all (· < 0x110000)
  | .tup xs => plainDs xs
  | .lst xs => plainDs xs
  | .dic _ _ => false
  | .ref _ => false
noncomputable def plainDs:List D → Bool
  | [] => true
  | d :: ds => plainD d && plainDs ds
end
mutual
noncomputable def dpt:D → Nat
  | .tup xs => dpts xs + 1
  | .lst xs => dpts xs + 1
  | _ => 0
noncomputable def dpts:List D → Nat
  | [] => 0
  | d :: ds => max (dpt d) (dpts ds)
end
mutual
noncomputable def toPy:D → PyData
  | .non => .none
  | .bl b => .bool b
  | .int i => .int i
  | .str x => .str ⟨x.toArray⟩
  | .tup xs => .tuple (toPys xs)
  | .lst xs => .list (toPys xs)
  | .dic _ _ => .none
  | .ref _ => .none
noncomputable def toPys:List D → List PyData
  | [] => []
  | d :: ds => toPy d :: toPys ds
end
mutual
noncomputable def eqD:D → D → Bool
  | .non,b => match b with
    | .non => true
    | _ => false
  | .bl a,b => match b with
    | .bl c => a == c
    | .int j => (if a then 1 else 0) == j
    | _ => false
  | .int i,b => match b with
    | .int j => i == j
    | .bl c => i == (if c then 1 else 0)
    | _ => false
  | .str x,b => match b with
    | .str y => x == y
    | _ => false
  | .tup xs,b => match b with
    | .tup ys => eqDs xs ys
    | _ => false
  | .lst xs,b => match b with
    | .lst ys => eqDs xs ys
    | _ => false
  | .dic _ _,_ => false
  | .ref _,_ => false
noncomputable def eqDs:List D → List D → Bool
  | [],b => b.isEmpty
  | x :: xs,b => match b with
    | [] => false
    | y :: ys => eqD x y && eqDs xs ys
end
theorem str_eq_iff (x y:List Nat):((⟨x.toArray⟩:Str) == (⟨y.toArray⟩:Str)) = (x == y):=by
  rw [Bool.eq_iff_iff]
  simp
mutual
theorem eqv_toPy:∀ (a b:D),plainD a = true → plainD b = true → PyData.eqv (toPy a) (toPy b) = eqD a b
  | .non,b,_,hb => by cases b <;> first | (simp [plainD] at hb; done) | (simp [toPy,eqD,PyData.eqv]; done)
  | .bl a,b,_,hb => by cases b <;> first | (simp [plainD] at hb; done) | (simp [toPy,eqD,PyData.eqv]; done)
  | .int a,b,_,hb => by cases b <;> first | (simp [plainD] at hb; done) | (simp [toPy,eqD,PyData.eqv]; done)
  | .str a,b,_,hb => by
    cases b with
    | str y => simp only [toPy,eqD,PyData.eqv]; exact str_eq_iff _ _
    | dic _ _ => simp [plainD] at hb
    | ref _ => simp [plainD] at hb
    | _ => simp [toPy,eqD,PyData.eqv]
  | .tup a,b,ha,hb => by
    cases b with
    | tup b => simp only [toPy,eqD,PyData.eqv]; exact eqvs_toPys a b (by simpa [plainD] using ha) (by simpa [plainD] using hb)
    | dic _ _ => simp [plainD] at hb
    | ref _ => simp [plainD] at hb
    | _ => simp [toPy,eqD,PyData.eqv]
  | .lst a,b,ha,hb => by
    cases b with
    | lst b => simp only [toPy,eqD,PyData.eqv]; exact eqvs_toPys a b (by simpa [plainD] using ha) (by simpa [plainD] using hb)
    | dic _ _ => simp [plainD] at hb
    | ref _ => simp [plainD] at hb
    | _ => simp [toPy,eqD,PyData.eqv]
  | .dic _ _,_,ha,_ => by simp [plainD] at ha
  | .ref _,_,ha,_ => by simp [plainD] at ha
theorem eqvs_toPys:∀ (a b:List D),plainDs a = true → plainDs b = true → PyData.eqvAll (toPys a) (toPys b) = eqDs a b
  | [],[],_,_ => by simp [toPys,eqDs,PyData.eqvAll]
  | [],_ :: _,_,_ => by simp [toPys,eqDs,PyData.eqvAll]
  | _ :: _,[],_,_ => by simp [toPys,eqDs,PyData.eqvAll]
  | x :: xs,y :: ys,ha,hb => by
    simp only [plainDs,Bool.and_eq_true] at ha hb
    simp only [toPys,eqDs,PyData.eqvAll]
    rw [eqv_toPy x y ha.1 hb.1,eqvs_toPys xs ys ha.2 hb.2]
end
mutual
theorem canLay_toPy:∀ (a:D),plainD a = true → (toPy a).canLay0 = true
  | .non,_ => by simp [toPy,PyData.canLay0]
  | .bl _,_ => by simp [toPy,PyData.canLay0]
  | .int _,_ => by simp [toPy,PyData.canLay0]
  | .str x,h => by simp only [toPy,PyData.canLay0,PyData.strOk]; simpa [plainD] using h
  | .tup xs,h => by simp only [toPy,PyData.canLay0]; exact canLays_toPy xs (by simpa [plainD] using h)
  | .lst xs,h => by simp only [toPy,PyData.canLay0]; exact canLays_toPy xs (by simpa [plainD] using h)
  | .dic _ _,h => by simp [plainD] at h
  | .ref _,h => by simp [plainD] at h
theorem canLays_toPy:∀ (a:List D),plainDs a = true → PyData.canLayAll0 (toPys a) = true
  | [],_ => by simp [toPys,PyData.canLayAll0]
  | x :: xs,h => by
    simp only [plainDs,Bool.and_eq_true] at h
    simp only [toPys,PyData.canLayAll0,canLay_toPy x h.1,canLays_toPy xs h.2,Bool.and_self]
end
mutual
theorem depth_toPy:∀ (a:D),(toPy a).depth = dpt a
  | .non => by simp [toPy,PyData.depth,dpt]
  | .bl _ => by simp [toPy,PyData.depth,dpt]
  | .int _ => by simp [toPy,PyData.depth,dpt]
  | .str x => by simp [toPy,PyData.depth,dpt]
  | .tup xs => by simp only [toPy,PyData.depth,dpt]; rw [depths_toPys xs]
  | .lst xs => by simp only [toPy,PyData.depth,dpt]; rw [depths_toPys xs]
  | .dic _ _ => by simp [toPy,PyData.depth,dpt]
  | .ref _ => by simp [toPy,PyData.depth,dpt]
theorem depths_toPys:∀ (a:List D),PyData.depthAll (toPys a) = dpts a
  | [] => by simp [toPys,PyData.depthAll,dpts]
  | x :: xs => by simp only [toPys,PyData.depthAll,dpts]; rw [depth_toPy x,depths_toPys xs]
end
section
variable {X:Cx} {EX:EXT}
mutual
theorem reads_of {pins:List (Addr × Obj)} {σ:L2.St} {H F:Hp} {s:Shared} {α:List Addr} (I:Inv X pins σ H s) (sub:Same F H):∀ (d:D) (v:V) (u:Value),plainD d = true → Rep X.K F α d v → RelV v u → ∃ as,Reads s.heap u (toPy d) as
  | .non,v,u,_,h,r => by unfold Rep at h; subst h; cases r; exact ⟨_,by rw [toPy]; exact .none⟩
  | .bl b,v,u,_,h,r => by unfold Rep at h; subst h; cases r; exact ⟨_,by rw [toPy]; exact .bool b⟩
  | .int b,v,u,_,h,r => by unfold Rep at h; subst h; obtain ⟨t,rfl⟩:=r; exact ⟨_,by rw [toPy]; exact .int b t⟩
  | .str b,v,u,_,h,r => by unfold Rep at h; subst h; obtain ⟨t,rfl⟩:=r; exact ⟨_,by rw [toPy]; exact .str _ t⟩
  | .tup ds,v,u,hp,h,r => by
    unfold Rep at h
    obtain ⟨a,vs,rfl,hs,hr⟩:=h
    cases r
    obtain ⟨its,rv,⟨o,e1,e2,n,e3⟩,_⟩:=I.tuple (Same.tup sub hs)
    obtain ⟨as,q⟩:=readsAll_of I sub ds vs its (by simpa [plainD] using hp) hr rv
    exact ⟨_,by rw [toPy]; exact .tuple e1 e2 e3 (by simpa using q)⟩
  | .lst ds,v,u,hp,h,r => by
    unfold Rep at h
    obtain ⟨a,vs,rfl,hs,hr⟩:=h
    cases r
    obtain ⟨its,rv,⟨o,n,e1,e2,_,e3⟩,_⟩:=I.list (sub.seq hs)
    obtain ⟨as,q⟩:=readsAll_of I sub ds vs its (by simpa [plainD] using hp) hr rv
    exact ⟨_,by rw [toPy]; exact .list e1 e2 e3 (by simpa using q)⟩
  | .dic _ _,_,_,hp,_,_ => by simp [plainD] at hp
  | .ref _,_,_,hp,_,_ => by simp [plainD] at hp
theorem readsAll_of {pins:List (Addr × Obj)} {σ:L2.St} {H F:Hp} {s:Shared} {α:List Addr} (I:Inv X pins σ H s) (sub:Same F H):∀ (ds:List D) (vs:List V) (us:List Value),plainDs ds = true → Reps X.K F α ds vs → Vals vs us → ∃ as,ReadsAll s.heap us (toPys ds) as
  | [],vs,us,_,h,r => by unfold Reps at h; subst h; cases r; exact ⟨_,by rw [toPys]; exact .nil⟩
  | d :: ds,vs,us,hp,h,r => by
    unfold Reps at h
    obtain ⟨v,vr,rfl,h1,h2⟩:=h
    cases r with
    | cons r1 r2 =>
      simp only [plainDs,Bool.and_eq_true] at hp
      obtain ⟨as,q1⟩:=reads_of I sub d v _ hp.1 h1 r1
      obtain ⟨bs,q2⟩:=readsAll_of I sub ds vr _ hp.2 h2 r2
      exact ⟨_,by rw [toPys]; exact .cons q1 q2⟩
end
theorem reads_pk {pins:List (Addr × Obj)} {σ:L2.St} {H F:Hp} {s:Shared} {α:List Addr} (I:Inv X pins σ H s) (sub:Same F H) {d:D} {v:V} {u:Value} (hp:plainD d = true) (h:Pk X.K α F H d v) (r:RelV v u):∃ as,Reads s.heap u (toPy d) as:=by
  cases d with
  | lst ds =>
    obtain ⟨a,vs,rfl,hs,hr⟩:=h
    cases r
    obtain ⟨its,rv,⟨o,n,e1,e2,_,e3⟩,_⟩:=I.list hs
    obtain ⟨as,q⟩:=readsAll_of I sub ds vs its (by simpa [plainD] using hp) hr rv
    exact ⟨_,by rw [toPy]; exact .list e1 e2 e3 (by simpa using q)⟩
  | dic _ _ => simp [plainD] at hp
  | _ => exact reads_of (α:=α) I sub _ v u hp h r
noncomputable def cmpOk (a b:D):Bool:=plainD a && plainD b && decide (min (dpt a) (dpt b) ≤ 100)
noncomputable def gEq:G2:=fun a b => if cmpOk a b then some (.bl (eqD a b)) else none
noncomputable def gNe:G2:=fun a b => if cmpOk a b then some (.bl (!eqD a b)) else none
noncomputable def rDat (K:PySem.W.Frag) (neg:Bool):R2:=fun x y H Q => ∃ F α a b,Same F H ∧ Pk K α F H a x ∧ Pk K α F H b y ∧ cmpOk a b = true ∧ Q (.bl (if neg then !eqD a b else eqD a b)) H
theorem cmp_room {A:Around} {a b:D} (hu:A.units + 200 < cLine) (h:cmpOk a b = true):A.units + min (toPy a).depth (toPy b).depth < cLine:=by
  unfold cmpOk at h
  simp only [Bool.and_eq_true,decide_eq_true_eq] at h
  rw [depth_toPy,depth_toPy]
  omega
theorem op_eqD (hu:X.A.units + 200 < cLine):OpR X (compareOp .Eq) (rDat X.K false):=by
  intro pins s σ H x y v u Q I rx ry h
  obtain ⟨F,α,a,b,sub,ha,hb,hc,q⟩:=h
  have hc':=hc
  unfold cmpOk at hc'
  simp only [Bool.and_eq_true] at hc'
  obtain ⟨as,r1⟩:=reads_pk I sub hc'.1.1 ha rx
  obtain ⟨bs,r2⟩:=reads_pk I sub hc'.1.2 hb ry
  refine PySem.SeqAt.compareEq_reads r1 r2 (canLay_toPy _ hc'.1.1) (canLay_toPy _ hc'.1.2) (cmp_room hu hc) ?_
  rw [eqv_toPy _ _ hc'.1.1 hc'.1.2]
  exact ⟨.bl _,H,I,rfl,q⟩
theorem op_neD (hu:X.A.units + 200 < cLine):OpR X (compareOp .NotEq) (rDat X.K true):=by
  intro pins s σ H x y v u Q I rx ry h
  obtain ⟨F,α,a,b,sub,ha,hb,hc,q⟩:=h
  have hc':=hc
  unfold cmpOk at hc'
  simp only [Bool.and_eq_true] at hc'
  obtain ⟨as,r1⟩:=reads_pk I sub hc'.1.1 ha rx
  obtain ⟨bs,r2⟩:=reads_pk I sub hc'.1.2 hb ry
  refine PySem.SeqAt.compareNe_reads r1 r2 (canLay_toPy _ hc'.1.1) (canLay_toPy _ hc'.1.2) (cmp_room hu hc) ?_
  rw [eqv_toPy _ _ hc'.1.1 hc'.1.2]
  exact ⟨.bl _,H,I,rfl,q⟩
theorem om_eq (hu:X.A.units + 200 < cLine):OpM X (compareOp .Eq) gEq:=by
  refine ⟨_,op_eqD hu,fun Z α F H μ a b c x y Q R ha hb hg k => ?_⟩
  unfold gEq at hg
  split at hg
  · rename_i hc
    cases hg
    exact ⟨F,α,a,b,R.sub,ha,hb,hc,k _ F H R (Same.refl _) (rep_bl _)⟩
  · cases hg
theorem om_ne (hu:X.A.units + 200 < cLine):OpM X (compareOp .NotEq) gNe:=by
  refine ⟨_,op_neD hu,fun Z α F H μ a b c x y Q R ha hb hg k => ?_⟩
  unfold gNe at hg
  split at hg
  · rename_i hc
    cases hg
    exact ⟨F,α,a,b,R.sub,ha,hb,hc,k _ F H R (Same.refl _) (rep_bl _)⟩
  · cases hg
noncomputable def inD (x:D) (ds:List D):Bool:=ds.any fun y => eqD y x
noncomputable def inOk (x:D) (ds:List D):Bool:=plainD x && plainDs ds && decide (dpt x ≤ 100)
noncomputable def gInG (neg:Bool):G2:=fun a b => match b with
  | .lst ds => if inOk a ds then some (.bl (if neg then !inD a ds else inD a ds)) else none
  | .tup ds => if inOk a ds then some (.bl (if neg then !inD a ds else inD a ds)) else none
  | _ => none
noncomputable def gIn:G2:=gInG false
theorem in_fun {pins:List (Addr × Obj)} {σ:L2.St} {H F:Hp} {s:Shared} {α:List Addr} {A:Around} (hu:A.units + 150 < cLine) (I:Inv X pins σ H s) (sub:Same F H) {x:D} {v:V} {u:Value} (hx:plainD x = true) (hd:dpt x ≤ 100)
    (h:Pk X.K α F H x v) (r:RelV v u) (ds:List D) (vs:List V) (us:List Value) (hp:plainDs ds = true) (hr:Reps X.K F α ds vs) (rv:Vals vs us) :
    ∃ e:Value → Bool,(∀ w ∈ us,SeqAt.EqAt A s w u (e w)) ∧ us.any e = inD x ds:=by
  obtain ⟨bs,rx⟩:=reads_pk I sub hx h r
  have hone:∀ (d:D) (w:Value) (as:List Addr),plainD d = true → Reads s.heap w (toPy d) as → SeqAt.EqAt A s w u (eqD d x):=fun d w as hd' q => by
    have:=PySem.SeqAt.eqAt_reads (toPy d) (toPy x) A s w u as bs q rx (canLay_toPy _ hd') (canLay_toPy _ hx) (by rw [depth_toPy,depth_toPy]; omega)
    rw [eqv_toPy _ _ hd' hx] at this
    exact this
  classical
  let e:Value → Bool:=fun w => decide (∃ d as,plainD d = true ∧ Reads s.heap w (toPy d) as ∧ eqD d x = true)
  have he:∀ (d:D) (w:Value) (as:List Addr),plainD d = true → Reads s.heap w (toPy d) as → e w = eqD d x:=fun d w as hd' q => by
    cases hq:eqD d x with
    | true => exact decide_eq_true ⟨d,as,hd',q,hq⟩
    | false =>
      refine decide_eq_false ?_
      rintro ⟨d2,as2,hp2,q2,e2⟩
      have e3:=PySem.SeqAt.Reads.unique (toPy d) (toPy d2) w as as2 (canLay_toPy _ hd') q q2
      rw [← eqv_toPy _ _ hp2 hx,← e3,eqv_toPy _ _ hd' hx,hq] at e2
      cases e2
  have all:∀ (ds:List D) (vs:List V) (us:List Value),plainDs ds = true → Reps X.K F α ds vs → Vals vs us → (∀ w ∈ us,SeqAt.EqAt A s w u (e w)) ∧ us.any e = inD x ds:=by
    intro ds
    induction ds with
    | nil =>
      intro vs us _ hr rv
      unfold Reps at hr
      subst hr
      cases rv
      exact ⟨fun w hw => (nomatch hw),rfl⟩
    | cons d ds ih =>
      intro vs us hp hr rv
      unfold Reps at hr
      obtain ⟨v1,vr,rfl,h1,h2⟩:=hr
      simp only [plainDs,Bool.and_eq_true] at hp
      cases rv with
      | cons r1 r2 =>
        obtain ⟨as,q1⟩:=reads_of I sub d v1 _ hp.1 h1 r1
        obtain ⟨a1,a2⟩:=ih vr _ hp.2 h2 r2
        refine ⟨fun w hw => ?_,?_⟩
        · rcases List.mem_cons.mp hw with rfl | hw
          · rw [he d _ as hp.1 q1]; exact hone d _ as hp.1 q1
          · exact a1 w hw
        · rw [List.any_cons,he d _ as hp.1 q1,a2]
          rfl
  exact ⟨e,(all ds vs us hp hr rv).1,(all ds vs us hp hr rv).2⟩
noncomputable def rInD (K:PySem.W.Frag) (neg:Bool):R2:=fun x y H Q => ∃ F α a ds p vs,Same F H ∧ Pk K α F H a x ∧ y = .ref p ∧ (SqL K H p vs ∨ SqT K H p vs) ∧ Reps K F α ds vs ∧ inOk a ds = true ∧ Q (.bl (if neg then !inD a ds else inD a ds)) H
theorem op_inD (hu:X.A.units + 200 < cLine):OpR X (compareOp .In) (rInD X.K false):=by
  intro pins s σ H x y v u Q I rx ry h
  obtain ⟨F,α,a,ds,p,vs,sub,ha,rfl,hq,hr,hc,q⟩:=h
  unfold inOk at hc
  simp only [Bool.and_eq_true,decide_eq_true_eq] at hc
  cases ry
  rcases hq with hq | hq
  · obtain ⟨its,r,pl,hz⟩:=I.list hq
    obtain ⟨e,e1,e2⟩:=in_fun (A:=X.A.in1) (by show X.A.units + 1 + 150 < cLine; omega) I sub hc.1.1 hc.2 ha rx ds vs its hc.1.2 hr r
    refine SeqAt.in_listAt e pl.isList (fun w hw => e1 w (by simpa using hw)) ⟨.bl _,H,I,rfl,?_⟩
    rw [show its.toArray.any e = its.any e by simp,e2]
    exact q
  · obtain ⟨its,r,pl,hz⟩:=I.tuple hq
    obtain ⟨e,e1,e2⟩:=in_fun (A:=X.A.in1) (by show X.A.units + 1 + 150 < cLine; omega) I sub hc.1.1 hc.2 ha rx ds vs its hc.1.2 hr r
    refine SeqAt.in_tupleAt e pl (fun w hw => e1 w (by simpa using hw)) ⟨.bl _,H,I,rfl,?_⟩
    rw [show its.toArray.any e = its.any e by simp,e2]
    exact q
theorem sv_in {K:PySem.W.Frag} (neg:Bool):Serves K (rInD K neg) (gInG neg):=by
  intro Z α F H μ a b c x y Q R ha hb hg k
  cases b with
  | lst ds =>
    simp only [gInG] at hg
    split at hg
    · rename_i hc
      have hg:=Option.some.inj hg
      subst hg
      obtain ⟨p,vs,rfl,hs,hr⟩:=hb
      exact ⟨F,α,a,ds,p,vs,R.sub,ha,rfl,.inl hs,hr,hc,k _ F H R (Same.refl _) (rep_bl _)⟩
    · cases hg
  | tup ds =>
    simp only [gInG] at hg
    split at hg
    · rename_i hc
      have hg:=Option.some.inj hg
      subst hg
      unfold Pk Rep at hb
      obtain ⟨p,vs,rfl,hs,hr⟩:=hb
      exact ⟨F,α,a,ds,p,vs,R.sub,ha,rfl,.inr (Same.tup R.sub hs),hr,hc,k _ F H R (Same.refl _) (rep_bl _)⟩
    · cases hg
  | _ => cases hg
theorem om_in (hu:X.A.units + 200 < cLine):OpM X (compareOp .In) gIn:=⟨_,op_inD hu,sv_in false⟩
end
end M
set_option Elab.async false
set_option linter.all false
set_option maxRecDepth 100000
set_option maxHeartbeats 4000000
namespace M
open PySem PySem.Spec PyProof.Rows L2
noncomputable def keyD (d:D):Option DK:=match d with
  | .int i => some (.inl i)
  | .str x => some (.inr x)
  | _ => none
noncomputable def lookK:List DK → List D → DK → Option D
  | k :: ks,v :: vs,q => if k = q then some v else lookK ks vs q
  | _,_,_ => none
theorem dk_inj {a b:DK} (h:dk a = dk b):a = b:=by
  cases a with
  | inl i =>
    cases b with
    | inl j => exact congrArg _ (Sum.inl.inj h)
    | inr y => cases h
  | inr x =>
    cases b with
    | inl j => cases h
    | inr y =>
      have h2:(⟨x.toArray⟩:Str) = ⟨y.toArray⟩:=Sum.inr.inj h
      have h3:x.toArray = y.toArray:=by injection h2
      have h4:x = y:=by simpa using congrArg Array.toList h3
      rw [h4]
theorem key_pk {K:PySem.W.Frag} {α:List Addr} {F H:Hp} {d:D} {v:V} {k:DK} (h:Pk K α F H d v) (e:keyD d = some k):v = kV (dk k):=by
  cases d with
  | int i => cases e; exact pk_int h
  | str x => cases e; exact pk_str h
  | _ => cases e
theorem look_val {K:PySem.W.Frag} {F:Hp} {α:List Addr}:∀ {ks:List DK} {ds:List D} {vs:List V} {k:DK},Reps K F α ds vs → ks.length = ds.length →
    (∃ d v,lookK ks ds k = some d ∧ valV ((ks.map dk).zip vs) (dk k) = some v ∧ Rep K F α d v) ∨ (lookK ks ds k = none ∧ valV ((ks.map dk).zip vs) (dk k) = none)
  | [],_,_,_,_,_ => .inr ⟨rfl,rfl⟩
  | q :: ks,[],vs,k,_,hl => by simp at hl
  | q :: ks,d :: ds,vs,k,h,hl => by
    unfold Reps at h
    obtain ⟨v,vr,rfl,h1,h2⟩:=h
    by_cases e:q = k
    · subst e
      refine .inl ⟨d,v,by simp [lookK],?_,h1⟩
      exact valV_pos (p:=(dk q,v)) rfl
    · have e2:¬ dk q = dk k:=fun z => e (dk_inj z)
      have ih:=look_val (k:=k) h2 (by simpa using hl)
      rw [show lookK (q :: ks) (d :: ds) k = lookK ks ds k by simp [lookK,e],show valV (((q :: ks).map dk).zip (v :: vr)) (dk k) = valV ((ks.map dk).zip vr) (dk k) from valV_neg (p:=(dk q,v)) e2]
      exact ih
noncomputable def gDGet:G2:=fun a b => match a with
  | .dic ks vs => (keyD b).bind (lookK ks vs)
  | _ => none
noncomputable def gDIn (neg:Bool):G2:=fun b a => match a with
  | .dic ks vs => (keyD b).map fun k => .bl (if neg then !(lookK ks vs k).isSome else (lookK ks vs k).isSome)
  | _ => none
section
variable {X:Cx} {EX:EXT} {e a b c:Expr} {pos:Pos} {m ma mb mc:MX} {es rest:List Expr}
theorem RH.hold {K:PySem.W.Frag} {Z:ZS} {F H:Hp} {α:List Addr} {μ:Mu} {p:Addr} (o:HO) (r:RH K Z α F H μ) (hp:H p = none):RH K (ZS.up Z p o) α F (upd H p o) μ:=by
  have fp:F p = none:=by
    cases e:F p with
    | none => rfl
    | some u => rw [r.sub _ _ e] at hp; cases hp
  refine ⟨fun b u e => ?_,r.len,fun k a c ha hc => ?_,fun b u e => ?_,fun b u e => ?_,fun k a c ha hc hd => ?_,r.dis,r.ext⟩
  · rw [upd_ne (ne_of_none (r.sub b u e) hp)]; exact r.sub b u e
  · have h:=r.cell k a c ha hc
    exact h.go (Ext.refl _ _) (fun _ => rfl) fun hd => let ⟨_,_,z⟩:=h.live hd; upd_ne (ne_of_none z hp)
  · by_cases hb:b = p
    · subst hb; rw [up_same] at e; rw [upd_same]; exact e
    · rw [up_ne hb] at e; rw [upd_ne hb]; exact r.zs b u e
  · by_cases hb:b = p
    · subst hb; exact fp
    · rw [up_ne hb] at e; exact r.zf b u e
  · have h:=r.cell k a c ha hc
    have hz:=r.zc k a c ha hc hd
    obtain ⟨_,_,z⟩:=h.live hd
    rw [up_ne (ne_of_none z hp)]; exact hz
theorem RH.unhold {K:PySem.W.Frag} {Z:ZS} {F H:Hp} {α:List Addr} {μ:Mu} {p:Addr} {o:HO} (o':HO) (r:RH K (ZS.up Z p o) α F H μ) (hz:Z.z p = none):RH K Z α (upd F p o') (upd H p o') μ ∧ Same F (upd F p o'):=by
  have fp:F p = none:=r.zf p o up_same
  have sF:Same F (upd F p o'):=fun b u e => by rw [upd_ne (ne_of_none e fp)]; exact e
  have ex:Ext α F α (upd F p o'):=⟨sF,fun _ _ h => h⟩
  have nc:∀ (k:Nat) (a:Addr) (c:Cell),α[k]? = some a → μ[k]? = some c → c ≠ .dead → a ≠ p:=fun k a c ha hc hd z => by
    have:=r.zc k a c ha hc hd
    rw [z,up_same] at this
    cases this
  refine ⟨⟨fun b u e => ?_,r.len,fun k a c ha hc => ?_,fun b u e => ?_,fun b u e => ?_,fun k a c ha hc hd => ?_,r.dis,r.ext.trans ex⟩,sF⟩
  · by_cases hb:b = p
    · subst hb; rw [upd_same] at e ⊢; exact e
    · rw [upd_ne hb] at e ⊢; exact r.sub b u e
  · exact (r.cell k a c ha hc).go ex (fun hd => upd_ne (nc k a c ha hc hd)) fun hd => upd_ne (nc k a c ha hc hd)
  · have hb:b ≠ p:=ne_of_none e hz
    rw [upd_ne hb]
    exact r.zs b u (by rw [up_ne hb]; exact e)
  · have hb:b ≠ p:=ne_of_none e hz
    rw [upd_ne hb]
    exact r.zf b u (by rw [up_ne hb]; exact e)
  · have ne:=nc k a c ha hc hd
    have:=r.zc k a c ha hc hd
    rw [up_ne ne] at this
    exact this
noncomputable abbrev GL:=List D → Option D
noncomputable def Pks (K:PySem.W.Frag) (α:List Addr) (F H:Hp):List D → List V → Prop
  | [],vs => vs = []
  | d :: ds,vs => ∃ v r,vs = v :: r ∧ Pk K α F H d v ∧ Pks K α F H ds r
theorem RH.pks {K:PySem.W.Frag} {Z:ZS} {α:List Addr} {F H:Hp} {μ:Mu} (r:RH K Z α F H μ):∀ {ds:List D} {vs:List V},Reps K F α ds vs → Pks K α F H (ds.map (deref μ)) vs
  | [],vs,h => by unfold Reps at h; exact h
  | d :: ds,vs,h => by
    unfold Reps at h
    obtain ⟨v,vr,hv,h1,h2⟩:=h
    exact ⟨v,vr,hv,r.pk h1,RH.pks r h2⟩
noncomputable def ServesL (K:PySem.W.Frag) (r:List V → Hp → VK → Prop) (g:GL):Prop:=∀ Z α F H μ ds c vs Q,RH K Z α F H μ → Pks K α F H ds vs → g ds = some c →
  (∀ v F' H',RH K Z α F' H' μ → Same F F' → Rep K F' α c v → Q v H') → r vs H Q
noncomputable def CallM (X:Cx) (f:Value) (g:GL):Prop:=∃ r,CallR X f r ∧ ServesL X.K r g
noncomputable def mCallB (g:GL) (ms:MAs):MX:=fun ρ μ => (ms ρ μ).bind fun ds μ1 => ofO μ1 (g (ds.map (deref μ1)))
theorem good_callB {t:TA} {ms:MAs} {r:List V → Hp → VK → Prop} {g:GL} (st:∀ Z α F H σ ρ μ Q,RS X.K Z α F H σ ρ μ → GA X.K EX Z α F Q (ms ρ μ) → t σ H Q) (hs:ServesL X.K r g):Good X EX (tCB r t) (mCallB g ms):=by
  intro Z α F H σ ρ μ Q R gd
  refine st Z α F H σ ρ μ _ R (GA.step (G:=GE X.K EX Z α F Q) gd (fun _ _ h => h) (fun h => h) fun ds μ1 vs α1 F1 H1 R1 e1 p1 g1 => ?_)
  cases hg:g (ds.map (deref μ1)) with
  | none => rw [hg] at g1; exact g1.elim
  | some c =>
    rw [hg] at g1
    exact hs Z α1 F1 H1 μ1 _ c vs Q R1 (R1.pks p1) hg fun v F' H' R' sf rp => g1 v α1 F' H' R' (e1.trans ⟨sf,fun _ _ h => h⟩) rp
theorem me_callB {x:Str} {p:Pos} {id:String} {g:GL} {ms:MAs} (hc:CallM X (.builtin id) g) (hg:Gl X x) (hm:X.mg x = none) (hv:bootBuiltins x = some (.builtin id)) (ha:MA X EX (e :: es) ms) (hn:x ≠ "__name__":=by decide) (hdb:(x == ("__debug__":Str)) = false:=by decide)
    (he:starEach (e :: es) X.env = (false,eval e X.env) :: starEach es X.env:=by rfl) (hpl:(backTo pos (starEach es X.env)).any (·.1) = false:=by rfl):ME X EX (.Call (.Name x p) (e :: es) [] pos) (mCallB g ms):=by
  obtain ⟨r,h1,h2⟩:=hc
  obtain ⟨t,pt,st,_⟩:=ha
  exact ⟨_,pe_callB h1 hg hm hv pt hn hdb he hpl,good_callB st h2⟩
theorem me_callTy {x:Str} {p:Pos} {T:String} {g:GL} {ms:MAs} (hc:CallM X (.type T) g) (hg:Gl X x) (hm:X.mg x = none) (hv:bootBuiltins x = some (.type T)) (ha:MA X EX (e :: es) ms) (hn:x ≠ "__name__":=by decide) (hdb:(x == ("__debug__":Str)) = false:=by decide)
    (he:starEach (e :: es) X.env = (false,eval e X.env) :: starEach es X.env:=by rfl) (hpl:(backTo pos (starEach es X.env)).any (·.1) = false:=by rfl):ME X EX (.Call (.Name x p) (e :: es) [] pos) (mCallB g ms):=by
  obtain ⟨r,h1,h2⟩:=hc
  obtain ⟨t,pt,st,_⟩:=ha
  exact ⟨_,pe_callTy h1 hg hm hv pt hn hdb he hpl,good_callB st h2⟩
noncomputable def gLen:GL:=fun ds => match ds with
  | [.lst xs] => some (.int xs.length)
  | [.tup xs] => some (.int xs.length)
  | [.str xs] => if xs.length ≤ 16777216 then some (.int xs.length) else none
  | _ => none
theorem cm_len:CallM X (.builtin "len") gLen:=by
  refine ⟨_,call_len,fun Z α F H μ ds c vs Q R hp hg k => ?_⟩
  match ds,hg with
  | [.lst xs],hg =>
    obtain ⟨v,r,rfl,⟨a,us,rfl,hs,hr⟩,hq⟩:=hp
    have hq:r = []:=hq
    subst hq
    cases hg
    exact ⟨_,_,rfl,.inl ⟨us,hs,rfl⟩,by rw [← hr.length]; exact k _ F H R (Same.refl _) (rep_int _)⟩
  | [.tup xs],hg =>
    obtain ⟨v,r,rfl,hv,hq⟩:=hp
    have hq:r = []:=hq
    subst hq
    unfold Pk Rep at hv
    obtain ⟨a,us,rfl,hs,hr⟩:=hv
    cases hg
    exact ⟨_,_,rfl,.inr ⟨us,Same.tup R.sub hs,rfl⟩,by rw [← hr.length]; exact k _ F H R (Same.refl _) (rep_int _)⟩
  | [.str xs],hg =>
    obtain ⟨v,r,rfl,hv,hq⟩:=hp
    have hq:r = []:=hq
    subst hq
    have hv:=pk_str hv
    subst hv
    simp only [gLen] at hg
    split at hg
    · rename_i hl
      cases hg
      refine ⟨_,xs.length,rfl,⟨by rw [sizeLine_eq]; simpa [Str.length] using hl,by simp [Str.length]⟩,k _ F H R (Same.refl _) (rep_int _)⟩
    · cases hg
noncomputable def gMax:GL:=fun ds => match ds with
  | [.int i,.int j] => some (.int (if j > i then j else i))
  | _ => none
theorem pks2 {K:PySem.W.Frag} {α:List Addr} {F H:Hp} {a b:D} {vs:List V} (h:Pks K α F H [a,b] vs):∃ v u,vs = [v,u] ∧ Pk K α F H a v ∧ Pk K α F H b u:=by
  obtain ⟨v,r,rfl,h1,u,r',rfl,h2,h3⟩:=h
  have h3:r' = []:=h3
  subst h3
  exact ⟨v,u,rfl,h1,h2⟩
theorem pks1 {K:PySem.W.Frag} {α:List Addr} {F H:Hp} {a:D} {vs:List V} (h:Pks K α F H [a] vs):∃ v,vs = [v] ∧ Pk K α F H a v:=by
  obtain ⟨v,r,rfl,h1,h3⟩:=h
  have h3:r = []:=h3
  subst h3
  exact ⟨v,rfl,h1⟩
theorem cm_max (hc:X.calm = true):CallM X (.builtin "max") gMax:=by
  refine ⟨_,call_max2 hc,fun Z α F H μ ds c vs Q R hp hg k => ?_⟩
  match ds,hg with
  | [.int i,.int j],hg =>
    obtain ⟨v,u,rfl,h1,h2⟩:=pks2 hp
    rw [pk_int h1,pk_int h2]
    cases hg
    exact ⟨i,j,rfl,k _ F H R (Same.refl _) (rep_int _)⟩
inductive Ki where
  | int | bool | str | list | tuple
noncomputable def Ki.nm:Ki → String
  | .int => "int"
  | .bool => "bool"
  | .str => "str"
  | .list => "list"
  | .tuple => "tuple"
noncomputable def isI (k:Ki) (d:D):Option Bool:=match d,k with
  | .non,_ => some false
  | .bl _,.bool => some true
  | .bl _,.int => some true
  | .bl _,_ => some false
  | .int _,.int => some true
  | .int _,_ => some false
  | .str _,.str => some true
  | .str _,_ => some false
  | .tup _,.tuple => some true
  | .tup _,_ => some false
  | .lst _,.list => some true
  | .lst _,_ => some false
  | .dic _ _,_ => some false
  | .ref _,_ => none
noncomputable def tyD:D → Option String
  | .non => some "NoneType"
  | .bl _ => some "bool"
  | .int _ => some "int"
  | .str _ => some "str"
  | .tup _ => some "tuple"
  | .lst _ => some "list"
  | .dic _ _ => some "dict"
  | .ref _ => none
theorem isI_kit {K:PySem.W.Frag} {k:Ki} {d:D} {b:Bool} {t:String} (h:isI k d = some b) (ht:tyD d = some t):PySem.W.kitOne K (.type t) (.type k.nm) = some b:=by
  cases d <;> cases ht <;> cases k <;> cases h <;> rfl
theorem isinst_pk {pins:List (Addr × Obj)} {σ:L2.St} {H F:Hp} {s:Shared} {α:List Addr} {A:Around} {E:Value → Shared → Prop} {Q:Value → Shared → Prop} {cl:Value} {b:Bool} {d:D} {v:V} {u:Value} {t:String}
    (I:Inv X pins σ H s) (sub:Same F H) (h:Pk X.K α F H d v) (r:RelV v u) (ht:tyD d = some t) (e:PySem.W.kitOne X.K (.type t) cl = some b) (q:∀ tk,Q (.bool b) { s with toks:=tk }) :
    wpAny (model X.prog X.w) A (call (.builtin "isinstance") [u,cl]) Q E s:=by
  cases d with
  | non => cases ht; have:=pk_non h; subst this; exact isinst_ok I r .non e q
  | bl x => cases ht; have:=pk_bl h; subst this; exact isinst_ok I r (.bl x) e q
  | int x => cases ht; have:=pk_int h; subst this; exact isinst_ok I r (.int x) e q
  | str x => cases ht; have:=pk_str h; subst this; exact isinst_ok I r (.str _) e q
  | tup x =>
    cases ht
    unfold Pk Rep at h
    obtain ⟨a,vs,rfl,hs,hr⟩:=h
    cases r
    obtain ⟨its,rv,⟨o,h1,h2,_⟩,_⟩:=I.tuple (Same.tup sub hs)
    exact PySem.W.kia_one PySem.W.kitx_tuple I.kIn ⟨o,h1,h2⟩ e (fun z => nomatch z) q
  | lst x =>
    cases ht
    obtain ⟨a,vs,rfl,hs,hr⟩:=h
    cases r
    obtain ⟨its,rv,⟨o,n,h1,h2,_⟩,_⟩:=I.list hs
    exact PySem.W.kia_one PySem.W.kitx_list I.kIn ⟨o,h1,h2⟩ e (fun z => nomatch z) q
  | dic ks x =>
    cases ht
    obtain ⟨a,vs,rfl,hs,_⟩:=h
    exact isinst_ok I r (.dK hs) e q
  | ref x => cases ht
noncomputable def mIsI (k:Ki) (m:MX):MX:=fun ρ μ => (m ρ μ).bind fun d μ1 => ofO μ1 ((isI k (deref μ1 d)).map .bl)
theorem call_isI (k:Ki):CallR X (.builtin "isinstance") (fun xs H Q => ∃ F α d v b,Same F H ∧ xs = [v,.ty k.nm] ∧ Pk X.K α F H d v ∧ isI k d = some b ∧ Q (.bl b) H):=by
  intro pins s σ H xs us Q I r h
  obtain ⟨F,α,d,v,b,sub,rfl,hp,hk,q⟩:=h
  obtain ⟨u,w',rfl,h1,h2⟩:=vals2 r
  cases h2
  obtain ⟨t,ht⟩:∃ t,tyD d = some t:=by
    cases d <;> first | exact ⟨_,rfl⟩ | (cases hk)
  exact isinst_pk I sub hp h1 ht (isI_kit hk ht) fun tk => ⟨.bl b,H,I.tok _,rfl,q⟩
theorem me_isI {x:Str} {p p2:Pos} (k:Ki) (hx:bootBuiltins x = some (.type k.nm)) (hg:Gl X "isinstance") (hm:X.mg "isinstance" = none) (hg2:Gl X x) (hm2:X.mg x = none) (ha:ME X EX e m) (hn2:x ≠ "__name__":=by decide) (hd2:(x == ("__debug__":Str)) = false:=by decide)
    (hs:starEach [e,.Name x p2] X.env = (false,eval e X.env) :: starEach [.Name x p2] X.env:=by rfl) (hs2:starEach [.Name x p2] X.env = [(false,eval (.Name x p2) X.env)]:=by rfl):ME X EX (.Call (.Name "isinstance" p) [e,.Name x p2] [] pos) (mIsI k m):=by
  obtain ⟨t,pt,st⟩:=ha
  refine ⟨_,pe_callB (call_isI k) hg hm PyProof.Rows.boot_isinstance (pa_cons pt (pa_cons (pe_bltn (v:=.ty k.nm) hg2 hm2 hx rfl hn2 hd2) pa_nil hs2) hs) (by decide) (by decide) hs (by rw [hs2]; rfl),fun Z α F H σ ρ μ Q R g => ?_⟩
  refine st Z α F H σ ρ μ _ R (GE.step (G:=GE X.K EX Z α F Q) g (fun _ _ h => h) (fun h => h) fun d μ1 v α1 F1 H1 R1 e1 p1 g1 => ?_)
  cases hk:isI k (deref μ1 d) with
  | none => rw [hk] at g1; exact g1.elim
  | some b =>
    rw [hk] at g1
    exact ⟨F1,α1,deref μ1 d,v,b,R1.sub,rfl,R1.pk p1,hk,g1 _ α1 F1 H1 R1 e1 (rep_bl _)⟩
end
end M
set_option Elab.async false
set_option linter.all false
set_option maxRecDepth 100000
set_option maxHeartbeats 4000000
namespace M
open PySem PySem.Spec PyProof.Rows L2
noncomputable def NoX:EXT:=⟨fun _ _ _ => False,fun _ _ _ _ _ _ h => h⟩
noncomputable abbrev Fn:=List D → Mu → Res D
noncomputable def noX {α:Type}:Res α → Res α
  | .exc _ _ => .bad
  | r => r
noncomputable def spM (K:PySem.W.Frag) (n:Nat) (φ:Fn):Sp:=fun vs H Q _ => ∃ Z α F ds μ,RH K Z α F H μ ∧ Reps K F α ds vs ∧ ds.length = n ∧ GE K NoX Z α F Q (φ ds μ)
noncomputable def mCall (φ:Fn) (ms:MAs):MX:=fun ρ μ => (ms ρ μ).bind fun ds μ1 => noX (φ ds μ1)
section
variable {X:Cx} {EX:EXT} {e a b c:Expr} {pos:Pos} {m ma mb mc:MX} {es rest:List Expr} {ms:MAs}
theorem GE.noX {K:PySem.W.Frag} {Z:ZS} {α:List Addr} {F:Hp} {Q:VK} {r:Res D} (h:GE K EX Z α F Q (M.noX r)):GE K NoX Z α F Q r:=by
  cases r with
  | ok d μ => exact h
  | exc x μ => exact h.elim
  | bad => exact h
theorem me_call {x:Str} {p:Pos} {k:Nat} {f:Addr} {fd:FuncData} {ps:List Str} {φ:Fn} (F:FnOk X.prog X.w X.K X.mg X.base CX0 k f fd ps (spM X.K ps.length φ)) (hr:Room k X.A) (hg:Gl X x) (hm:X.mg x = some (.ref f)) (hk:PySem.W.keepIn X.K (.ref f) = true) (hb:Binds X.K fd ps [])
    (ha:MA X EX (e :: es) ms) (hl:(e :: es).length = ps.length) (hdb:(x == ("__debug__":Str)) = false:=by decide) (he:starEach (e :: es) X.env = (false,eval e X.env) :: starEach es X.env:=by rfl) (hpl:(backTo pos (starEach es X.env)).any (·.1) = false:=by rfl) :
    ME X EX (.Call (.Name x p) (e :: es) [] pos) (mCall φ ms):=by
  obtain ⟨t,pt,st,lt⟩:=ha
  refine ⟨_,pe_call F hr hg hm hk hb .nil pass0 pt hdb he hpl,fun Z α G H σ ρ μ Q R g => ?_⟩
  refine st Z α G H σ ρ μ _ R (GA.stepE (G:=GE X.K EX Z α G Q) g (fun _ _ h => h) (fun h => h) fun ds μ1 vs α1 F1 H1 hm1 R1 e1 p1 g1 => ?_)
  rw [List.append_nil]
  exact ⟨Z,α1,F1,ds,μ1,R1,p1,(lt _ _ _ _ hm1).trans hl,GE.noX (GE.ext e1 g1)⟩
variable {st:Stmt} {sts:List Stmt} {n n1 n2:MSt} {t:MB}
noncomputable def mSkip:MSt:=fun ρ μ => .ok (.nx ρ) μ
noncomputable def mSeq (n1 n2:MSt):MSt:=fun ρ μ => (n1 ρ μ).bind fun o μ1 => match o with
  | .nx ρ1 => n2 ρ1 μ1
  | o => .ok o μ1
noncomputable def mRet (m:MX):MSt:=fun ρ μ => (m ρ μ).bind fun d μ1 => .ok (.rt d) μ1
noncomputable def mSet (i:Nat) (m:MX):MSt:=fun ρ μ => (m ρ μ).bind fun d μ1 => .ok (.nx (ρ.set i (some d))) μ1
noncomputable def mIte (t:MB) (n1 n2:MSt):MSt:=fun ρ μ => (t ρ μ).bind fun k μ1 => match k with
  | true => n1 ρ μ1
  | false => n2 ρ μ1
theorem mss_nil:MSs X EX [] mSkip:=⟨_,pss_nil,fun Z α F H σ ρ μ N R g => g σ α F H R (Ext.refl _ _)⟩
theorem mss_one (h:MS X EX st n):MSs X EX [st] n:=let ⟨t,p,s⟩:=h; ⟨t,pss_one p,s⟩
theorem mss_cons (h1:MS X EX st n1) (h2:MSs X EX sts n2):MSs X EX (st :: sts) (mSeq n1 n2):=by
  obtain ⟨t,p,s⟩:=h1
  obtain ⟨u,q,r⟩:=h2
  refine ⟨_,pss_cons p q,fun Z α F H σ ρ μ N R g => ?_⟩
  refine s Z α F H σ ρ μ _ R ?_
  unfold mSeq at g
  cases e:n1 ρ μ with
  | ok o μ1 =>
    rw [e] at g
    cases o with
    | nx ρ1 => exact fun σ' α' F' H' R' e' => r Z α' F' H' σ' ρ1 μ1 N R' (GS.ext e' g)
    | rt d => exact g
    | bk ρ1 => exact g
    | ct ρ1 => exact g
  | exc x μ1 => rw [e] at g; exact g
  | bad => rw [e] at g; exact g
theorem ms_ret (h:ME X EX e m):MS X EX (.Return (some e) pos) (mRet m):=by
  obtain ⟨t,p,s⟩:=h
  refine ⟨_,ps_ret p,fun Z α F H σ ρ μ N R g => ?_⟩
  exact s Z α F H σ ρ μ _ R (GE.step (G:=GS X.K EX Z α F N) g (fun _ _ h => h) (fun h => h) fun d μ1 v α1 F1 H1 R1 e1 p1 g1 => g1 v α1 F1 H1 R1 e1 p1)
theorem RS.set {K:PySem.W.Frag} {Z:ZS} {F H:Hp} {α:List Addr} {σ:L2.St} {ρ:En} {μ:Mu} {d:D} {v:V} (i:Nat) (R:RS K Z α F H σ ρ μ) (p:Rep K F α d v):RS K Z α F H (σ.set i (some v)) (ρ.set i (some d)) μ:=by
  refine ⟨R.hp,by simpa using R.len,fun j e h => ?_⟩
  by_cases hj:j = i
  · subst hj
    have hl:j < ρ.length:=by
      have:=(List.getElem?_eq_some_iff.mp h).1
      simpa using this
    rw [List.getElem?_set_self hl] at h
    cases h
    exact ⟨v,List.getElem?_set_self (by rw [← R.len]; exact hl),p⟩
  · rw [List.getElem?_set_ne (Ne.symm hj)] at h
    obtain ⟨u,h1,h2⟩:=R.sl j e h
    exact ⟨u,by rw [List.getElem?_set_ne (Ne.symm hj)]; exact h1,h2⟩
theorem ms_set {i:Nat} {x:Str} {pos':Pos} (hN:X.nd) (hi:X.N[i]? = some x) (hx:Loc X.env.scope x) (hf:X.fn x = true ∨ X.env.scope.names.lookup x = some .local) (h:ME X EX e m) (hs:swapsWith e (some (.Name x pos')) pos.line X.env = pure false:=by rfl) :
    MS X EX (.Assign [.Name x pos'] e pos) (mSet i m):=by
  obtain ⟨t,p,s⟩:=h
  refine ⟨_,ps_set hN hi hx p hs hf,fun Z α F H σ ρ μ N R g => ?_⟩
  exact s Z α F H σ ρ μ _ R (GE.step (G:=GS X.K EX Z α F N) g (fun _ _ h => h) (fun h => h) fun d μ1 v α1 F1 H1 R1 e1 p1 g1 => g1 _ α1 F1 H1 ((R.to R1 e1).set i p1) e1)
theorem ms_if {sa sb:List Stmt} (hc:MT X EX c t) (ha:MSs X EX sa n1) (hb:MSs X EX sb n2):MS X EX (.If c sa sb pos) (mIte t n1 n2):=by
  obtain ⟨tc,pc,sc⟩:=hc
  obtain ⟨ta,pa,ga⟩:=ha
  obtain ⟨tb,pb,gb⟩:=hb
  refine ⟨_,ps_if pc pa pb,fun Z α F H σ ρ μ N R g => ?_⟩
  refine sc Z α F H σ ρ μ _ R (GB.step (G:=GS X.K EX Z α F N) g (fun _ _ h => h) (fun h => h) fun k μ1 α1 F1 H1 R1 e1 g1 => ?_)
  cases k with
  | true => exact ga Z α1 F1 H1 σ ρ μ1 N (R.to R1 e1) (GS.ext e1 g1)
  | false => exact gb Z α1 F1 H1 σ ρ μ1 N (R.to R1 e1) (GS.ext e1 g1)
noncomputable abbrev MG:=D → En → Option En
noncomputable def MTg (X:Cx) (tg:Expr) (mg:MG):Prop:=∃ g:TG,PG X tg g ∧ ∀ Z α F H σ ρ μ v d ρ' Q,RS X.K Z α F H σ ρ μ → Rep X.K F α d v → mg d ρ = some ρ' → (∀ σ',RS X.K Z α F H σ' ρ' μ → Q σ' H) → g v σ H Q
noncomputable def gN (i:Nat):MG:=fun d ρ => some (ρ.set i (some d))
theorem mt_name {i:Nat} {x:Str} (hN:X.nd) (hi:X.N[i]? = some x) (hx:Loc X.env.scope x) (hf:X.fn x = true ∨ X.env.scope.names.lookup x = some .local):MTg X (.Name x pos) (gN i) :=
  ⟨_,pg_name hN hi hx hf,fun Z α F H σ ρ μ v d ρ' Q R p h k => by cases h; exact k _ (R.set i p)⟩
noncomputable abbrev MIt:=En → Mu → Res (List D)
noncomputable def WalkOk (K:PySem.W.Frag) (α:List Addr) (F:Hp) (J:It) (ds:List D):Prop :=
  ∀ (Z:ZS) α' F' H' (μ':Mu),RH K Z α' F' H' μ' → Ext α F α' F' → ∀ i,(i < ds.length → J.go i H' ∧ ∀ x H2,J.yld i H' x H2 → ∃ d F2,ds[i]? = some d ∧ RH K Z α' F2 H2 μ' ∧ Same F' F2 ∧ Rep K F2 α' d x) ∧ (ds.length = i → J.stop i H')
noncomputable def MI (X:Cx) (EX:EXT) (tg e:Expr) (m:MIt):Prop:=∃ wi:TI,PI X tg e wi ∧ ∀ Z α F H σ ρ μ Rr,RS X.K Z α F H σ ρ μ →
  (match m ρ μ with
    | .ok ds μ' => ∀ J α' F' H',RH X.K Z α' F' H' μ' → Ext α F α' F' → WalkOk X.K α' F' J ds → Rr J H'
    | .exc x μ' => EX.P Z x μ'
    | .bad => False) → wi σ H Rr
noncomputable def rangeD (n:Nat):List D:=(List.range n).map fun k => .int (k:Nat)
noncomputable def asRange (ds:List D):Option (List D):=match ds with
  | [.int j] => if -(2 ^ 62) ≤ j ∧ j < 2 ^ 62 then some (rangeD j.toNat) else none
  | _ => none
noncomputable def mRange1 (m:MX):MIt:=fun ρ μ => (m ρ μ).bind fun d μ1 => ofO μ1 (asRange [d])
theorem walk_range {K:PySem.W.Frag} {F:Hp} {α:List Addr} (n:Nat):WalkOk K α F (Itr 0 n) (rangeD n):=by
  intro Z α' F' H' μ' R e i
  have hl:(rangeD n).length = n:=by simp [rangeD]
  refine ⟨fun h => ⟨by rw [hl] at h; exact h,fun x H2 y => ?_⟩,fun h => by rw [hl] at h; exact Nat.le_of_eq h⟩
  obtain ⟨rfl,rfl⟩:=y
  rw [hl] at h
  refine ⟨.int (i:Nat),F',by simp [rangeD,h],R,Same.refl _,?_⟩
  rw [Int.zero_add]
  exact rep_int _
theorem mi_range1 {tg:Expr} {p:Pos} (hg:Gl X "range") (hm:X.mg "range" = none) (ha:ME X EX a m) (hs:starEach [a] X.env = [(false,eval a X.env)]:=by rfl):MI X EX tg (.Call (.Name "range" p) [a] [] pos) (mRange1 m):=by
  obtain ⟨t,pt,st⟩:=ha
  refine ⟨_,pi_range1 hg hm (pa_cons pt pa_nil hs) hs,fun Z α F H σ ρ μ Rr R g => ?_⟩
  unfold mRange1 at g
  refine st Z α F H σ ρ μ _ R ?_
  cases h1:m ρ μ with
  | exc x μ1 => rw [h1] at g; exact g
  | bad => rw [h1] at g; exact g
  | ok d μ1 =>
    rw [h1] at g
    intro v α' F' H' R' e' p
    cases d with
    | int j =>
      unfold Rep at p
      subst p
      simp only [bind_ok,asRange] at g
      by_cases hj:-(2 ^ 62) ≤ j ∧ j < 2 ^ 62
      · rw [if_pos hj] at g
        exact ⟨j,rfl,hj.1,hj.2,g _ α' F' H' R' e' (walk_range _)⟩
      · rw [if_neg hj] at g; exact g.elim
    | _ => exact g.elim
noncomputable def asSeqL (d:D):Option (List D):=match d with
  | .lst xs => some xs
  | _ => none
noncomputable def asSeqT (d:D):Option (List D):=match d with
  | .tup xs => some xs
  | _ => none
noncomputable def mOverL (m:MX):MIt:=fun ρ μ => (m ρ μ).bind fun d μ1 => ofO μ1 (asSeqL d)
noncomputable def mOverT (m:MX):MIt:=fun ρ μ => (m ρ μ).bind fun d μ1 => ofO μ1 (asSeqT d)
theorem walk_list {K:PySem.W.Frag} {F:Hp} {α:List Addr} {a:Addr} {ds:List D} {vs:List V} (hs:SqL K F a vs) (hr:Reps K F α ds vs):WalkOk K α F (Itl K a) ds:=by
  intro Z α' F' H' μ' R e i
  have hl:=hr.length
  have hq:SqL K H' a vs:=(e.fr.trans R.sub).seq hs
  refine ⟨fun h => ?_,fun h => ⟨vs,hq,by omega⟩⟩
  obtain ⟨v,h1,h2⟩:=hr.get (List.getElem?_eq_getElem h)
  refine ⟨⟨vs,v,hq,h1⟩,fun x H2 y => ?_⟩
  obtain ⟨rfl,y⟩:=y
  have hx:=y vs hq
  rw [h1] at hx
  cases hx
  exact ⟨_,F',List.getElem?_eq_getElem h,R,Same.refl _,h2.mono e⟩
theorem walk_tup {K:PySem.W.Frag} {F:Hp} {α:List Addr} {a:Addr} {ds:List D} {vs:List V} (hs:SqT K F a vs) (hr:Reps K F α ds vs):WalkOk K α F (Itt K a) ds:=by
  intro Z α' F' H' μ' R e i
  have hl:=hr.length
  have hq:SqT K H' a vs:=Same.tup (e.fr.trans R.sub) hs
  refine ⟨fun h => ?_,fun h => ⟨vs,hq,by omega⟩⟩
  obtain ⟨v,h1,h2⟩:=hr.get (List.getElem?_eq_getElem h)
  refine ⟨⟨vs,v,hq,h1⟩,fun x H2 y => ?_⟩
  obtain ⟨rfl,y⟩:=y
  have hx:=y vs hq
  rw [h1] at hx
  cases hx
  exact ⟨_,F',List.getElem?_eq_getElem h,R,Same.refl _,h2.mono e⟩
theorem mi_list {tg:Expr} (ha:ME X EX a m):MI X EX tg a (mOverL m):=by
  obtain ⟨t,pt,st⟩:=ha
  refine ⟨_,pi_list pt,fun Z α F H σ ρ μ Rr R g => ?_⟩
  unfold mOverL at g
  refine st Z α F H σ ρ μ _ R ?_
  cases h1:m ρ μ with
  | exc x μ1 => rw [h1] at g; exact g
  | bad => rw [h1] at g; exact g
  | ok d μ1 =>
    rw [h1] at g
    intro v α' F' H' R' e' p
    cases d with
    | lst ds =>
      unfold Rep at p
      obtain ⟨b,vs,rfl,hs,hr⟩:=p
      exact ⟨b,rfl,⟨vs,R'.sub.seq hs⟩,g _ α' F' H' R' e' (walk_list hs hr)⟩
    | _ => exact g.elim
theorem mi_tup {tg:Expr} (ha:ME X EX a m):MI X EX tg a (mOverT m):=by
  obtain ⟨t,pt,st⟩:=ha
  refine ⟨_,pi_tup pt,fun Z α F H σ ρ μ Rr R g => ?_⟩
  unfold mOverT at g
  refine st Z α F H σ ρ μ _ R ?_
  cases h1:m ρ μ with
  | exc x μ1 => rw [h1] at g; exact g
  | bad => rw [h1] at g; exact g
  | ok d μ1 =>
    rw [h1] at g
    intro v α' F' H' R' e' p
    cases d with
    | tup ds =>
      unfold Rep at p
      obtain ⟨b,vs,rfl,hs,hr⟩:=p
      exact ⟨b,rfl,⟨vs,Same.tup R'.sub hs⟩,g _ α' F' H' R' e' (walk_tup hs hr)⟩
    | _ => exact g.elim
end
noncomputable def fin (r:Res Out):Res D:=r.bind fun o μ1 => match o with
  | .rt d => .ok d μ1
  | .nx _ => .ok .non μ1
  | _ => .bad
noncomputable def fnOf (k:Nat) (n:MSt):Fn:=fun ds μ => fin (n (ds.map some ++ List.replicate k none) μ)
section
variable {P:Program} {w:World} {K:PySem.W.Frag} {mg:Str → Option Value} {base:Heap}
theorem rs_start {Z:ZS} {F H:Hp} {α:List Addr} {μ:Mu} {ds:List D} {vs:List V} (N:List Str) (k:Nat) (hk:N.length - vs.length = k) (R:RH K Z α F H μ) (r:Reps K F α ds vs):RS K Z α F H (start N vs) (ds.map some ++ List.replicate k none) μ:=by
  have hl:=r.length
  refine ⟨R,by simp [L2.start,hl,hk],fun i d h => ?_⟩
  by_cases hi:i < ds.length
  · rw [List.getElem?_append_left (by simpa using hi),List.getElem?_map] at h
    cases e:ds[i]? with
    | none => rw [e] at h; cases h
    | some d' =>
      rw [e] at h
      cases h
      obtain ⟨v,h1,h2⟩:=r.get e
      refine ⟨v,?_,h2⟩
      unfold L2.start
      rw [List.getElem?_append_left (by rw [List.length_map]; omega),List.getElem?_map,h1]
      rfl
  · rw [List.getElem?_append_right (by simp; omega)] at h
    have:=List.getElem?_replicate (a:=(none:Option D)) (n:=k) (i:=i - (ds.map some).length)
    rw [this] at h
    split at h <;> cases h
theorem fn_ok {x qual:Str} {st:Stmt} {f:Addr} {fd:FuncData} {N ps:List Str} {k j:Nat} {n:MSt} (F:Fun K x qual st f fd) (S:FnScope N ps (defScope st)) (hj:N.length - ps.length = j)
    (hb:∀ (cdv:Value) (A:Around) (outer:List Env) (s:Shared) (H:Hp) (E:XK),Room k (A.deeper (envOfC qual (defScope st) s.heap.objs.size f cdv)) →
      MSs (cxOf CX0 P w K mg base N qual (defScope st) f cdv A outer s H E).nox NoX (defBody st) n):FnOk P w K mg base CX0 (k + 1) f fd ps (spM K ps.length (fnOf j n)):=by
  refine F.ok S (fun vs H Q E h => ?_) (fun cdv A outer s H vs Q E hr h => ?_)
  · obtain ⟨Z,α,G,ds,μ,R,r,hl,_⟩:=h
    rw [← hl,r.length]
  · obtain ⟨Z,α,G,ds,μ,R,r,hl,g⟩:=h
    obtain ⟨t,p,s'⟩:=hb cdv A outer s H E hr
    refine ⟨t,p,s' Z α G H (start N vs) (ds.map some ++ List.replicate j none) μ _ (rs_start N j (by rw [← r.length,hl]; exact hj) R r) ?_⟩
    unfold fnOf fin at g
    cases e:n (ds.map some ++ List.replicate j none) μ with
    | exc x μ1 => rw [e] at g; exact g
    | bad => rw [e] at g; exact g
    | ok o μ1 =>
      rw [e] at g
      cases o with
      | rt d => exact g
      | nx ρ => exact fun σ' α' F' H' R' e' => g .non α' F' H' R'.hp e' rep_non
      | bk ρ => exact g.elim
      | ct ρ => exact g.elim
structure Ct (X:Cx) (N G:List Str):Prop where
  hN:X.N = N
  nd:N.Nodup
  loc:∀ x ∈ N,Loc X.env.scope x ∧ (x == ("__debug__":Str)) = false ∧ (x == ("__classdict__":Str)) = false
  gl:∀ x ∈ G,Gl X x
  fn:∀ x,X.fn x = true
  calm:X.calm = true
  un:X.A.units + 200 < cLine
theorem Ct.ndX {X:Cx} {N G:List Str} (C:Ct X N G):X.N.Nodup:=by rw [C.hN]; exact C.nd
theorem Ct.at {X:Cx} {N G:List Str} (C:Ct X N G) {i:Nat} {x:Str} (h:N[i]? = some x):X.N[i]? = some x:=by rw [C.hN]; exact h
theorem mem_at {N:List Str} {i:Nat} {x:Str} (h:N[i]? = some x):x ∈ N:=List.mem_of_getElem? h
theorem Loc.vis {sc:Scope} {x:Str} (h:Loc sc x):Vis sc x:=h.elim .inl fun z => .inr (.inl z)
theorem sv {X:Cx} {EX:EXT} {N G:List Str} (C:Ct X N G) (i:Nat) {x:Str} {pos:Pos} (h:N[i]? = some x):ME X EX (.Name x pos) (mVar i) :=
  me_var (C.at h) (Loc.vis (C.loc x (mem_at h)).1) (C.loc x (mem_at h)).2.1 (C.loc x (mem_at h)).2.2
theorem sa {X:Cx} {EX:EXT} {N G:List Str} (C:Ct X N G) (i:Nat) {x:Str} {pos pos':Pos} {e:Expr} {m:MX} (h:N[i]? = some x) (he:ME X EX e m) (hs:swapsWith e (some (.Name x pos')) pos.line X.env = pure false:=by rfl) (hk:X.kn = none:=by rfl) :
    MS X EX (.Assign [.Name x pos'] e pos) (mSet i m):=ms_set ⟨C.ndX,hk⟩ (C.at h) (C.loc x (mem_at h)).1 (.inl (C.fn x)) he hs
theorem st {X:Cx} {N G:List Str} (C:Ct X N G) (i:Nat) {x:Str} {pos:Pos} (h:N[i]? = some x) (hk:X.kn = none:=by rfl):MTg X (.Name x pos) (gN i):=mt_name ⟨C.ndX,hk⟩ (C.at h) (C.loc x (mem_at h)).1 (.inl (C.fn x))
theorem Ct.g {X:Cx} {N G:List Str} (C:Ct X N G) (j:Nat) {x:Str} (h:G[j]? = some x):Gl X x:=C.gl x (mem_at h)
theorem ct_of {CX:CXT} {N G:List Str} {qual:Str} {sc:Scope} {f:Addr} {cdv:Value} {A:Around} {outer:List Env} {s:Shared} {H:Hp} {E:XK} {k:Nat} (nd:N.Nodup)
    (loc:∀ x ∈ N,Loc sc x ∧ (x == ("__debug__":Str)) = false ∧ (x == ("__classdict__":Str)) = false) (gl:∀ x ∈ G,sc.names.lookup x = some .globalImplicit) (hr:Room k (A.deeper (envOfC qual sc s.heap.objs.size f cdv))) :
    Ct (cxOf CX P w K mg base N qual sc f cdv A outer s H E).nox N G :=
  ⟨rfl,nd,loc,gl,fun _ => rfl,rfl,by have:=hr.un; show (A.deeper _).units + 200 < cLine; omega⟩
end
end M
set_option Elab.async false
set_option linter.all false
set_option maxRecDepth 100000
set_option maxHeartbeats 4000000
namespace M
open PySem PySem.Spec PyProof.Rows L2
noncomputable def mNeg (m:MX):MX:=fun ρ μ => (m ρ μ).bind fun d μ1 => ofO μ1 (match d with
  | .int i => some (.int (-i))
  | _ => none)
theorem me_neg {X:Cx} {EX:EXT} {e:Expr} {pos:Pos} {m:MX} (h:ME X EX e m):ME X EX (.UnaryOp .USub e pos) (mNeg m):=by
  obtain ⟨t,p,s⟩:=h
  refine ⟨_,pe_un un_neg p,fun Z α F H σ ρ μ Q R g => ?_⟩
  refine s Z α F H σ ρ μ _ R (GE.step (G:=GE X.K EX Z α F Q) g (fun _ _ h => h) (fun h => h) fun d μ1 v α1 F1 H1 R1 e1 p1 g1 => ?_)
  cases d with
  | int i => unfold Rep at p1; exact ⟨i,p1,g1 _ α1 F1 H1 R1 e1 (rep_int _)⟩
  | _ => exact g1.elim
theorem boot_bool:bootBuiltins "bool" = some (.type "bool"):=by decide +kernel
theorem boot_str:bootBuiltins "str" = some (.type "str"):=by decide +kernel
theorem boot_list:bootBuiltins "list" = some (.type "list"):=by decide +kernel
theorem boot_tuple:bootBuiltins "tuple" = some (.type "tuple"):=by decide +kernel
noncomputable def ConstAt (K:PySem.W.Frag) (mg:Str → Option Value) (x:Str) (d:D):Prop:=∃ v u,mg x = some u ∧ RelV v u ∧ ∀ F α,Rep K F α d v
theorem me_const {X:Cx} {EX:EXT} {x:Str} {d:D} {pos:Pos} (c:ConstAt X.K X.mg x d) (hg:Gl X x) (hd:(x == ("__debug__":Str)) = false:=by decide):ME X EX (.Name x pos) (mC d):=by
  obtain ⟨v,u,h1,h2,h3⟩:=c
  exact me_c (pe_glob hg h1 h2 hd) h3
noncomputable def BindsS (fd:FuncData) (ps:List Str):Prop:=∀ us:List Value,us.length = ps.length → bindArgs fd ⟨us,[]⟩ = pure (ps.zip us)
noncomputable def DefAt (K:PySem.W.Frag) (mg:Str → Option Value) (x:Str) (st:Stmt) (ps:List Str):Prop:=∃ f fd,mg x = some (.ref f) ∧ Fun K x x st f fd ∧ BindsS fd ps
noncomputable def FnAt (P:Program) (w:World) (K:PySem.W.Frag) (mg:Str → Option Value) (base:Heap) (x:Str) (k n:Nat) (φ:Fn):Prop :=
  ∃ f fd ps,mg x = some (.ref f) ∧ PySem.W.keepIn K (.ref f) = true ∧ BindsS fd ps ∧ ps.length = n ∧ FnOk P w K mg base CX0 k f fd ps (spM K n φ)
theorem fnOk_of {P:Program} {w:World} {K:PySem.W.Frag} {mg:Str → Option Value} {base:Heap} {x:Str} {st:Stmt} {N ps:List Str} {k j n:Nat} {b:MSt} {f:Addr} {fd:FuncData} (F:Fun K x x st f fd) (S:FnScope N ps (defScope st)) (hj:N.length - ps.length = j) (hn:ps.length = n)
    (hb:∀ (cdv:Value) (A:Around) (outer:List Env) (s:Shared) (H:Hp) (E:XK),Room k (A.deeper (envOfC x (defScope st) s.heap.objs.size f cdv)) →
      MSs (cxOf CX0 P w K mg base N x (defScope st) f cdv A outer s H E).nox NoX (defBody st) b):FnOk P w K mg base CX0 (k + 1) f fd ps (spM K n (fnOf j b)):=by
  subst hn
  exact fn_ok F S hj hb
theorem fnAt_of {P:Program} {w:World} {K:PySem.W.Frag} {mg:Str → Option Value} {base:Heap} {x:Str} {st:Stmt} {ps:List Str} {k n:Nat} {φ:Fn} (D:DefAt K mg x st ps) (hn:ps.length = n)
    (hb:∀ (f:Addr) (fd:FuncData),Fun K x x st f fd → FnOk P w K mg base CX0 k f fd ps (spM K n φ)):FnAt P w K mg base x k n φ:=by
  obtain ⟨f,fd,h1,h2,h3⟩:=D
  exact ⟨f,fd,ps,h1,h2.kp,h3,hn,hb f fd h2⟩
theorem def_mk {K:PySem.W.Frag} {mg:Str → Option Value} {h:Heap} {x:Str} {st:Stmt} {ps:List Str} {f:Addr} {oc:Value} {od an:Option Addr} {osl:Array (Option Value)} {kV doc pm cdv ct:Value} (X:K.In h) (G:h.Ns mainGlobals mg)
    (a:PySem.W.nsIn K mainGlobals x = some (some (.ref f))) (l:K.lookup f = some ⟨oc,od,.func (PySem.W.fnOf x x (defArgs st) (defBody st) (defScope st) .none kV doc pm an cdv ct),osl⟩)
    (c:PySem.W.codeIn K cdv x = true) (k:PySem.W.keepIn K (.ref f) = true) (hb:BindsS (PySem.W.fnOf x x (defArgs st) (defBody st) (defScope st) .none kV doc pm an cdv ct) ps):DefAt K mg x st ps :=
  ⟨f,_,PySem.W.mg_of X G a,fun_mk (st:=st) l c k,hb⟩
theorem const_int {K:PySem.W.Frag} {mg:Str → Option Value} {h:Heap} {x:Str} {i:Int} {t:Tok} (X:K.In h) (G:h.Ns mainGlobals mg) (a:PySem.W.nsIn K mainGlobals x = some (some (.int i t))):ConstAt K mg x (.int i) :=
  ⟨.int i,_,PySem.W.mg_of X G a,⟨t,rfl⟩,fun _ _ => rep_int i⟩
theorem const_tup {K:PySem.W.Frag} {mg:Str → Option Value} {h:Heap} {x:Str} {p:Addr} {od:Option Addr} {its:Array Value} {n:Nat} {sl:Array (Option Value)} {ds:List D} {vs:List V} (X:K.In h) (G:h.Ns mainGlobals mg)
    (a:PySem.W.nsIn K mainGlobals x = some (some (.ref p))) (l:K.lookup p = some ⟨.type "tuple",od,.seq its n,sl⟩) (hz:its.size ≤ 16777216) (hv:Vals vs its.toList) (hr:∀ F α,Reps K F α ds vs):ConstAt K mg x (.tup ds) :=
  ⟨.ref p,_,PySem.W.mg_of X G a,rfl,fun F α => by unfold Rep; exact ⟨p,vs,rfl,.inr ⟨_,its,n,l,rfl,rfl,by rw [sizeLine_eq]; exact hz,hv⟩,hr F α⟩⟩
theorem reps_ints {K:PySem.W.Frag} {F:Hp} {α:List Addr}:∀ ns:List Int,Reps K F α (ns.map D.int) (ns.map V.int)
  | [] => reps_nil
  | n :: ns => reps_cons (rep_int n) (reps_ints ns)
theorem me_fn {X:Cx} {EX:EXT} {x:Str} {p pos:Pos} {k n:Nat} {φ:Fn} {e:Expr} {es:List Expr} {ms:MAs} (F:FnAt X.prog X.w X.K X.mg X.base x k n φ) (hr:Room k X.A) (hg:Gl X x)
    (ha:MA X EX (e :: es) ms) (hl:(e :: es).length = n) (hdb:(x == ("__debug__":Str)) = false:=by decide) (he:starEach (e :: es) X.env = (false,eval e X.env) :: starEach es X.env:=by rfl) (hpl:(backTo pos (starEach es X.env)).any (·.1) = false:=by rfl) :
    ME X EX (.Call (.Name x p) (e :: es) [] pos) (mCall φ ms):=by
  obtain ⟨f,fd,ps,h1,h2,h3,h4,h5⟩:=F
  subst h4
  exact me_call h5 hr hg h1 h2 (.all h3) ha hl hdb he hpl
noncomputable def locB (sc:Scope) (N:List Str):Bool:=N.all fun x => (sc.names.lookup x == some .local || sc.names.lookup x == some .cell) && !(x == ("__debug__":Str)) && !(x == ("__classdict__":Str))
noncomputable def glB (sc:Scope) (N:List Str):Bool:=N.all fun x => sc.names.lookup x == some .globalImplicit
theorem loc_of {sc:Scope} {N:List Str} (h:locB sc N = true):∀ x ∈ N,Loc sc x ∧ (x == ("__debug__":Str)) = false ∧ (x == ("__classdict__":Str)) = false:=fun x hx => by
  have:=List.all_eq_true.mp h x hx
  simp only [Bool.and_eq_true,Bool.or_eq_true,beq_iff_eq,Bool.not_eq_true'] at this
  exact ⟨this.1.1,this.1.2,this.2⟩
theorem gl_of {sc:Scope} {N:List Str} (h:glB sc N = true):∀ x ∈ N,sc.names.lookup x = some .globalImplicit:=fun x hx => by
  have:=List.all_eq_true.mp h x hx
  simpa using this
end M
set_option Elab.async false
set_option linter.all false
set_option maxRecDepth 100000
set_option maxHeartbeats 4000000
namespace M
open PySem PySem.Spec PyProof.Rows L2
section
variable (ρ:En) (μ:Mu) (m ma mb mc:MX) (ms:MAs) (t t1 t2:MB) (n n1 n2:MSt) (x y d:D) (ds:List D) (g g':G2) (gl:GL) (b:Bool) (φ:Fn) (i:Nat) (tg:MG) (it:MIt)
noncomputable def kBin2 (g:G2) (x y:D) (μ:Mu):Res D:=ofO μ (g (deref μ x) (deref μ y))
noncomputable def kCh1 (g g':G2) (mb mc:MX) (ρ:En) (x:D) (μ1:Mu):Res D:=(mb ρ μ1).bind fun y μ2 => (ofO μ2 ((g (deref μ2 x) (deref μ2 y)).bind asB)).bind fun k μ3 => match k with
  | true => (mc ρ μ3).bind fun z μ4 => ofO μ4 (g' (deref μ4 y) (deref μ4 z))
  | false => .ok (.bl false) μ3
noncomputable def kCh2 (g g':G2) (mc:MX) (ρ:En) (x y:D) (μ2:Mu):Res D:=(ofO μ2 ((g (deref μ2 x) (deref μ2 y)).bind asB)).bind fun k μ3 => match k with
  | true => (mc ρ μ3).bind fun z μ4 => ofO μ4 (g' (deref μ4 y) (deref μ4 z))
  | false => .ok (.bl false) μ3
noncomputable def kCh3 (g':G2) (mc:MX) (ρ:En) (y:D) (k:Bool) (μ3:Mu):Res D:=match k with
  | true => (mc ρ μ3).bind fun z μ4 => ofO μ4 (g' (deref μ4 y) (deref μ4 z))
  | false => .ok (.bl false) μ3
theorem e_ch:mChain g g' ma mb mc ρ μ = (ma ρ μ).bind (kCh1 g g' mb mc ρ):=rfl
theorem e_ch1:kCh1 g g' mb mc ρ x μ = (mb ρ μ).bind (kCh2 g g' mc ρ x):=rfl
theorem e_ch2:kCh2 g g' mc ρ x y μ = (ofO μ ((g (deref μ x) (deref μ y)).bind asB)).bind (kCh3 g' mc ρ y):=rfl
theorem e_ch3t:kCh3 g' mc ρ y true μ = (mc ρ μ).bind (kBin2 g' y):=rfl
noncomputable def kIsN (d:D) (μ:Mu):Res D:=.ok (.bl (isN d)) μ
theorem e_isN:mIsN m ρ μ = (m ρ μ).bind kIsN:=rfl
noncomputable def kCons1 (ms:MAs) (ρ:En) (d:D) (μ1:Mu):Res (List D):=(ms ρ μ1).bind fun ds μ2 => .ok (d :: ds) μ2
noncomputable def kCons2 (d:D) (ds:List D) (μ2:Mu):Res (List D):=.ok (d :: ds) μ2
theorem e_cons:mCons m ms ρ μ = (m ρ μ).bind (kCons1 ms ρ):=rfl
theorem e_cons1:kCons1 ms ρ d μ = (ms ρ μ).bind (kCons2 d):=rfl
theorem e_cons2:kCons2 d ds μ = .ok (d :: ds) μ:=rfl
noncomputable def kRange1 (d:D) (μ1:Mu):Res (List D):=ofO μ1 (asRange [d])
theorem e_range1:mRange1 m ρ μ = (m ρ μ).bind kRange1:=rfl
theorem e_kRange1:kRange1 d μ = ofO μ (asRange [d]):=rfl
noncomputable def kFin (o:Out) (μ1:Mu):Res D:=match o with
  | .rt d => .ok d μ1
  | .nx _ => .ok .non μ1
  | _ => .bad
theorem e_fin (r:Res Out):fin r = r.bind kFin:=by cases r with
  | ok o μ => cases o <;> rfl
  | exc _ _ => rfl
  | bad => rfl
theorem e_fnOf (k:Nat):fnOf k n ds μ = (n (ds.map some ++ List.replicate k none) μ).bind kFin:=e_fin _
end
section
variable (i j:Int) (a b:List Nat) (xs ys:List D) (k l:Bool)
theorem g_mulL (h:-18446744073709551616 < i) (h2:i < 18446744073709551616):gMul (.int i) (.int j) = some (.int (i * j)):=by
  simp only [gMul,gInt]; rw [if_pos (.inl ⟨h,h2⟩)]; rfl
theorem g_mulR (h:-18446744073709551616 < j) (h2:j < 18446744073709551616):gMul (.int i) (.int j) = some (.int (i * j)):=by
  simp only [gMul,gInt]; rw [if_pos (.inr ⟨h,h2⟩)]; rfl
theorem g_div (h:0 < j) (h2:j < 18446744073709551616):gDiv (.int i) (.int j) = some (.int (i / j)):=by
  simp only [gDiv,gInt]; rw [if_pos ⟨h,h2⟩]; rfl
theorem g_mod (h:0 < j):gMod (.int i) (.int j) = some (.int (i % j)):=by
  simp only [gMod,gInt]; rw [if_pos h]; rfl
theorem g_le:gLe (.int i) (.int j) = some (.bl (decide (i ≤ j))):=rfl
theorem g_max:gMax [.int i,.int j] = some (.int (if j > i then j else i)):=rfl
theorem atI_pos {β:Type} {xs:List β} {i:Int} (h0:0 ≤ i):atI xs i = xs[i.toNat]?:=by
  unfold atI ixN
  rw [if_pos h0]
  by_cases h:i < xs.length
  · rw [if_pos h]; rfl
  · rw [if_neg h]
    simp only [Option.bind_none]
    symm
    rw [List.getElem?_eq_none_iff]
    omega
end
end M
set_option Elab.async false
set_option linter.all false
set_option maxRecDepth 100000
set_option maxHeartbeats 4000000
namespace M
open PySem PySem.Spec PyProof.Rows L2
noncomputable def closL (env:Env):List (Str × NameKind) → List (Str × Addr) → List (Str × Addr)
  | [],acc => acc
  | p :: r,acc => closL env r (if (p.2 == .free) = true then (p.1,(env.cells.lookup p.1).getD 0) :: acc else acc)
theorem closure_eq {env:Env} {scope:Scope} (h:∀ p ∈ scope.names,p.2 = .free → ∃ c,env.cells.lookup p.1 = some c):closureFor scope env = pure (closL env scope.names []):=by
  simp only [closureFor]
  generalize ([]:List (Str × Addr)) = acc
  generalize scope.names = l at h
  induction l generalizing acc with
  | nil => rfl
  | cons p r ih =>
    obtain ⟨n,k⟩:=p
    rw [List.forIn_cons]
    by_cases hk:(k == NameKind.free) = true
    · obtain ⟨c,hc⟩:=h (n,k) List.mem_cons_self (by simpa using hk)
      have hc':cellOf env n = pure c:=by unfold cellOf; rw [hc]
      simp only [hk,if_true,hc',pure_bind,closL]
      rw [hc]
      exact ih _ (fun p hp => h p (List.mem_cons_of_mem _ hp))
    · simp only [hk,if_false,pure_bind,closL]
      exact ih _ (fun p hp => h p (List.mem_cons_of_mem _ hp))
theorem closL_mem {env:Env}:∀ (l:List (Str × NameKind)) (acc:List (Str × Addr)),(∀ p ∈ l,p.2 = .free → ∃ c,env.cells.lookup p.1 = some c) → (∀ p ∈ acc,env.cells.lookup p.1 = some p.2) → ∀ p ∈ closL env l acc,env.cells.lookup p.1 = some p.2
  | [],_,_,ha => ha
  | q :: r,acc,h,ha => by
    refine closL_mem r _ (fun p hp => h p (List.mem_cons_of_mem _ hp)) ?_
    by_cases hk:(q.2 == NameKind.free) = true
    · rw [if_pos hk]
      intro p hp
      rcases List.mem_cons.mp hp with rfl | hp
      · obtain ⟨c,hc⟩:=h q List.mem_cons_self (by simpa using hk)
        simp [hc]
      · exact ha p hp
    · rw [if_neg hk]; exact ha
theorem lookup_mem {β:Type} {l:List (Str × β)} {x:Str} {c:β} (h:l.lookup x = some c):(x,c) ∈ l:=by
  induction l with
  | nil => cases h
  | cons p r ih =>
    obtain ⟨n,k⟩:=p
    rw [List.lookup_cons] at h
    by_cases e:x = n
    · subst e
      simp at h
      subst h
      exact List.mem_cons_self
    · have e':(x == n) = false:=by simpa using e
      rw [e'] at h
      exact List.mem_cons_of_mem _ (ih h)
theorem mem_lookup {β:Type} {l:List (Str × β)} {x:Str} {c:β} (h:(x,c) ∈ l):∃ c',l.lookup x = some c':=by
  induction l with
  | nil => cases h
  | cons p r ih =>
    obtain ⟨n,k⟩:=p
    rw [List.lookup_cons]
    by_cases e:x = n
    · subst e; exact ⟨k,by simp⟩
    · rcases List.mem_cons.mp h with h | h
      · cases h; exact absurd rfl e
      · obtain ⟨c',hc⟩:=ih h
        have e':(x == n) = false:=by simpa using e
        exact ⟨c',by rw [e']; exact hc⟩
theorem closL_acc {env:Env}:∀ (l:List (Str × NameKind)) (acc:List (Str × Addr)) (p:Str × Addr),p ∈ acc → p ∈ closL env l acc
  | [],_,_,h => h
  | q :: r,acc,p,h => by
    refine closL_acc r _ p ?_
    split
    · exact List.mem_cons_of_mem _ h
    · exact h
theorem closL_has {env:Env}:∀ (l:List (Str × NameKind)) (acc:List (Str × Addr)) (x:Str),(x,NameKind.free) ∈ l → ∃ c,(closL env l acc).lookup x = some c
  | [],_,_,h => nomatch h
  | q :: r,acc,x,h => by
    rcases List.mem_cons.mp h with rfl | h
    · exact mem_lookup (closL_acc r _ (x,(env.cells.lookup x).getD 0) (by simp))
    · exact closL_has r _ x h
structure CompScope (scope:Scope) (env:Env):Prop where
  kind:scope.kind = .function
  nocell:∀ y ∈ scope.names,y.2 ≠ .cell
  loc:∀ y ∈ scope.names,y.2 = .local → scope.names.lookup y.1 = some .local
  cap:∀ y ∈ scope.names,y.2 = .free → env.kindOf y.1 = some .cell ∨ env.kindOf y.1 = some .free
noncomputable abbrev cellsC (scope:Scope) (env:Env):List (Str × Addr):=closL env scope.names []
theorem relabel_kind {scope:Scope} {env:Env} {x:Str} (hn:∀ y ∈ scope.names,y.2 ≠ .cell) (h:(relabel scope env).names.lookup x = some .cell ∨ (relabel scope env).names.lookup x = some .free):(x,NameKind.free) ∈ scope.names:=by
  have:∃ k,(x,k) ∈ (relabel scope env).names ∧ (k = .cell ∨ k = .free):=by
    rcases h with h | h
    · exact ⟨_,lookup_mem h,.inl rfl⟩
    · exact ⟨_,lookup_mem h,.inr rfl⟩
  obtain ⟨k,hm,hk⟩:=this
  unfold relabel at hm
  obtain ⟨⟨n,k'⟩,hq,e⟩:=List.mem_map.mp hm
  simp only at e
  split at e
  · rename_i hc
    simp only [Bool.and_eq_true,beq_iff_eq] at hc
    cases e
    rw [hc.1.1] at hq
    exact hq
  · cases e
    rcases hk with rfl | rfl
    · exact absurd rfl (hn _ hq)
    · exact hq
noncomputable abbrev NoE:Value → Shared → Prop:=fun _ _ => False
theorem compLoop_own {prog:Program} {w:World} {A:Around} {R:Result → Shared → Prop} {s:Shared} {elt target iter:Expr} {ifs:List Expr} {scope:Scope} {pos:Pos} {it acc:Value} {env:Env} (I:Nat → Shared → Prop)
    (turn:∀ n s,I n s → wpAny (model prog w) A (pyNext it) (fun r s₁ => match r with
      | none => R (.ok .next) s₁
      | some v => wpAny (model prog w) A (letOwnedTupleGo target it v) (fun _ s₁' => wpAny (model prog w) A (assign target env v) (fun _ s₂ =>
          wpAny (model prog w) A (forIn ifs true fun c r => if r = true then do let ok ← isTrue c env (eval c env); pure (ForInStep.yield ok) else pure (ForInStep.yield r)) (fun ok s₃ =>
            if ok = true then wpAny (model prog w) A (eval elt env) (fun x s₄ =>
              wpAny (model prog w) A (call (.builtin "list.append") [acc,x]) (fun _ s₅ => ∃ m,m < n ∧ I m s₅) NoE s₄) NoE s₃
            else ∃ m,m < n ∧ I m s₃) NoE s₂) NoE s₁') NoE s₁) NoE s)
    (n:Nat) (h:I n s):codeAny (model prog w) A (.compLoop (.ListComp elt [⟨target,iter,ifs,0⟩] scope pos) 0 it acc env) R s:=by
  refine codeAny_loop rfl I (fun n s hI => ?_) n h
  show wpAny _ A ((compTurn (.ListComp elt [⟨target,iter,ifs,0⟩] scope pos) 0 it acc env).onRaise (fun x => do noteFrame x env; theTreesLotGoes x)) _ _ s
  refine wpAny_noted ?_
  rw [compTurn_list]
  refine wpAny_bind (wpAny_standAt (wpAny_bind (wpAny_mono (turn n s hI) (fun r s₁ h₁ => ?_) fun _ _ h' => h'.elim)))
  cases r with
  | none => exact wpAny_pure h₁
  | some v =>
    refine wpAny_bind (wpAny_mono h₁ (fun _ s₁' h₁' => ?_) fun _ _ h' => h'.elim)
    refine wpAny_bind (wpAny_mono h₁' (fun _ s₂ h₂ => wpAny_bind (wpAny_mono h₂ (fun ok s₃ h₃ => ?_) fun _ _ h' => h'.elim)) fun _ _ h' => h'.elim)
    cases ok with
    | false => exact wpAny_pure ⟨rfl,h₃⟩
    | true =>
      exact wpAny_bind (wpAny_bind (wpAny_mono h₃ (fun x s₄ h₄ => wpAny_bind (wpAny_mono h₄ (fun _ s₅ h₅ => wpAny_pure (wpAny_pure ⟨rfl,h₅⟩)) fun _ _ h' => h'.elim)) fun _ _ h' => h'.elim))
noncomputable def compCx (X:Cx) (N':List Str) (scope:Scope) (C:Addr) (s:Shared) (H:Hp) (ex:List Addr):Cx :=
  { X with N:=N',s₀:=s,H₀:=H,env:=compEnvC scope (cellsC scope X.env) C X.env,outer:=X.stack,ex:=ex,fn:=fun _ => false,pn:=[],xe:=NoE,kn:=none }
section
variable {X:Cx} {EX:EXT} {pins:List (Addr × Obj)} {σ:L2.St} {H:Hp} {s:Shared} {scope:Scope} {C:Addr} {ex:List Addr} {N':List Str}
theorem CompScope.had (cs:CompScope scope X.env) (ok:X.Ok):∀ p ∈ scope.names,p.2 = .free → ∃ c,X.env.cells.lookup p.1 = some c:=fun p hp hk => ok.has p.1 (cs.cap p hp hk)
theorem cellsC_at (cs:CompScope scope X.env) (ok:X.Ok) {x:Str} {c:Addr} (h:(cellsC scope X.env).lookup x = some c):X.env.cells.lookup x = some c :=
  closL_mem scope.names [] (cs.had ok) (fun _ z => nomatch z) (x,c) (lookup_mem h)
theorem compCx_ok (I:Inv X pins σ H s) (cs:CompScope scope X.env) (hC:s.heap.objs.size ≤ C) (hex:∀ b ∈ ex,FpOk X pins H b ∧ ∃ o,s.heap.get? b = some o):(compCx X N' scope C s H ex).Ok:=by
  refine ⟨I.ok.mod,cs.kind,I.ok.glob,I.ok.blt,hC,fun x y c h1 h2 => I.ok.inj x y c (cellsC_at cs I.ok h1) (cellsC_at cs I.ok h2),fun x h => ?_,fun x c h => (by cases h),I.ok.hd,I.ok.frames,.inl rfl,fun b hb => ⟨?_,fun x c h => ?_⟩,I.bs,Nat.le_trans I.ok.bsz I.sz,fun b o e hb => ?_,fun b hb hf => ?_,I.stack,I.stkFree⟩
  · exact closL_has scope.names [] x (relabel_kind cs.nocell h)
  · obtain ⟨o,e⟩:=(hex b hb).2
    exact Nat.ne_of_lt (Nat.lt_of_lt_of_le (Heap.lt_size e) hC)
  · exact (hex b hb).1.2.2.2.2.1 x c (cellsC_at cs I.ok h)
  · rcases (hex b hb).1.2.2.2.1 with z | z
    · exact I.ok.noex b o e z
    · exact absurd (Nat.lt_of_lt_of_le (Heap.lt_size e) (Nat.le_trans I.ok.bsz z)) (Nat.lt_irrefl _)
  · rcases List.mem_cons.mp (I.stkSub b hf) with z | z
    · exact (hex b hb).1.2.1 z
    · exact (hex b hb).1.2.2.1 z
theorem relabel_free {env:Env} {scope:Scope} {x:Str} (h:scope.names.lookup x = some .free):(relabel scope env).names.lookup x = some .cell ∨ (relabel scope env).names.lookup x = some .free:=by
  unfold relabel
  generalize scope.names = l at h
  simp only
  induction l with
  | nil => cases h
  | cons p r ih =>
    obtain ⟨n,k⟩:=p
    rw [List.lookup_cons] at h
    simp only [List.map_cons]
    by_cases e:(x == n) = true
    · rw [e] at h
      cases h
      split
      · left; rw [List.lookup_cons,e]
      · right; rw [List.lookup_cons,e]
    · have e':(x == n) = false:=by simpa using e
      rw [e'] at h
      have:=ih h
      split
      · rw [List.lookup_cons,e']; exact this
      · rw [List.lookup_cons,e']; exact this
structure Caps (X:Cx) (scope:Scope) (T caps:List Str) (ix:List Nat):Prop where
  len:ix.length = caps.length
  at':∀ (j:Nat) (x:Str) (i:Nat),caps[j]? = some x → ix[j]? = some i → X.N[i]? = some x ∧ scope.names.lookup x = some .free
noncomputable def blk {β:Type} (k:Nat) (ix:List Nat) (σ:List (Option β)):List (Option β):=List.replicate k none ++ ix.map fun i => (σ[i]?).getD none
theorem comp_start {T caps:List Str} {ix:List Nat} (I:Inv X pins σ H s) (cs:CompScope scope X.env) (cp:Caps X scope T caps ix) {h':Heap} {tk:Nat} (hC:C = s.heap.objs.size) (hex:∀ b ∈ ex,FpOk X pins H b ∧ ∃ o,s.heap.get? b = some o)
    (hn:h'.Ns C fun _ => none) (hk:∀ b o,s.heap.get? b = some o → h'.get? b = some o) :
    Inv (compCx X (T ++ caps) scope C s H ex) [] (blk T.length ix σ) H { s with heap:=h',toks:=tk }:=by
  have ok:=compCx_ok (N':=T ++ caps) (C:=C) I cs (by rw [hC]; exact Nat.le_refl _) hex
  refine ⟨ok,rfl,I.bare,Un.kept hk,⟨_,hn,fun i x v e1 e2 e3 => ?_⟩,fun x c e => ?_,?_,fun x c e => I.freeC x c (cellsC_at cs I.ok e),fun p hp => (by simp [compCx] at hp),I.hok.kept hk,by simp [blk,compCx,cp.len],fun f e => by cases (show (none:Option (Str → Option Value)) = some f from e)⟩
  · have e1:(T ++ caps)[i]? = some x:=e1
    unfold blk at e2
    by_cases hi:i < T.length
    · rw [List.getElem?_append_left (by simpa using hi),List.getElem?_replicate] at e2
      split at e2 <;> cases e2
    · rw [List.getElem?_append_right (by simp; omega)] at e2
      rw [List.getElem?_append_right (by omega)] at e1
      simp only [List.length_replicate,List.getElem?_map] at e2
      cases q:ix[i - T.length]? with
      | none => rw [q] at e2; cases e2
      | some j =>
        rw [q] at e2
        obtain ⟨hN,hl⟩:=cp.at' _ x j e1 q
        have e2:(σ[j]?).getD none = some v:=by simpa using e2
        have hσ:σ[j]? = some (some v):=by
          cases z:σ[j]? with
          | none => rw [z] at e2; cases e2
          | some o => rw [z] at e2; simp at e2; rw [e2]
        have hm:(x,NameKind.free) ∈ scope.names:=lookup_mem hl
        have hkind:=cs.cap (x,.free) hm rfl
        obtain ⟨m,hns,hloc⟩:=I.loc
        obtain ⟨u,ru,look⟩:=hloc j x v hN hσ (hkind.elim (fun z => .inr (.inl z)) fun z => .inr (.inr z))
        refine ⟨u,ru,.inr ⟨relabel_free hl,?_⟩⟩
        rcases look with ⟨z,_⟩ | ⟨_,c,hc,hcell⟩
        · rcases hkind with y | y
          · rw [z] at y; cases y
          · rw [z] at y; cases y
        · obtain ⟨c',hc'⟩:=closL_has (env:=X.env) scope.names [] x hm
          have:=cellsC_at cs I.ok hc'
          rw [hc] at this
          cases this
          obtain ⟨o,ho,hd⟩:=hcell
          exact ⟨c,hc',o,hk _ _ ho,hd⟩
  · obtain ⟨v,o,ho,hd⟩:=I.cell x c (cellsC_at cs I.ok e)
    exact ⟨v,o,hk _ _ ho,hd⟩
  · show H C = none
    rw [hC]
    exact I.fresh
theorem comp_back {T caps:List Str} {σ':L2.St} {H1 H':Hp} {s2 s3 s':Shared} {D:Addr} {o:HO} (I2:Inv X pins σ H1 s2) (hD:s2.heap.objs.size ≤ D) (h3:s3.os = s2.os) (hk:∀ b u,s2.heap.get? b = some u → s3.heap.get? b = some u)
    (hex:∀ b ∈ ex,FpOk X pins H1 b) (I':Inv (compCx X (T ++ caps) scope C s3 (upd H1 D o) ex) [] σ' H' s'):Inv X pins σ H' s':=by
  have hos:s'.os = s2.os:=I'.os.trans h3
  have u0:Un (frs X.stack) ex H1 (upd H1 D o) s2.heap s3.heap:=Un.laid hk hD (I2.hok.fresh hD)
  have u:Un (frs X.stack) ex H1 H' s2.heap s'.heap:=u0.trans I'.base
  exact I2.call' hos u I'.hok I'.bare fun b hb => ⟨(hex b hb).2.2.2.1,(hex b hb).2.1,(hex b hb).2.2.2.2.1,(hex b hb).2.2.2.2.2⟩
end
end M
set_option Elab.async false
set_option linter.all false
set_option maxRecDepth 100000
set_option maxHeartbeats 4000000
namespace M
open PySem PySem.Spec PyProof.Rows L2
noncomputable def compGo (tg:MG) (t:MB) (m:MX):List D → En → Mu → List D → Res (List D)
  | [],_,μ,acc => .ok acc μ
  | d :: ds,ρ,μ,acc => match tg d ρ with
    | none => .bad
    | some ρ1 => (noX (t ρ1 μ)).bind fun k μ1 => if k = true then (noX (m ρ1 μ1)).bind fun x μ2 => compGo tg t m ds ρ1 μ2 (acc ++ [x]) else compGo tg t m ds ρ1 μ1 acc
noncomputable def mComp (k:Nat) (ix:List Nat) (tg:MG) (it:MIt) (t:MB) (m:MX):MX:=fun ρ μ => (it ρ μ).bind fun ds μ1 => if ds.length ≤ 16777216 then (compGo tg t m ds (blk k ix ρ) μ1 []).bind fun xs μ2 => .ok (.lst xs) μ2 else .bad
noncomputable def mTT:MB:=fun _ μ => .ok true μ
noncomputable def MIfs (X:Cx) (ifs:List Expr) (t:MB):Prop:=∀ pins s Z α F H σ ρ μ Q,Inv X pins σ H s → RS X.K Z α F H σ ρ μ → GB X.K NoX Z α F Q (t ρ μ) →
  wpAny (model X.prog X.w) X.A (forIn ifs true fun c r => if r = true then do let ok ← isTrue c X.env (eval c X.env); pure (ForInStep.yield ok) else pure (ForInStep.yield r)) (TP X pins σ Q) X.xe s
theorem mifs_nil {X:Cx}:MIfs X [] mTT:=fun pins s Z α F H σ ρ μ Q I R g => wpAny_tests_nil ⟨H,I,g α F H R.hp (Ext.refl _ _)⟩
theorem rs_blk {K:PySem.W.Frag} {Z:ZS} {F H:Hp} {α:List Addr} {σ:L2.St} {ρ:En} {μ:Mu} (k:Nat) (ix:List Nat) (R:RS K Z α F H σ ρ μ):RS K Z α F H (blk k ix σ) (blk k ix ρ) μ:=by
  refine ⟨R.hp,by simp [blk],fun i d h => ?_⟩
  unfold blk at h ⊢
  by_cases hi:i < k
  · rw [List.getElem?_append_left (by simpa using hi),List.getElem?_replicate] at h
    split at h <;> cases h
  · rw [List.getElem?_append_right (by simp; omega)] at h ⊢
    simp only [List.length_replicate,List.getElem?_map] at h ⊢
    cases q:ix[i - k]? with
    | none => rw [q] at h; cases h
    | some j =>
      rw [q] at h
      have e2:(ρ[j]?).getD none = some d:=by simpa using h
      have hρ:ρ[j]? = some (some d):=by
        cases z:ρ[j]? with
        | none => rw [z] at e2; cases e2
        | some o => rw [z] at e2; simp at e2; rw [e2]
      obtain ⟨v,h1,h2⟩:=R.sl j d hρ
      exact ⟨v,by simp [h1],h2⟩
theorem RH.rehold {K:PySem.W.Frag} {Z:ZS} {F H:Hp} {α:List Addr} {μ:Mu} {p:Addr} {o:HO} (o':HO) (r:RH K (ZS.up Z p o) α F H μ):RH K (ZS.up Z p o') α F (upd H p o') μ:=by
  have fp:F p = none:=r.zf p o up_same
  have nc:∀ (k:Nat) (a:Addr) (c:Cell),α[k]? = some a → μ[k]? = some c → c ≠ .dead → a ≠ p:=fun k a c ha hc hd z => by
    have:=r.zc k a c ha hc hd
    rw [z,up_same] at this
    cases this
  refine ⟨fun b u e => ?_,r.len,fun k a c ha hc => ?_,fun b u e => ?_,fun b u e => ?_,fun k a c ha hc hd => ?_,r.dis,r.ext⟩
  · rw [upd_ne (ne_of_none e fp)]; exact r.sub b u e
  · exact (r.cell k a c ha hc).go (Ext.refl _ _) (fun _ => rfl) fun hd => upd_ne (nc k a c ha hc hd)
  · by_cases hb:b = p
    · subst hb; rw [up_same] at e; rw [upd_same]; exact e
    · rw [up_ne hb] at e; rw [upd_ne hb]; exact r.zs b u (by rw [up_ne hb]; exact e)
  · by_cases hb:b = p
    · subst hb; exact fp
    · rw [up_ne hb] at e; exact r.zf b u (by rw [up_ne hb]; exact e)
  · have:=r.zc k a c ha hc hd
    rw [up_ne (nc k a c ha hc hd)] at this ⊢
    exact this
theorem upd_id {H:Hp} {p:Addr} {o:HO} (h:H p = some o):upd H p o = H:=by
  funext b
  unfold upd
  split
  · rename_i e; rw [e,h]
  · rfl
section
variable {X:Cx} {EX:EXT} {elt tg iter:Expr} {ifs:List Expr} {scope:Scope} {pos:Pos} {T caps:List Str} {ix:List Nat} {g:MG} {t:MB} {m:MX}
noncomputable def WalkZ (K:PySem.W.Frag) (z:Hp) (α:List Addr) (F:Hp) (J:It) (ds:List D):Prop :=
  ∀ (Z:ZS) α' F' H' (μ':Mu),Same z Z.z → RH K Z α' F' H' μ' → Ext α F α' F' → ∀ i,(i < ds.length → J.go i H' ∧ ∀ x H2,J.yld i H' x H2 → ∃ d F2,ds[i]? = some d ∧ RH K Z α' F2 H2 μ' ∧ Same F' F2 ∧ Rep K F2 α' d x) ∧ (ds.length = i → J.stop i H')
theorem WalkOk.z {K:PySem.W.Frag} {z:Hp} {α:List Addr} {F:Hp} {J:It} {ds:List D} (h:WalkOk K α F J ds):WalkZ K z α F J ds:=fun Z α' F' H' μ' _ => h Z α' F' H' μ'
noncomputable def Blk (X:Cx) (scope:Scope) (N':List Str) (tg:Expr) (ifs:List Expr) (elt:Expr) (g:MG) (t:MB) (m:MX):Prop :=
  ∀ C s H ex,MTg (compCx X N' scope C s H ex) tg g ∧ MIfs (compCx X N' scope C s H ex) ifs t ∧ ME (compCx X N' scope C s H ex) NoX elt m
theorem RH.drop {K:PySem.W.Frag} {Z:ZS} {F H:Hp} {α:List Addr} {μ:Mu} {p:Addr} {o:HO} (r:RH K (ZS.up Z p o) α F H μ) (hz:Z.z p = none):RH K Z α F H μ:=by
  refine ⟨r.sub,r.len,r.cell,fun b u e => ?_,fun b u e => ?_,fun k a c ha hc hd => ?_,r.dis,r.ext⟩
  · exact r.zs b u (by rw [up_ne (ne_of_none e hz)]; exact e)
  · exact r.zf b u (by rw [up_ne (ne_of_none e hz)]; exact e)
  · have:=r.zc k a c ha hc hd
    by_cases ha':a = p
    · rw [ha']; exact hz
    · rw [up_ne ha'] at this; exact this
inductive CSt (Y:Cx) (Z:ZS) (D':Addr) (fp:List Addr) (tn:Nat → Heap → Prop) (α:List Addr) (F:Hp) (g:MG) (t:MB) (m:MX) (ds:List D) (G:Res (List D) → Prop):Nat → Shared → Prop
  | mk {i:Nat} {σ':L2.St} {H':Hp} {α':List Addr} {F':Hp} {ρ':En} {μ':Mu} {xs:List D} {vs:List V} {s':Shared}:i ≤ ds.length → xs.length ≤ i → Inv Y [] σ' H' s' → tn i s'.heap → (∀ b ∈ fp,H' b = none) → RS Y.K (ZS.up Z D' (.lst vs)) α' F' H' σ' ρ' μ' → Ext α F α' F' → Reps Y.K F' α' xs vs → G (compGo g t m (ds.drop i) ρ' μ' xs) → CSt Y Z D' fp tn α F g t m ds G (ds.length + 1 - i) s'
theorem comp_loop {Y:Cx} {Rr:Result → Shared → Prop} {s:Shared} {σ:L2.St} {Z:ZS} {H F:Hp} {α:List Addr} {ρ:En} {μ:Mu} {ds:List D} {J:It} {fp:List Addr} {it D':Addr} {tn:Nat → Heap → Prop} {G:Res (List D) → Prop} (hxe:Y.xe = NoE) (hcalm:Y.calm = true)
    (hgt:MTg Y tg g) (hif:MIfs Y ifs t) (he:ME Y NoX elt m) (Tn:Turn Y.prog Y.w Y.K tg J fp it tn) (stat:∀ H',(∀ b ∈ fp,H' b = none) → ∀ b ∈ fp,FpOk Y [] H' b) (I:Inv Y [] σ H s) (ht0:tn 0 s.heap) (hf0:∀ b ∈ fp,H b = none)
    (R:RS Y.K (ZS.up Z D' (.lst [])) α F H σ ρ μ) (hZ0:Z.z D' = none) (wk:WalkZ Y.K Z.z α F J ds) (hds:ds.length ≤ 16777216) (hG:G (compGo g t m ds ρ μ [])) (hbad:¬ G .bad)
    (hR:∀ (σ':L2.St) (H':Hp) (s':Shared) (α':List Addr) (F':Hp) (xs:List D) (vs:List V) (μ':Mu),Inv Y [] σ' H' s' → RH Y.K (ZS.up Z D' (.lst vs)) α' F' H' μ' → Ext α F α' F' → Reps Y.K F' α' xs vs → G (.ok xs μ') → Rr (.ok .next) s') :
    codeAny (model Y.prog Y.w) Y.A (.compLoop (.ListComp elt [⟨tg,iter,ifs,0⟩] scope pos) 0 (.ref it) (.ref D') Y.env) Rr s:=by
  obtain ⟨tgt,pg,sg⟩:=hgt
  obtain ⟨te,pe,se⟩:=he
  have nox:∀ {α:Type} {tr:Sem α} {Q:α → Shared → Prop} {s:Shared},wpAny (model Y.prog Y.w) Y.A tr Q Y.xe s → wpAny (model Y.prog Y.w) Y.A tr Q NoE s:=fun h => by rw [hxe] at h; exact h
  refine compLoop_own (CSt Y Z D' fp tn α F g t m ds G) ?_ (ds.length + 1) (.mk (i:=0) (xs:=[]) (vs:=[]) (Nat.zero_le _) (Nat.zero_le _) I ht0 hf0 R (Ext.refl _ _) reps_nil hG)
  rintro n s1 (@⟨i,σ1,H1,α1,F1,ρ1,μ1,xs,vs,_,hi,hxl,I1,t1,f1,R1,e1,r1,g1⟩)
  obtain ⟨w1,w2⟩:=wk _ α1 F1 H1 μ1 (fun b u e => by rw [up_ne (ne_of_none e hZ0)]; exact e) R1.hp e1 i
  by_cases hlt:i < ds.length
  · obtain ⟨w3,w4⟩:=w1 hlt
    refine wpAny_mono (Tn.item Y rfl rfl rfl hcalm i [] s1 σ1 H1 NoE I1 (stat H1 f1) t1 w3) (fun r s2 h2 => ?_) fun _ _ z => z
    obtain ⟨u,rfl,h2⟩:=h2
    refine wpAny_mono h2 (fun _ s3 h3 => ?_) fun _ _ z => z
    obtain ⟨x,H3,I3,rx,yl,t3,f3⟩:=h3
    obtain ⟨d,F3,hd,R3,sf3,p3⟩:=w4 x H3 yl
    have e3:Ext α1 F1 α1 F3:=⟨sf3,fun _ _ h => h⟩
    rw [List.drop_eq_getElem_cons hlt] at g1
    have hd':ds[i] = d:=by
      rw [List.getElem?_eq_getElem hlt] at hd
      exact Option.some.inj hd
    rw [hd'] at g1
    simp only [compGo] at g1
    cases ht:g d ρ1 with
    | none => rw [ht] at g1; exact absurd g1 hbad
    | some ρ4 =>
      rw [ht] at g1
      simp only at g1
      have I3':=I3.pinned (stat H3 f3) (Tn.obj _ _ t3)
      have R3':RS Y.K (ZS.up Z D' (.lst vs)) α1 F3 H3 σ1 ρ1 μ1:=R1.to R3 e3
      refine wpAny_mono (nox (pg _ s3 σ1 H3 x u (fun σ4 H4 => H4 = H3 ∧ RS Y.K (ZS.up Z D' (.lst vs)) α1 F3 H3 σ4 ρ4 μ1) I3' rx (sg _ α1 F3 H3 σ1 ρ1 μ1 x d ρ4 _ R3' p3 ht fun σ4 R4 => ⟨rfl,R4⟩))) (fun _ s4 h4 => ?_) fun _ _ z => z
      obtain ⟨σ4,H4,I4,rfl,R4⟩:=h4
      have back:∀ {σ5:L2.St} {H5:Hp} {s5:Shared},Inv Y ([] ++ pinsAt fp s3.heap) σ5 H5 s5 → Inv Y [] σ5 H5 s5 ∧ tn (i + 1) s5.heap ∧ ∀ b ∈ fp,H5 b = none:=fun {σ5 H5 s5} I5 => by
        refine ⟨I5.unpinned,Tn.keep _ _ _ t3 fun b hb o e => (I5.pin (b,o) (List.mem_append_right _ (List.mem_append_right _ (mem_pinsAt hb e)))).1,fun b hb => ?_⟩
        obtain ⟨o,e,_⟩:=Tn.obj _ _ t3 b hb
        exact (I5.pin (b,o) (List.mem_append_right _ (List.mem_append_right _ (mem_pinsAt hb e)))).2.1
      refine wpAny_mono (nox (hif _ s4 _ α1 F3 H4 σ4 ρ4 μ1 (fun k H5 => ∃ μ5 α5 F5,RH Y.K (ZS.up Z D' (.lst vs)) α5 F5 H5 μ5 ∧ Ext α1 F3 α5 F5 ∧ G (if k = true then (noX (m ρ4 μ5)).bind fun x μ2 => compGo g t m (ds.drop (i + 1)) ρ4 μ2 (xs ++ [x]) else compGo g t m (ds.drop (i + 1)) ρ4 μ5 xs)) I4 R4 ?_)) (fun k s5 h5 => ?_) fun _ _ z => z
      · cases hk:t ρ4 μ1 with
        | ok k μ5 => rw [hk] at g1; exact fun α5 F5 H5 R5 e5 => ⟨μ5,α5,F5,R5,e5,g1⟩
        | exc x μ5 => rw [hk] at g1; exact absurd g1 hbad
        | bad => rw [hk] at g1; exact absurd g1 hbad
      obtain ⟨H5,I5,μ5,α5,F5,R5,e5,g5⟩:=h5
      cases k with
      | false =>
        obtain ⟨b1,b2,b3⟩:=back I5
        exact ⟨_,by omega,.mk (i:=i + 1) hlt (Nat.le_succ_of_le hxl) b1 b2 b3 (R4.to R5 e5) (e1.trans (e3.trans e5)) ((r1.mono e3).mono e5) g5⟩
      | true =>
        simp only [if_true] at g5 ⊢
        refine wpAny_mono (nox (pe _ s5 σ4 H5 (fun v6 H6 => ∃ x6 μ6 α6 F6,RH Y.K (ZS.up Z D' (.lst vs)) α6 F6 H6 μ6 ∧ Ext α5 F5 α6 F6 ∧ Rep Y.K F6 α6 x6 v6 ∧ G (compGo g t m (ds.drop (i + 1)) ρ4 μ6 (xs ++ [x6]))) I5 (se _ α5 F5 H5 σ4 ρ4 μ5 _ (R4.to R5 e5) ?_))) (fun y s6 h6 => ?_) fun _ _ z => z
        · cases hm:m ρ4 μ5 with
          | ok x6 μ6 => rw [hm] at g5; exact fun v6 α6 F6 H6 R6 e6 p6 => ⟨x6,μ6,α6,F6,R6,e6,p6,g5⟩
          | exc x μ5 => rw [hm] at g5; exact absurd g5 hbad
          | bad => rw [hm] at g5; exact absurd g5 hbad
        obtain ⟨v6,H6,I6,rv,x6,μ6,α6,F6,R6,e6,p6,g6⟩:=h6
        have hHD:H6 D' = some (.lst vs):=R6.zs _ _ up_same
        have hvl:vs.length < sizeLine:=by rw [← r1.length,sizeLine_eq]; omega
        refine wpAny_mono (nox (mt_append (X:=Y) _ s6 σ4 H6 (.ref D') [v6] (.ref D') [y] (fun _ H7 => H7 = upd H6 D' (.lst (vs ++ [v6]))) I6 rfl (.cons rv .nil) ⟨D',vs,v6,rfl,rfl,hHD,hvl,rfl⟩)) (fun z s7 h7 => ?_) fun _ _ z => z
        obtain ⟨_,H7,I7,_,rfl⟩:=h7
        obtain ⟨b1,b2,b3⟩:=back I7
        have R7:=R6.rehold (.lst (vs ++ [v6]))
        refine ⟨_,by omega,.mk (i:=i + 1) (xs:=xs ++ [x6]) (vs:=vs ++ [v6]) hlt ?_ b1 b2 b3 ?_ (e1.trans (e3.trans (e5.trans e6))) ?_ g6⟩
        · rw [List.length_append,List.length_singleton]; exact Nat.succ_le_succ hxl
        · exact ⟨R7,R4.len,fun j dd h => let ⟨v,h1,h2⟩:=R4.sl j dd h; ⟨v,h1,(h2.mono e5).mono e6⟩⟩
        · exact ((((r1.mono e3).mono e5).mono e6).append (reps_cons p6 reps_nil))
  · refine wpAny_mono (Tn.done Y rfl rfl rfl hcalm i [] s1 σ1 H1 NoE I1 (stat H1 f1) t1 (w2 (by omega))) (fun r s2 h2 => ?_) fun _ _ z => z
    obtain ⟨rfl,I2⟩:=h2
    rw [List.drop_eq_nil_of_le (by omega)] at g1
    exact hR σ1 H1 s2 α1 F1 xs vs μ1 I2 R1.hp e1 r1 g1
theorem comp_core0 {pins:List (Addr × Obj)} {σ:L2.St} {H1:Hp} {s2:Shared} {E:Value → Shared → Prop} {RR:Value → Addr → Result → Shared → Prop} {it:Addr} {fp:List Addr} {tn:Nat → Heap → Prop} {J:It} {Z:ZS} {α:List Addr} {F:Hp} {ρ:En} {μ:Mu} {ds:List D} {G:Res (List D) → Prop}
    (cs:CompScope scope X.env) (cp:Caps X scope T caps ix) (hcalm:X.calm = true) (hb:Blk X scope (T ++ caps) tg ifs elt g t m)
    (I2:Inv X pins σ H1 s2) (Tn:Turn X.prog X.w X.K tg J fp it tn) (ht0:tn 0 s2.heap) (hfp:∀ b ∈ fp,FpOk X pins H1 b) (R:RS X.K Z α F H1 σ ρ μ) (wk:WalkZ X.K Z.z α F J ds) (hds:ds.length ≤ 16777216)
    (hG:G (compGo g t m ds (blk T.length ix ρ) μ [])) (hbad:¬ G .bad)
    (hRR:∀ (D' C:Addr) (H':Hp) (s':Shared) (α':List Addr) (F':Hp) (xs:List D) (vs:List V) (μ':Mu) (mm:Str → Option Value),Inv X pins σ H' s' → FpOk X pins H' C → s'.heap.Ns C mm → RH X.K (ZS.up Z D' (.lst vs)) α' F' H' μ' → Z.z D' = none → Ext α F α' F' → Reps X.K F' α' xs vs → G (.ok xs μ') → RR (.ref D') C (.ok .next) s') :
    wpAny (model X.prog X.w) X.A (newList []) (fun acc s₃ => wpAny (model X.prog X.w) X.A (newFunctionEnv scope X.env.globals (cellsC scope X.env) [] X.env.qual none .none (some X.env)) (fun cenv s₄ =>
      codeAny (model X.prog X.w) X.A (.compStart (.ListComp elt [⟨tg,iter,ifs,0⟩] scope pos) 0 (.ref it) acc { cenv with scope:=relabel scope X.env }) (RR acc cenv.locals) s₄) E s₃) E s2:=by
  have hD:H1 s2.heap.objs.size = none:=I2.fresh
  have hZ:Z.z s2.heap.objs.size = none:=by
    cases e:Z.z s2.heap.objs.size with
    | none => rfl
    | some u => rw [R.hp.zs _ _ e] at hD; cases hD
  have I3:Inv X pins σ (upd H1 s2.heap.objs.size (.lst [])) { s2 with heap:=s2.heap.push { cls:=.type "list",data:=.seq ([]:List Value).toArray },toks:=s2.toks }:=I2.lnew (its:=[]) (ys:=[]) .nil (Nat.zero_le _)
  have k3:∀ b u,s2.heap.get? b = some u → (s2.heap.push { cls:=.type "list",data:=.seq ([]:List Value).toArray }).get? b = some u:=fun b u e => Heap.get?_push_of_some _ e
  refine wpAny_newObj_type (wpAny_newFunctionEnv cs.nocell (by intro y hy; simp at hy) (fun h₁ hns₁ hsb₁ => ?_) cs.kind)
  have hobj:∀ b ∈ fp,∃ o,s2.heap.get? b = some o:=fun b hb => let ⟨o,e,_⟩:=Tn.obj 0 _ ht0 b hb; ⟨o,e⟩
  have hnD:∀ b ∈ fp,b ≠ s2.heap.objs.size:=fun b hb => let ⟨o,e⟩:=hobj b hb; Nat.ne_of_lt (Heap.lt_size e)
  have hex3:∀ b ∈ fp,FpOk X pins (upd H1 s2.heap.objs.size (.lst [])) b ∧ ∃ o,(s2.heap.push { cls:=.type "list",data:=.seq ([]:List Value).toArray }).get? b = some o:=fun b hb => by
    obtain ⟨f0,f1⟩:=hfp b hb
    obtain ⟨o,e⟩:=hobj b hb
    exact ⟨⟨by rw [upd_ne (hnD b hb)]; exact f0,f1⟩,o,k3 b o e⟩
  have keep1:∀ b o,(s2.heap.push { cls:=.type "list",data:=.seq ([]:List Value).toArray }).get? b = some o → h₁.get? b = some o:=fun b o e =>
    hsb₁.extBut b o (Nat.ne_of_lt (Heap.lt_size e)) (Heap.get?_push_of_some _ e)
  have I4:=comp_start (scope:=scope) (T:=T) (caps:=caps) (ix:=ix) (ex:=fp) (tk:=s2.toks + ([]:List (Str × Value)).length) I3 cs cp rfl hex3 (by simpa using hns₁) keep1
  obtain ⟨hgt,hif,he⟩:=hb (s2.heap.push { cls:=.type "list",data:=.seq ([]:List Value).toArray }).objs.size { s2 with heap:=s2.heap.push { cls:=.type "list",data:=.seq ([]:List Value).toArray },toks:=s2.toks } (upd H1 s2.heap.objs.size (.lst [])) fp
  have t1:tn 0 h₁:=Tn.keep 0 _ _ ht0 fun b _ o e => keep1 b o (k3 b o e)
  have stat:∀ H':Hp,(∀ b ∈ fp,H' b = none) → ∀ b ∈ fp,FpOk (compCx X (T ++ caps) scope (s2.heap.push { cls:=.type "list",data:=.seq ([]:List Value).toArray }).objs.size { s2 with heap:=s2.heap.push { cls:=.type "list",data:=.seq ([]:List Value).toArray },toks:=s2.toks } (upd H1 s2.heap.objs.size (.lst [])) fp) [] H' b:=fun H' hn b hb => by
    refine ⟨hn b hb,(I4.ok.exf b hb).1,I4.ok.exfs b hb,.inl hb,(I4.ok.exf b hb).2,fun p hp => ?_⟩
    exact absurd hp (by simp [compCx])
  have loop:codeAny (model X.prog X.w) X.A (.compLoop (.ListComp elt [⟨tg,iter,ifs,0⟩] scope pos) 0 (.ref it) (.ref s2.heap.objs.size) (compEnvC scope (cellsC scope X.env) (s2.heap.push { cls:=.type "list",data:=.seq ([]:List Value).toArray }).objs.size X.env))
      (RR (.ref s2.heap.objs.size) (s2.heap.push { cls:=.type "list",data:=.seq ([]:List Value).toArray }).objs.size) { s2 with heap:=h₁,toks:=s2.toks + ([]:List (Str × Value)).length }:=by
    refine comp_loop (Y:=compCx X (T ++ caps) scope (s2.heap.push { cls:=.type "list",data:=.seq ([]:List Value).toArray }).objs.size { s2 with heap:=s2.heap.push { cls:=.type "list",data:=.seq ([]:List Value).toArray },toks:=s2.toks } (upd H1 s2.heap.objs.size (.lst [])) fp) (Z:=Z) (G:=G) rfl hcalm hgt hif he Tn stat I4 t1 (fun b hb => by rw [upd_ne (hnD b hb)]; exact (hfp b hb).1)
      (rs_blk T.length ix ⟨R.hp.hold (.lst []) hD,R.len,R.sl⟩) hZ wk hds hG hbad fun σ' H' s' α' F' xs vs μ' I' R' e' r' g' => ?_
    have Ib:=comp_back (T:=T) (caps:=caps) (s3:={ s2 with heap:=s2.heap.push { cls:=.type "list",data:=.seq ([]:List Value).toArray },toks:=s2.toks }) I2 (Nat.le_refl _) rfl k3 hfp I'
    obtain ⟨mm,hmm,_⟩:=I'.loc
    exact hRR _ _ H' s' α' F' xs vs μ' mm Ib (I3.fpOk (Nat.le_refl _) I'.free) hmm R' hZ e' r' g'
  exact codeAny_compStart_list loop (Tn.self X.A 0 _ _ _ t1 loop)
theorem comp_core {pins:List (Addr × Obj)} {σ:L2.St} {H1:Hp} {s2:Shared} {E:Value → Shared → Prop} {RR:Value → Addr → Result → Shared → Prop} {it:Addr} {fp:List Addr} {tn:Nat → Heap → Prop} {J:It} {Z:ZS} {α:List Addr} {F:Hp} {ρ:En} {μ:Mu} {ds:List D} {G:Res (List D) → Prop}
    (cs:CompScope scope X.env) (cp:Caps X scope T caps ix) (hcalm:X.calm = true) (hb:Blk X scope (T ++ caps) tg ifs elt g t m)
    (I2:Inv X pins σ H1 s2) (Tn:Turn X.prog X.w X.K tg J fp it tn) (ht0:tn 0 s2.heap) (hfp:∀ b ∈ fp,FpOk X pins H1 b) (R:RS X.K Z α F H1 σ ρ μ) (wk:WalkZ X.K Z.z α F J ds) (hds:ds.length ≤ 16777216)
    (hG:G (compGo g t m ds (blk T.length ix ρ) μ [])) (hbad:¬ G .bad)
    (hRR:∀ (D' C:Addr) (H':Hp) (s':Shared) (α':List Addr) (F':Hp) (xs:List D) (μ':Mu) (mm:Str → Option Value),Inv X pins σ H' s' → FpOk X pins H' C → s'.heap.Ns C mm → RH X.K Z α' F' H' μ' → Ext α F α' F' → Rep X.K F' α' (.lst xs) (.ref D') → G (.ok xs μ') → RR (.ref D') C (.ok .next) s') :
    wpAny (model X.prog X.w) X.A (newList []) (fun acc s₃ => wpAny (model X.prog X.w) X.A (newFunctionEnv scope X.env.globals (cellsC scope X.env) [] X.env.qual none .none (some X.env)) (fun cenv s₄ =>
      codeAny (model X.prog X.w) X.A (.compStart (.ListComp elt [⟨tg,iter,ifs,0⟩] scope pos) 0 (.ref it) acc { cenv with scope:=relabel scope X.env }) (RR acc cenv.locals) s₄) E s₃) E s2:=by
  refine comp_core0 (G:=G) cs cp hcalm hb I2 Tn ht0 hfp R wk hds hG hbad fun D' C H' s' α' F' xs vs μ' mm I' fC hn R' hZ e' r' g' => ?_
  have hHD:H' D' = some (.lst vs):=R'.zs _ _ up_same
  obtain ⟨R2,s2'⟩:=R'.unhold (.lst vs) hZ
  rw [upd_id hHD] at R2
  refine hRR _ _ H' s' α' _ xs μ' mm I' fC hn R2 (e'.trans ⟨s2',fun _ _ h => h⟩) ?_ g'
  unfold Rep
  exact ⟨_,vs,rfl,SqL.of upd_same,r'.mono ⟨s2',fun _ _ h => h⟩⟩
theorem inv_but {pins:List (Addr × Obj)} {σ:L2.St} {H:Hp} {s:Shared} {C:Addr} {h':Heap} (I:Inv X pins σ H s) (f:FpOk X pins H C) (hs:Heap.SameBut C s.heap h'):Inv X pins σ H { s with heap:=h' } :=
  I.turned (t':=s.toks) (fun b o hb e => hs.extBut b o hb e) f.1 f.2.1 f.2.2.2.1 f.2.2.2.2.1 f.2.2.2.2.2
theorem me_comp {mi:MIt} (cs:CompScope scope X.env) (cp:Caps X scope T caps ix) (hcalm:X.calm = true) (hi:MI X EX tg iter mi) (hb:Blk X scope (T ++ caps) tg ifs elt g t m) (hs:∀ x,foldedSetIterable iter X.env x = pure x:=by intro _; rfl) :
    ME X EX (.ListComp elt [⟨tg,iter,ifs,0⟩] scope pos) (mComp T.length ix g mi t m):=by
  obtain ⟨wi,pi,si⟩:=hi
  refine ⟨fun σ H Q => ∀ pins s,Inv X pins σ H s → wpAny (model X.prog X.w) X.A (eval (.ListComp elt [⟨tg,iter,ifs,0⟩] scope pos) X.env) (EP X pins σ Q) X.xe s,fun pins s σ H Q I h => h pins s I,fun Z α F H σ ρ μ Q R gd pins s I => ?_⟩
  rw [eval_ListComp]
  refine wpAny_comprehension_free (use:=none) rfl hs (closure_eq (cs.had I.ok)) cs.kind cs.loc ?_
  unfold mComp at gd
  cases hm:mi ρ μ with
  | exc x μ1 =>
    rw [hm] at gd
    have hw:wi σ H fun _ _ => False:=si Z α F H σ ρ μ _ R (by rw [hm]; exact gd)
    refine thn (pi pins s σ H _ I hw) fun v s1 h1 => thn h1 fun itv s2 h2 => ?_
    obtain ⟨_,_,_,_,_,_,_,_,_,_,z⟩:=h2
    exact z.elim
  | bad => rw [hm] at gd; exact gd.elim
  | ok ds μ1 =>
    rw [hm] at gd
    simp only [bind_ok] at gd
    by_cases hds:ds.length ≤ 16777216
    · rw [if_pos hds] at gd
      have hw:wi σ H fun J H1 => ∃ α1 F1,RH X.K Z α1 F1 H1 μ1 ∧ Ext α F α1 F1 ∧ WalkOk X.K α1 F1 J ds:=si Z α F H σ ρ μ _ R (by rw [hm]; exact fun J α' F' H' R' e' w' => ⟨α',F',R',e',w'⟩)
      refine thn (pi pins s σ H _ I hw) fun v s1 h1 => thn h1 fun itv s2 h2 => ?_
      obtain ⟨it,fp,tn,J,H2,rfl,I2,Tn,t0,f2,α1,F1,R1,e1,wk⟩:=h2
      refine comp_core (G:=fun r => GE X.K NoX Z α F Q (r.bind fun xs μ2 => .ok (.lst xs) μ2) ∨ GE X.K EX Z α F Q (r.bind fun xs μ2 => .ok (.lst xs) μ2)) cs cp hcalm hb I2 Tn t0 f2 (R.to R1 e1) wk.z hds (.inr gd) (fun z => z.elim id id) fun D' C H' s' α' F' xs μ' mm I' fC hn R' e' rp gg => ?_
      refine ⟨mm,hn,fun h' hs' => ⟨.ref D',H',inv_but I' fC hs',rfl,?_⟩⟩
      rcases gg with gg | gg
      · exact gg _ α' F' H' R' (e1.trans e') rp
      · exact gg _ α' F' H' R' (e1.trans e') rp
    · rw [if_neg hds] at gd; exact gd.elim
theorem ms_setC {i:Nat} {x:Str} {pos':Pos} {mi:MIt} {spos:Pos} (hN:X.nd) (hi':X.N[i]? = some x) (hx:Loc X.env.scope x) (hf:X.fn x = true ∨ X.env.scope.names.lookup x = some .local) (cs:CompScope scope X.env) (cp:Caps X scope T caps ix) (hcalm:X.calm = true) (hi:MI X EX tg iter mi)
    (hb:Blk X scope (T ++ caps) tg ifs elt g t m) (hsw:swapsWith (.ListComp elt [⟨tg,iter,ifs,0⟩] scope pos) (some (.Name x pos')) spos.line X.env = pure true) (hs:∀ x,foldedSetIterable iter X.env x = pure x:=by intro _; rfl) :
    MS X EX (.Assign [.Name x pos'] (.ListComp elt [⟨tg,iter,ifs,0⟩] scope pos) spos) (mSet i (mComp T.length ix g mi t m)):=by
  obtain ⟨wi,pi,si⟩:=hi
  refine ⟨fun N σ H => ∀ pins s,Inv X pins σ H s → wpAny (model X.prog X.w) X.A (exec (.Assign [.Name x pos'] (.ListComp elt [⟨tg,iter,ifs,0⟩] scope pos) spos) X.env) (SP X pins N) X.xe s,fun pins s σ H N I h => h pins s I,fun Z α F H σ ρ μ N R gd pins s I => ?_⟩
  rw [exec_Assign_Name_used _ _ _ _ hsw]
  refine wpAny_bind (wpAny_standAt (wpAny_bind ?_))
  show wpAny _ X.A (do let _ ← comprehension (.ListComp elt [⟨tg,iter,ifs,0⟩] scope pos) scope X.env _ (newList []) false (eval iter X.env) (some (assign (.Name x pos') X.env))) _ _ s
  refine wpAny_bind (wpAny_mono (wpAny_comprehension_free (use:=some (assign (.Name x pos') X.env)) (Q:=fun _ s' => SP X pins N .next s') rfl hs (closure_eq (cs.had I.ok)) cs.kind cs.loc ?_) (fun _ s' hq => wpAny_pure (wpAny_pure hq)) fun _ _ e => e)
  unfold mSet mComp at gd
  cases hm:mi ρ μ with
  | exc y μ1 =>
    rw [hm] at gd
    have hw:wi σ H fun _ _ => False:=si Z α F H σ ρ μ _ R (by rw [hm]; exact gd)
    refine thn (pi pins s σ H _ I hw) fun v s1 h1 => thn h1 fun itv s2 h2 => ?_
    obtain ⟨_,_,_,_,_,_,_,_,_,_,z⟩:=h2
    exact z.elim
  | bad => rw [hm] at gd; exact gd.elim
  | ok ds μ1 =>
    rw [hm] at gd
    simp only [bind_ok] at gd
    by_cases hds:ds.length ≤ 16777216
    · rw [if_pos hds] at gd
      have hw:wi σ H fun J H1 => ∃ α1 F1,RH X.K Z α1 F1 H1 μ1 ∧ Ext α F α1 F1 ∧ WalkOk X.K α1 F1 J ds:=si Z α F H σ ρ μ _ R (by rw [hm]; exact fun J α' F' H' R' e' w' => ⟨α',F',R',e',w'⟩)
      refine thn (pi pins s σ H _ I hw) fun v s1 h1 => thn h1 fun itv s2 h2 => ?_
      obtain ⟨it,fp,tn,J,H2,rfl,I2,Tn,t0,f2,α1,F1,R1,e1,wk⟩:=h2
      refine comp_core (G:=fun r => GS X.K EX Z α F N ((r.bind fun xs μ2 => .ok (.lst xs) μ2).bind fun d μ1 => .ok (.nx (ρ.set i (some d))) μ1)) cs cp hcalm hb I2 Tn t0 f2 (R.to R1 e1) wk.z hds gd (fun z => z) fun D' C H' s' α' F' xs μ' mm I' fC hn R' e' rp gg => ?_
      show wpAny _ X.A (assign (.Name x pos') X.env (.ref D')) _ _ _
      refine wpAny_assign_Name (store_ok2 (v:=.ref D') I' hN hi' hx rfl (fun s'' I'' hsb => ?_) hf)
      obtain ⟨a,hsb,ha⟩:=hsb
      have hCa:C ≠ a:=by
        rcases ha with rfl | ha
        · exact fC.2.1
        · exact fun z => fC.2.2.2.2.1 x a ha z.symm
      refine ⟨mm,hn.sameBut hsb hCa,fun h' hs' => ⟨_,H',inv_but I'' fC hs',?_⟩⟩
      exact gg _ α' F' H' ((R.to R' (e1.trans e')).set i rp) (e1.trans e')
    · rw [if_neg hds] at gd; exact gd.elim
end
end M
set_option Elab.async false
set_option linter.all false
set_option maxRecDepth 100000
set_option maxHeartbeats 4000000
namespace M
open PySem PySem.Spec PyProof.Rows L2
section
variable {prog:Program} {w:World} {A:Around}
theorem draws_tup (hh:A.handled = none) (j tp:Addr) (hne:tp ≠ j) (xs:Array Value):Draws prog w A j [j,tp] xs.size (fun i v => xs[i]? = some v) (fun i h => h.IsTupleIter j tp i ∧ h.IsTuple tp xs):=by
  have start:∀ {s:Shared} {Q:Value → Shared → Prop} {E:Value → Shared → Prop} {i:Nat},s.heap.IsTupleIter j tp i → s.heap.IsTuple tp xs →
      wpAny (model prog w) A.in1 (match xs[i]? with
        | some x => do setField (.ref j) 1 (rawInt ((i:Int) + 1)); ret x
        | none => do rule "tuple_iterator.__next__.end"; setField (.ref j) 0 .none; Builtin.SmallTypes.stopIteration) (fun f s' => ∃ v,f = .done (.ret v) ∧ wpAny (model prog w) A (pure v) Q E s') E s →
      wpAny (model prog w) A (Builtin.SmallTypes.nextOf (.ref j)) Q E s:=fun {s Q E i} a b h => by
    obtain ⟨oj,ej,_,dj⟩:=id a
    obtain ⟨ot,et,_,n,dt⟩:=b
    unfold Builtin.SmallTypes.nextOf
    refine wpAny_bind (wpAny_callSpecial?_slot (name:="__next__") a.typeIs PySem.F.slot_tuple_iterator_next (wpAny_call_entry PySem.F.slot_tuple_iterator_next a.typeIs PySem.F.entry_tuple_iterator_next ?_ (PySem.F.args_tuple_iterator_next_1 _)))
    refine (wpAny_bind (wpAny_field ej dj (x:=.ref tp) rfl ?_):wpAny _ _ (field (.ref j) 0 >>= _) _ _ s)
    refine (wpAny_bind (wpAny_field ej dj (x:=.int i 0) rfl ?_):wpAny _ _ (field (.ref j) 1 >>= _) _ _ s)
    refine (wpAny_bind (wpAny_seqItems et dt ?_):wpAny _ _ (seqItems? (.ref tp) >>= _) _ _ s)
    simp only [Int.toNat_natCast]
    exact h
  refine ⟨fun _ _ st => let ⟨o,e,_⟩:=st.1; ⟨o,e⟩,fun i h h' st k => ?_,fun i s Q E hi st q => start st.1 st.2 ?_,fun s Q E st q => start st.1 st.2 ?_⟩
  · obtain ⟨⟨o,e,r⟩,⟨o2,e2,r2⟩⟩:=st
    exact ⟨⟨o,k j (by simp) o e,r⟩,⟨o2,k tp (by simp) o2 e2,r2⟩⟩
  · obtain ⟨⟨o,e,c,d⟩,b⟩:=id st
    rw [Array.getElem?_eq_getElem hi]
    refine wpAny_bind (wpAny_setField e d (by simp) (wpAny_pure ⟨_,rfl,wpAny_pure (q _ _ _ (by simp [hi]) ⟨⟨_,Heap.get?_update_self _ e (Obj.isFreed_of_fields (Obj.data_mapFields d _)),(Obj.cls_mapFields ..).trans c,by rw [Obj.data_mapFields d]; simp [rawInt]⟩,b.extBut (Heap.SameBut.update ..).extBut hne⟩ (Heap.SameBut.update ..))⟩))
  · obtain ⟨⟨o,e,c,d⟩,b⟩:=id st
    rw [show xs[xs.size]? = none by simp]
    refine wpAny_bind (wpAny_rule (wpAny_bind (wpAny_setField e d (by simp) ?_)))
    simp only [Builtin.SmallTypes.stopIteration,newExc,newTuple]
    refine wpAny_bind (wpAny_bind (wpAny_newObj_type (wpAny_bind (m:=firstArgMember _ _) (wpAny_of_eq (a:=Value.none) (by first | rfl | (simp only [firstArgMember]; rfl)) (wpAny_newObj_type ?_ (by size_fits)))) (by size_fits)))
    simp only [raiseNew]
    refine wpAny_bind (wpAny_handled ?_)
    rw [show A.in1.handled = none from hh]
    exact wpAny_bind (wpAny_pure (wpAny_throw (q _ _ (((Heap.SameBut.update ..).extBut.push _).push _) ⟨_,Heap.get?_push_size _ rfl,rfl⟩)))
structure Apart (z tI tO i1 i2:Addr) (f1 f2:List Addr):Prop where
  a:z ≠ tO
  b:z ≠ tI
  c:tI ≠ tO
  z1:z ∉ f1
  z2:z ∉ f2
  o1:tO ∉ f1
  o2:tO ∉ f2
  m1:i1 ∈ f1
  m2:i2 ∈ f2
  x1:i1 ∉ f2
  x2:i2 ∉ f1
  t1:tI ∉ f1
  t2:tI ∉ f2
theorem Apart.ne1 {z tI tO i1 i2:Addr} {f1 f2:List Addr} (P:Apart z tI tO i1 i2 f1 f2):i1 ≠ z ∧ i1 ≠ tO ∧ i1 ≠ i2 ∧ i1 ≠ tI:=⟨fun e => P.z1 (e ▸ P.m1),fun e => P.o1 (e ▸ P.m1),fun e => P.x1 (e ▸ P.m2),fun e => P.t1 (e ▸ P.m1)⟩
theorem Apart.ne2 {z tI tO i1 i2:Addr} {f1 f2:List Addr} (P:Apart z tI tO i1 i2 f1 f2):i2 ≠ z ∧ i2 ≠ tO ∧ i2 ≠ tI:=⟨fun e => P.z2 (e ▸ P.m2),fun e => P.o2 (e ▸ P.m2),fun e => P.t2 (e ▸ P.m2)⟩
theorem frame_but {f:List Addr} {c:Addr} {h h':Heap} (hc:c ∉ f) (k:Heap.ExtBut c h h'):∀ b ∈ f,∀ o,h.get? b = some o → h'.get? b = some o:=fun b hb o e => k b o (fun z => hc (z ▸ hb)) e
variable {E:Value → Shared → Prop} {s:Shared} {z tI tO i1 i2:Addr} {f1 f2:List Addr} {n1 n2 k:Nat} {P1 P2:Nat → Value → Prop} {S1 S2:Nat → Heap → Prop} {p q:Value}
theorem zip_turn {Q:Value → Shared → Prop} (D1:Draws prog w A.in1 i1 f1 n1 P1 S1) (D2:Draws prog w A.in1 i2 f2 n2 P2 S2) (ap:Apart z tI tO i1 i2 f1 f2) (hz:IsZip s.heap z tI tO .none) (hI:IsPair s.heap tI (.ref i1) (.ref i2)) (hO:IsPair s.heap tO p q)
    (s1:S1 k s.heap) (s2:S2 k s.heap) (l1:k < n1) (l2:k < n2)
    (fin:∀ x y h' tk,P1 k x → P2 k y → IsZip h' z tI tO (rawInt s.heap.objs.size) → IsPair h' tO x y → S1 (k + 1) h' → S2 (k + 1) h' → IsPair h' s.heap.objs.size x y → (∀ c o,c ≠ z → c ≠ tO → c ≠ i1 → c ≠ i2 → s.heap.get? c = some o → h'.get? c = some o) →
      Q (.ref s.heap.objs.size) { s with heap:=h',toks:=tk }) :
    wpAny (model prog w) A.in1 (Builtin.«zip.__next__» ⟨[.ref z],[]⟩) (fun f s' => ∃ v,f = .done (.ret v) ∧ Q v s') E s:=by
  obtain ⟨u1,u2,u3,u4⟩:=ap.ne1
  obtain ⟨v1,v2,v3⟩:=ap.ne2
  refine (wpAny_bind (wpAny_field hz rfl (x:=.bool false) rfl ?_):wpAny _ _ (field (.ref z) 2 >>= _) _ _ _)
  refine (wpAny_bind (wpAny_field hz rfl (x:=.ref tI) rfl ?_):wpAny _ _ (field (.ref z) 3 >>= _) _ _ _)
  refine wpAny_bind (wpAny_seqItems hI rfl ?_)
  have free:∀ {R:Bool → Shared → Prop},R true s → wpAny (model prog w) A.in1 (Builtin.SmallTypes.ownedTupleIsFree (.ref z)) R E s:=fun r => by
    unfold Builtin.SmallTypes.ownedTupleIsFree
    exact wpAny_bind (wpAny_field hz rfl (x:=.none) rfl (wpAny_pure r))
  refine (wpAny_bind (free ?_):wpAny _ _ (Builtin.SmallTypes.ownedTupleIsFree (.ref z) >>= _) _ _ _)
  simp only [if_true]
  refine wpAny_bind (wpAny_rule ?_)
  refine wpAny_bind (wpAny_field hz rfl (x:=.ref tO) rfl ?_)
  refine wpAny_bind (wpAny_setField_rec hz (by simp) fun g1 z1 k1 => wpAny_bind ?_)
  simp only [List.zipIdx_cons,List.zipIdx_nil,List.forIn_cons,List.forIn_nil]
  have a1:S1 k g1:=D1.frame _ _ _ s1 (frame_but ap.z1 k1.extBut)
  have a2:S2 k g1:=D2.frame _ _ _ s2 (frame_but ap.z2 k1.extBut)
  have aO:IsPair g1 tO p q:=k1.extBut _ _ ap.a.symm hO
  refine wpAny_bind (wpAny_bind (wpAny_onRaise ((wpAny_bind (D1.item k _ _ _ l1 a1 fun x g2 tk2 px b1 k2 => wpAny_pure ?_)):wpAny _ _ (Builtin.SmallTypes.nextOf (.ref i1) >>= _) _ _ _)))
  have b2:S2 k g2:=D2.frame _ _ _ a2 (frame_but ap.x1 k2.extBut)
  have bO:IsPair g2 tO p q:=k2.extBut _ _ u2.symm aO
  refine wpAny_bind (wpAny_seqItems bO rfl (wpAny_bind (wpAny_updateSeq_pair bO fun g3 cO k3 => wpAny_bind (wpAny_letGo (wpAny_pure ?_)))))
  have cO':IsPair g3 tO x q:=cO
  have c1:S1 (k + 1) g3:=D1.frame _ _ _ b1 (frame_but ap.o1 k3.extBut)
  have c2:S2 k g3:=D2.frame _ _ _ b2 (frame_but ap.o2 k3.extBut)
  refine wpAny_bind (wpAny_bind (wpAny_onRaise ((wpAny_bind (D2.item k _ _ _ l2 c2 fun y g4 tk4 py d2 k4 => wpAny_pure ?_)):wpAny _ _ (Builtin.SmallTypes.nextOf (.ref i2) >>= _) _ _ _)))
  have d1:S1 (k + 1) g4:=D1.frame _ _ _ c1 (frame_but ap.x2 k4.extBut)
  have dO:IsPair g4 tO x q:=k4.extBut _ _ v2.symm cO'
  refine wpAny_bind (wpAny_seqItems dO rfl (wpAny_bind (wpAny_updateSeq_pair dO fun g5 eO k5 => wpAny_bind (wpAny_letGo (wpAny_pure (wpAny_pure ?_))))))
  have eO':IsPair g5 tO x y:=eO
  have e1:S1 (k + 1) g5:=D1.frame _ _ _ d1 (frame_but ap.o1 k5.extBut)
  have e2:S2 (k + 1) g5:=D2.frame _ _ _ d2 (frame_but ap.o2 k5.extBut)
  have sz:g5.objs.size = s.heap.objs.size:=by rw [k5.1,k4.1,k3.1,k2.1,k1.1]
  have z5:IsZip g5 z tI tO .ellipsis:=k5.extBut _ _ ap.a (k4.extBut _ _ v1.symm (k3.extBut _ _ ap.a (k2.extBut _ _ u1.symm z1)))
  have old:∀ c o,c ≠ z → c ≠ tO → c ≠ i1 → c ≠ i2 → s.heap.get? c = some o → g5.get? c = some o:=fun c o n1 n2 n3 n4 e => k5.extBut _ _ n2 (k4.extBut _ _ n4 (k3.extBut _ _ n2 (k2.extBut _ _ n3 (k1.extBut _ _ n1 e))))
  refine wpAny_bind (wpAny_seqItems eO' rfl (wpAny_bind (wpAny_newTuple ?_)))
  have z6:IsZip (g5.push { cls:=.type "tuple",data:=.seq #[x,y] }) z tI tO .ellipsis:=Heap.get?_push_of_some _ z5
  have out:∀ {R:Unit → Shared → Prop},(∀ g7,IsZip g7 z tI tO (rawInt g5.objs.size) → Heap.ExtBut z (g5.push { cls:=.type "tuple",data:=.seq #[x,y] }) g7 → R () { s with heap:=g7,toks:=tk4 }) →
      wpAny (model prog w) A.in1 (Builtin.SmallTypes.ownedTupleHandOut (.ref z) (.ref g5.objs.size)) R E { s with heap:=g5.push { cls:=.type "tuple",data:=.seq #[x,y] },toks:=tk4 }:=fun r => by
    unfold Builtin.SmallTypes.ownedTupleHandOut
    refine wpAny_bind (wpAny_setField_rec z6 (by simp) fun g7 z7 k7 => wpAny_setField_rec (show IsZip g7 z tI tO (rawInt g5.objs.size) from z7) (by simp) fun g8 z8 k8 => r g8 z8 fun c o hc e => k8.extBut c o hc (k7.extBut c o hc e))
  show wpAny _ _ (Builtin.SmallTypes.ownedTupleHandOut (.ref z) (.ref g5.objs.size) >>= _) _ _ _
  refine wpAny_bind (out fun g7 z7 k7 => ?_)
  refine wpAny_pure ⟨_,rfl,?_⟩
  have up:∀ c o,c ≠ z → g5.get? c = some o → g7.get? c = some o:=fun c o hc e => k7 c o hc (Heap.get?_push_of_some _ e)
  have zlt:z < g5.objs.size:=Heap.lt_size z5
  show Q (.ref g5.objs.size) _
  rw [sz] at z7 ⊢
  refine fin x y g7 tk4 px py z7 (up _ _ ap.a.symm eO') (D1.frame _ _ _ e1 fun b hb o e => up b o (fun zz => ap.z1 (zz ▸ hb)) e) (D2.frame _ _ _ e2 fun b hb o e => up b o (fun zz => ap.z2 (zz ▸ hb)) e) ?_ fun c o n1 n2 n3 n4 e => up c o n1 (old c o n1 n2 n3 n4 e)
  rw [← sz]
  exact k7 _ _ (Nat.ne_of_gt zlt) (Heap.get?_push_size _ rfl)
theorem zip_over {Q:PySem.Fin → Shared → Prop} (D1:Draws prog w A.in1 i1 f1 n1 P1 S1) (D2:Draws prog w A.in1 i2 f2 n2 P2 S2) (ap:Apart z tI tO i1 i2 f1 f2) (hz:IsZip s.heap z tI tO .none) (hI:IsPair s.heap tI (.ref i1) (.ref i2)) (hO:IsPair s.heap tO p q)
    (s1:S1 k s.heap) (s2:S2 k s.heap) (le1:k ≤ n1) (le2:k ≤ n2) (hend:k = n1 ∨ k = n2)
    (fin:∀ h' e tk,(∀ c o,c ≠ z → c ≠ tO → c ≠ i1 → c ≠ i2 → s.heap.get? c = some o → h'.get? c = some o) → (∃ o,h'.get? e = some o ∧ o.cls = .type "StopIteration") → E (.ref e) { s with heap:=h',toks:=tk }) :
    wpAny (model prog w) A.in1 (Builtin.«zip.__next__» ⟨[.ref z],[]⟩) Q E s:=by
  obtain ⟨u1,u2,u3,u4⟩:=ap.ne1
  obtain ⟨v1,v2,v3⟩:=ap.ne2
  refine (wpAny_bind (wpAny_field hz rfl (x:=.bool false) rfl ?_):wpAny _ _ (field (.ref z) 2 >>= _) _ _ _)
  refine (wpAny_bind (wpAny_field hz rfl (x:=.ref tI) rfl ?_):wpAny _ _ (field (.ref z) 3 >>= _) _ _ _)
  refine wpAny_bind (wpAny_seqItems hI rfl ?_)
  have free:∀ {R:Bool → Shared → Prop},R true s → wpAny (model prog w) A.in1 (Builtin.SmallTypes.ownedTupleIsFree (.ref z)) R E s:=fun r => by
    unfold Builtin.SmallTypes.ownedTupleIsFree
    exact wpAny_bind (wpAny_field hz rfl (x:=.none) rfl (wpAny_pure r))
  refine (wpAny_bind (free ?_):wpAny _ _ (Builtin.SmallTypes.ownedTupleIsFree (.ref z) >>= _) _ _ _)
  simp only [if_true]
  refine wpAny_bind (wpAny_rule ?_)
  refine wpAny_bind (wpAny_field hz rfl (x:=.ref tO) rfl ?_)
  refine wpAny_bind (wpAny_setField_rec hz (by simp) fun g1 z1 k1 => wpAny_bind ?_)
  simp only [List.zipIdx_cons,List.zipIdx_nil,List.forIn_cons,List.forIn_nil]
  have a1:S1 k g1:=D1.frame _ _ _ s1 (frame_but ap.z1 k1.extBut)
  have a2:S2 k g1:=D2.frame _ _ _ s2 (frame_but ap.z2 k1.extBut)
  have aO:IsPair g1 tO p q:=k1.extBut _ _ ap.a.symm hO
  have pass:∀ {g:Heap} {e:Addr} {tk:Nat},IsZip g z tI tO .ellipsis → (∃ o,g.get? e = some o ∧ o.cls = .type "StopIteration") → (∀ c o,c ≠ z → c ≠ tO → c ≠ i1 → c ≠ i2 → s.heap.get? c = some o → g.get? c = some o) →
      wpAny (model prog w) A.in1 (setField (.ref z) 0 .none) (fun _ s' => E (.ref e) s') E { s with heap:=g,toks:=tk }:=fun {g e tk} zg he kg => by
    obtain ⟨oe,ee,ce⟩:=he
    have nez:e ≠ z:=fun x => by rw [x,zg] at ee; cases ee; simp at ce
    exact wpAny_setField_rec zg (by simp) fun g' _ k' => fin g' e tk (fun c o m1 m2 m3 m4 x => k'.extBut _ _ m1 (kg c o m1 m2 m3 m4 x)) ⟨oe,k'.extBut _ _ nez ee,ce⟩
  by_cases h1:k = n1
  · subst h1
    refine wpAny_bind (wpAny_bind (wpAny_onRaise ((wpAny_bind (D1.done _ _ _ a1 fun g2 e k2 he => ?_)):wpAny _ _ (Builtin.SmallTypes.nextOf (.ref i1) >>= _) _ _ _)))
    exact pass (tk:=s.toks) (k2 _ _ u1.symm z1) he fun c o m1 m2 m3 m4 x => k2 _ _ m3 (k1.extBut _ _ m1 x)
  · have h2:k = n2:=hend.resolve_left h1
    subst h2
    refine wpAny_bind (wpAny_bind (wpAny_onRaise ((wpAny_bind (D1.item k _ _ _ (by omega) a1 fun x g2 tk2 px b1 k2 => wpAny_pure ?_)):wpAny _ _ (Builtin.SmallTypes.nextOf (.ref i1) >>= _) _ _ _)))
    have b2:S2 k g2:=D2.frame _ _ _ a2 (frame_but ap.x1 k2.extBut)
    have bO:IsPair g2 tO p q:=k2.extBut _ _ u2.symm aO
    refine wpAny_bind (wpAny_seqItems bO rfl (wpAny_bind (wpAny_updateSeq_pair bO fun g3 cO k3 => wpAny_bind (wpAny_letGo (wpAny_pure ?_)))))
    have c2:S2 k g3:=D2.frame _ _ _ b2 (frame_but ap.o2 k3.extBut)
    refine wpAny_bind (wpAny_bind (wpAny_onRaise ((wpAny_bind (D2.done _ _ _ c2 fun g4 e k4 he => ?_)):wpAny _ _ (Builtin.SmallTypes.nextOf (.ref i2) >>= _) _ _ _)))
    exact pass (tk:=tk2) (k4 _ _ v1.symm (k3.extBut _ _ ap.a (k2.extBut _ _ u1.symm z1))) he fun c o m1 m2 m3 m4 x => k4 _ _ m4 (k3.extBut _ _ m2 (k2.extBut _ _ m3 (k1.extBut _ _ m1 x)))
end
section
variable {X:Cx} {pins:List (Addr × Obj)} {σ:L2.St} {H:Hp} {s:Shared} {h':Heap} {fp:List Addr}
theorem inv_pair {vs:List V} {us:List Value} {t':Nat} (I:Inv X pins σ H s) (hf:∀ b ∈ fp,FpOk X pins H b) (hk:∀ b o,b ∉ fp → s.heap.get? b = some o → h'.get? b = some o) (rv:Vals vs us) (hz:vs.length ≤ sizeLine) (hT:IsTup h' s.heap.objs.size us.toArray) :
    Inv X pins σ (upd H s.heap.objs.size (.tup vs)) { s with heap:=h',toks:=t' }:=by
  have hn:H s.heap.objs.size = none:=I.fresh
  have nfp:∀ b o,H b = some o → b ∉ fp:=fun b o e z => by rw [(hf b z).1] at e; cases e
  refine I.step (g':=s.gens) (d':=s.drawn) (ch:=fp) (fun b hb => ⟨(hf b hb).2.2.2.1,(hf b hb).2.1,(hf b hb).2.2.2.2.1,(hf b hb).2.2.2.2.2⟩) (fun b o _ _ hc e _ => hk b o hc e) (fun b o _ _ hc e _ => ⟨o.slots,hk b o hc e⟩)
    (fun b o _ e n => by rw [upd_ne (Nat.ne_of_lt (Heap.lt_size e))]; exact n) (fun b o hc e => ⟨o,hk b o hc e⟩) (fun b xs e => by rw [upd_ne (ne_of_none e hn)]; exact e) (fun b o xs e => by rw [upd_ne (ne_of_none e hn)]; exact e)
    (fun b ps e => ⟨#[],by rw [upd_ne (ne_of_none e hn),e]; simp⟩) (fun m hm => ?_) (fun b u e => ?_) I.bare
  · obtain ⟨o,es,ep,e,r⟩:=hm
    exact ⟨o,es,ep,hk _ o (fun z => (hf _ z).2.1 rfl) e,r⟩
  · by_cases hb:b = s.heap.objs.size
    · subst hb
      rw [upd_same] at e
      cases e
      exact ⟨hz,us,rv,hT⟩
    · rw [upd_ne hb] at e
      refine (I.hok b u e).stay (fun c v hc q => hk c v ?_ q) (fun c q => by rw [upd_ne (ne_of_none q hn)]; exact q) fun c xs q => by rw [upd_ne (ne_of_none q hn)]; exact q
      rcases hc with rfl | hc
      · exact nfp _ _ e
      · exact nfp _ _ hc
theorem inv_recs {t':Nat} (I:Inv X pins σ H s) (hf:∀ b ∈ fp,FpOk X pins H b) (hk:∀ b o,b ∉ fp → s.heap.get? b = some o → h'.get? b = some o):Inv X pins σ H { s with heap:=h',toks:=t' }:=by
  have nfp:∀ b o,H b = some o → b ∉ fp:=fun b o e z => by rw [(hf b z).1] at e; cases e
  refine I.step (g':=s.gens) (d':=s.drawn) (ch:=fp) (fun b hb => ⟨(hf b hb).2.2.2.1,(hf b hb).2.1,(hf b hb).2.2.2.2.1,(hf b hb).2.2.2.2.2⟩) (fun b o _ _ hc e _ => hk b o hc e) (fun b o _ _ hc e _ => ⟨o.slots,hk b o hc e⟩)
    (fun b o _ e n => n) (fun b o hc e => ⟨o,hk b o hc e⟩) (fun b xs e => e) (fun b o xs e => e) (fun b ps e => ⟨#[],by rw [e]; simp⟩) (fun m hm => ?_) (fun b u e => ?_) I.bare
  · obtain ⟨o,es,ep,e,r⟩:=hm
    exact ⟨o,es,ep,hk _ o (fun z => (hf _ z).2.1 rfl) e,r⟩
  · refine (I.hok b u e).stay (fun c v hc q => hk c v ?_ q) (fun c q => q) fun c xs q => q
    rcases hc with rfl | hc
    · exact nfp _ _ e
    · exact nfp _ _ hc
end
end M
set_option Elab.async false
set_option linter.all false
set_option maxRecDepth 100000
set_option maxHeartbeats 4000000
namespace M
open PySem PySem.Spec PyProof.Rows L2
noncomputable def SqB (K:PySem.W.Frag) (b:Bool) (H:Hp) (a:Addr) (xs:List V):Prop:=match b with
  | true => SqT K H a xs
  | false => SqL K H a xs
noncomputable def SqH (b:Bool) (h:Heap) (a:Addr) (xs:Array Value):Prop:=match b with
  | true => h.IsTuple a xs
  | false => h.IsList a xs
noncomputable def ItH (b:Bool) (h:Heap) (it a:Addr) (k:Nat):Prop:=match b with
  | true => h.IsTupleIter it a k
  | false => h.IsListIter it a k
noncomputable abbrev itObj (b:Bool) (a:Addr):Obj:={ cls:=.type (match b with | true => "tuple_iterator" | false => "list_iterator"),data:=.fields #[.ref a,.int 0 0] }
theorem SqB.mono {K:PySem.W.Frag} {b:Bool} {H H':Hp} {a:Addr} {xs:List V} (x:SqB K b H a xs) (e:Same H H'):SqB K b H' a xs:=by
  cases b
  · exact e.seq x
  · exact Same.tup e x
theorem Inv.sqB {X:Cx} {pins:List (Addr × Obj)} {σ:L2.St} {H:Hp} {s:Shared} {b:Bool} {a:Addr} {xs:List V} (I:L2.Inv X pins σ H s) (h:SqB X.K b H a xs):∃ its:List Value,Vals xs its ∧ SqH b s.heap a its.toArray:=by
  cases b
  · obtain ⟨its,r,p,_⟩:=I.list h
    exact ⟨its,r,p.isList⟩
  · obtain ⟨its,r,p,_⟩:=I.tuple h
    exact ⟨its,r,p⟩
theorem sqB_inj {X:Cx} {pins:List (Addr × Obj)} {σ:L2.St} {H:Hp} {s:Shared} {b:Bool} {a:Addr} {xs ys:List V} (I:L2.Inv X pins σ H s) (h:SqB X.K b H a xs) (h':SqB X.K b H a ys):xs = ys:=by
  cases b
  · exact I.list_inj h h'
  · exact I.tuple_inj h h'
theorem SqH.lt {b:Bool} {h:Heap} {a:Addr} {xs:Array Value} (x:SqH b h a xs):a < h.objs.size:=by
  cases b
  · obtain ⟨o,e,_⟩:=x; exact Heap.lt_size e
  · obtain ⟨o,e,_⟩:=x; exact Heap.lt_size e
theorem SqH.kept {b:Bool} {h h':Heap} {a:Addr} {xs:Array Value} (x:SqH b h a xs) (k:∀ o,h.get? a = some o → h'.get? a = some o):SqH b h' a xs:=by
  cases b
  · obtain ⟨o,e,r⟩:=x; exact ⟨o,k o e,r⟩
  · obtain ⟨o,e,r⟩:=x; exact ⟨o,k o e,r⟩
theorem ItH.kept {b:Bool} {h h':Heap} {it a:Addr} {k:Nat} (x:ItH b h it a k) (kk:∀ o,h.get? it = some o → h'.get? it = some o):ItH b h' it a k:=by
  cases b
  · obtain ⟨o,e,r⟩:=x; exact ⟨o,kk o e,r⟩
  · obtain ⟨o,e,r⟩:=x; exact ⟨o,kk o e,r⟩
theorem ItH.ob {b:Bool} {h:Heap} {it a:Addr} {k:Nat} (x:ItH b h it a k):∃ o,h.get? it = some o ∧ ∀ v,o.data ≠ .cell v:=by
  cases b
  · obtain ⟨o,e,c,d⟩:=x; exact ⟨o,e,fun v z => by rw [d] at z; cases z⟩
  · obtain ⟨o,e,c,d⟩:=x; exact ⟨o,e,fun v z => by rw [d] at z; cases z⟩
theorem drawsB {prog:Program} {w:World} {A:Around} (b:Bool) (hh:A.handled = none) (it a:Addr) (hne:a ≠ it) (xs:Array Value):Draws prog w A it [it,a] xs.size (fun i v => xs[i]? = some v) (fun i h => ItH b h it a i ∧ SqH b h a xs):=by
  cases b
  · exact Draws.list hh it a hne xs
  · exact draws_tup hh it a hne xs
theorem pyIterB {prog:Program} {w:World} {A:Around} {E:Value → Shared → Prop} {s:Shared} {b:Bool} {a:Addr} {xs:Array Value} {Q:Value → Shared → Prop} (h:SqH b s.heap a xs) (q:Q (.ref s.heap.objs.size) { s with heap:=s.heap.push (itObj b a) }):wpAny (model prog w) A (pyIter (.ref a)) Q E s:=by
  cases b
  · exact wpAny_pyIter_list h q
  · exact wpAny_pyIter_tuple h q
theorem itObj_new {b:Bool} {h:Heap} {a:Addr}:ItH b (h.push (itObj b a)) h.objs.size a 0:=by
  cases b
  · exact ⟨_,Heap.get?_push_size _ rfl,rfl,rfl⟩
  · exact ⟨_,Heap.get?_push_size _ rfl,rfl,rfl⟩
noncomputable abbrev zp1 (h:Heap) (b1:Bool) (l1:Addr):Heap:=h.push (itObj b1 l1)
noncomputable abbrev zp2 (h:Heap) (b1 b2:Bool) (l1 l2:Addr):Heap:=(zp1 h b1 l1).push (itObj b2 l2)
noncomputable abbrev zp3 (h:Heap) (b1 b2:Bool) (l1 l2:Addr):Heap:=(zp2 h b1 b2 l1 l2).push { cls:=.type "tuple",data:=.seq #[.ref h.objs.size,.ref (zp1 h b1 l1).objs.size] }
noncomputable abbrev zp4 (h:Heap) (b1 b2:Bool) (l1 l2:Addr):Heap:=(zp3 h b1 b2 l1 l2).push { cls:=.type "tuple",data:=.seq #[.none,.none] }
noncomputable abbrev zp5 (h:Heap) (b1 b2:Bool) (l1 l2:Addr):Heap:=(zp4 h b1 b2 l1 l2).push { cls:=.type "zip",data:=.fields #[.none,.bool false,.bool false,.ref (zp2 h b1 b2 l1 l2).objs.size,.ref (zp3 h b1 b2 l1 l2).objs.size] }
theorem zip_makes (b1 b2:Bool) (l1 l2:Addr) (xs ys:Array Value) :
    PySem.Meets (Builtin.«zip.__new__» ⟨[.type "zip",.ref l1,.ref l2],[]⟩) (fun _ R s => SqH b1 s.heap l1 xs ∧ SqH b2 s.heap l2 ys ∧ R (.ok (.ret (.ref (zp4 s.heap b1 b2 l1 l2).objs.size))) { s with heap:=zp5 s.heap b1 b2 l1 l2 }) :=
  .of_wp fun prog w A R s h => by
    obtain ⟨hp,g,d,tk,os⟩:=s
    obtain ⟨q1,q2,q⟩:=h
    have sub:=sub_zip
    have e1:SqH b1 (Shared.heap ⟨hp,g,d,tk,os⟩) l1 xs:=q1
    have e2:SqH b2 (Shared.heap ⟨hp.push (itObj b1 l1),g,d,tk,os⟩) l2 ys:=q2.kept fun o e => Heap.get?_push_of_some _ e
    wp_walk using pyIterB e1,pyIterB e2
    exact ⟨_,rfl,q⟩
end M
set_option Elab.async false
set_option linter.all false
set_option maxRecDepth 100000
set_option maxHeartbeats 4000000
namespace M
open PySem PySem.Spec PyProof.Rows L2
noncomputable def Itz (K:PySem.W.Frag) (b1 b2:Bool) (l1 l2:Addr):It :=
  ⟨fun i H => ∃ xs ys x y,SqB K b1 H l1 xs ∧ SqB K b2 H l2 ys ∧ xs[i]? = some x ∧ ys[i]? = some y,
   fun i H v H' => ∃ p x y,v = .ref p ∧ H p = none ∧ (∀ xs,SqB K b1 H l1 xs → xs[i]? = some x) ∧ (∀ ys,SqB K b2 H l2 ys → ys[i]? = some y) ∧ H' = upd H p (.tup [x,y]),
   fun i H => ∃ xs ys,SqB K b1 H l1 xs ∧ SqB K b2 H l2 ys ∧ i ≤ xs.length ∧ i ≤ ys.length ∧ (i = xs.length ∨ i = ys.length)⟩
noncomputable def ZipSt (b1 b2:Bool) (z tI tO i1 i2 l1 l2:Addr) (i:Nat) (h:Heap):Prop:=∃ p q,IsZip h z tI tO .none ∧ IsPair h tI (.ref i1) (.ref i2) ∧ IsPair h tO p q ∧ ItH b1 h i1 l1 i ∧ ItH b2 h i2 l2 i
theorem turn_zip {P:Program} {w:World} {K:PySem.W.Frag} {elts:List Expr} {x1:Nat} {tpos:Pos} {b1 b2:Bool} {z tI tO i1 i2 l1 l2:Addr} (ap:Apart z tI tO i1 i2 [i1,l1] [i2,l2]) (n1:l1 ≠ i1) (n2:l2 ≠ i2) :
    Turn P w K (.Tuple elts x1 tpos) (Itz K b1 b2 l1 l2) [z,tI,tO,i1,i2] z (ZipSt b1 b2 z tI tO i1 i2 l1 l2) where
  mem:=by simp
  obj:=fun i h st b hb => by
    obtain ⟨p,q,hz,hI,hO,h1,h2⟩:=st
    simp only [List.mem_cons,List.not_mem_nil,or_false] at hb
    rcases hb with rfl | rfl | rfl | rfl | rfl
    · exact ⟨_,hz,fun v e => by cases e⟩
    · exact ⟨_,hI,fun v e => by cases e⟩
    · exact ⟨_,hO,fun v e => by cases e⟩
    · exact h1.ob
    · exact h2.ob
  keep:=fun i h h' st k => by
    obtain ⟨p,q,hz,hI,hO,h1,h2⟩:=st
    exact ⟨p,q,k z (by simp) _ hz,k tI (by simp) _ hI,k tO (by simp) _ hO,h1.kept (k i1 (by simp)),h2.kept (k i2 (by simp))⟩
  item:=by
    intro X hP hw hK hc i pins s σ H E I hf st hg
    subst hP hw hK
    obtain ⟨p,q,hz,hI,hO,h1,h2⟩:=st
    obtain ⟨xs,ys,x,y,q1,q2,ex,ey⟩:=hg
    obtain ⟨us,r1,g1⟩:=Inv.sqB I q1
    obtain ⟨ws,r2,g2⟩:=Inv.sqB I q2
    have hh:X.A.in1.handled = none:=I.ok.hd hc
    have lx:i < us.toArray.size:=by
      have:=(List.getElem?_eq_some_iff.mp ex).1
      simp only [List.size_toArray,← r1.length]; exact this
    have ly:i < ws.toArray.size:=by
      have:=(List.getElem?_eq_some_iff.mp ey).1
      simp only [List.size_toArray,← r2.length]; exact this
    have hT:s.TypeIs (.ref z) "zip":=⟨_,hz,rfl⟩
    unfold pyNext
    refine wpAny_bind (wpAny_attempt (wpAny_callSpecial?_slot (name:="__next__") hT PySem.F.slot_zip_next (wpAny_call_entry PySem.F.slot_zip_next hT PySem.F.entry_zip_next (zip_turn (drawsB b1 hh i1 l1 n1 us.toArray) (drawsB b2 hh i2 l2 n2 ws.toArray) ap hz hI hO ⟨h1,g1⟩ ⟨h2,g2⟩ lx ly fun a c h' tk pa pc z' O' t1 t2 T' kp => wpAny_pure ?_) (PySem.F.args_zip_next_1 _))))
    refine ⟨_,rfl,wpAny_letOwnedTupleGo_zip z' fun h'' z'' sb => ?_⟩
    have fz:s.heap.objs.size ≠ z:=Nat.ne_of_gt (Heap.lt_size hz)
    have kp':∀ b o,b ∉ [z,tI,tO,i1,i2] → s.heap.get? b = some o → h''.get? b = some o:=fun b o hb e => by
      simp only [List.mem_cons,List.not_mem_nil,or_false,not_or] at hb
      exact sb.extBut b o hb.1 (kp b o hb.1 hb.2.2.1 hb.2.2.2.1 hb.2.2.2.2 e)
    obtain ⟨a',ea,ra⟩:=r1.get ex
    obtain ⟨c',ec,rc⟩:=r2.get ey
    have pa':a = a':=by
      have:us.toArray[i]? = some a:=pa
      simp only [List.getElem?_toArray] at this
      rw [ea] at this
      exact (Option.some.inj this).symm
    have pc':c = c':=by
      have:ws.toArray[i]? = some c:=pc
      simp only [List.getElem?_toArray] at this
      rw [ec] at this
      exact (Option.some.inj this).symm
    subst pa' pc'
    have T'':h''.get? s.heap.objs.size = some { cls:=.type "tuple",data:=.seq #[a,c] }:=sb.extBut _ _ fz T'
    have I':=inv_pair (t':=tk) I hf kp' (vs:=[x,y]) (us:=[a,c]) (.cons ra (.cons rc .nil)) (by rw [sizeLine_eq]; show 2 ≤ 16777216; decide) ⟨_,T'',rfl,_,rfl⟩
    refine ⟨.ref s.heap.objs.size,_,I',rfl,⟨_,x,y,rfl,I.fresh,fun xs' hx => by rw [sqB_inj I hx q1]; exact ex,fun ys' hy => by rw [sqB_inj I hy q2]; exact ey,rfl⟩,?_,fun b hb => ?_⟩
    · have hI':IsPair h' tI (.ref i1) (.ref i2):=kp _ _ ap.b.symm ap.c ap.ne1.2.2.2.symm ap.ne2.2.2.symm hI
      exact ⟨a,c,z'',sb.extBut _ _ ap.b.symm hI',sb.extBut _ _ ap.a.symm O',t1.1.kept fun o e => sb.extBut _ _ ap.ne1.1 e,t2.1.kept fun o e => sb.extBut _ _ ap.ne2.1 e⟩
    · have:b < s.heap.objs.size:=by
        simp only [List.mem_cons,List.not_mem_nil,or_false] at hb
        rcases hb with rfl | rfl | rfl | rfl | rfl
        · exact Heap.lt_size hz
        · exact Heap.lt_size hI
        · exact Heap.lt_size hO
        · obtain ⟨o,e,_⟩:=h1.ob; exact Heap.lt_size e
        · obtain ⟨o,e,_⟩:=h2.ob; exact Heap.lt_size e
      rw [upd_ne (Nat.ne_of_lt this)]
      exact (hf b hb).1
  done:=by
    intro X hP hw hK hc i pins s σ H E I hf st hg
    subst hP hw hK
    obtain ⟨p,q,hz,hI,hO,h1,h2⟩:=st
    obtain ⟨xs,ys,q1,q2,le1,le2,hend⟩:=hg
    obtain ⟨us,r1,g1⟩:=Inv.sqB I q1
    obtain ⟨ws,r2,g2⟩:=Inv.sqB I q2
    have hh:X.A.in1.handled = none:=I.ok.hd hc
    have hT:s.TypeIs (.ref z) "zip":=⟨_,hz,rfl⟩
    unfold pyNext
    refine wpAny_bind (wpAny_attempt (wpAny_callSpecial?_slot (name:="__next__") hT PySem.F.slot_zip_next (wpAny_call_entry PySem.F.slot_zip_next hT PySem.F.entry_zip_next (zip_over (k:=i) (drawsB b1 hh i1 l1 n1 us.toArray) (drawsB b2 hh i2 l2 n2 ws.toArray) ap hz hI hO ⟨h1,g1⟩ ⟨h2,g2⟩ (by simp only [List.size_toArray,← r1.length]; exact le1) (by simp only [List.size_toArray,← r2.length]; exact le2)
      (by simp only [List.size_toArray,← r1.length,← r2.length]; exact hend) fun h' e tk kp he => ?_) (PySem.F.args_zip_next_1 _))))
    obtain ⟨o,eo,co⟩:=he
    refine wpAny_bind (wpAny_isInstance (T:="StopIteration") (b:=true) ⟨o,eo,co⟩ isSubtype_stop (wpAny_pure ⟨rfl,?_⟩))
    exact inv_recs (t':=tk) I hf fun b o hb e => by
      simp only [List.mem_cons,List.not_mem_nil,or_false,not_or] at hb
      exact kp b o hb.1 hb.2.2.1 hb.2.2.2.1 hb.2.2.2.2 e
  self:=fun A i s Q E st h => by
    obtain ⟨p,q,hz,_⟩:=st
    exact wpAny_pyIter_zip hz h
noncomputable def pairD (xs ys:List D):List D:=(xs.zip ys).map fun p => .tup [p.1,p.2]
theorem pairD_get:∀ (xs ys:List D) (i:Nat),(pairD xs ys)[i]? = match xs[i]?,ys[i]? with
    | some x,some y => some (.tup [x,y])
    | _,_ => none
  | [],ys,i => by simp [pairD]
  | x :: xs,[],i => by
    simp only [pairD,List.zip_nil_right,List.map_nil,List.getElem?_nil]
    cases (x :: xs)[i]? <;> rfl
  | x :: xs,y :: ys,0 => rfl
  | x :: xs,y :: ys,i + 1 => by
    have:=pairD_get xs ys i
    simpa [pairD] using this
theorem pairD_len (xs ys:List D):(pairD xs ys).length = min xs.length ys.length:=by simp [pairD]
theorem walk_zip {K:PySem.W.Frag} {F:Hp} {α:List Addr} {b1 b2:Bool} {l1 l2:Addr} {xs ys:List D} {us vs:List V} (h1:SqB K b1 F l1 us) (r1:Reps K F α xs us) (h2:SqB K b2 F l2 vs) (r2:Reps K F α ys vs):WalkOk K α F (Itz K b1 b2 l1 l2) (pairD xs ys):=by
  intro Z α' F' H' μ' R e i
  have g1:SqB K b1 H' l1 us:=h1.mono (e.fr.trans R.sub)
  have g2:SqB K b2 H' l2 vs:=h2.mono (e.fr.trans R.sub)
  have e1:=r1.length
  have e2:=r2.length
  rw [pairD_len]
  refine ⟨fun hi => ?_,fun hi => ⟨us,vs,g1,g2,by omega,by omega,by omega⟩⟩
  obtain ⟨u,a1,a2⟩:=r1.get (List.getElem?_eq_getElem (show i < xs.length by omega))
  obtain ⟨v,c1,c2⟩:=r2.get (List.getElem?_eq_getElem (show i < ys.length by omega))
  refine ⟨⟨us,vs,u,v,g1,g2,a1,c1⟩,fun x H2 y => ?_⟩
  obtain ⟨p,x',y',rfl,hp,m1,m2,rfl⟩:=y
  have k1:=m1 us g1
  rw [a1] at k1
  cases k1
  have k2:=m2 vs g2
  rw [c1] at k2
  cases k2
  obtain ⟨R2,s2,p2⟩:=lay_tup R (reps_cons (a2.mono e) (reps_cons (c2.mono e) reps_nil)) hp
  refine ⟨_,_,?_,R2,s2,p2⟩
  rw [pairD_get,List.getElem?_eq_getElem (show i < xs.length by omega),List.getElem?_eq_getElem (show i < ys.length by omega)]
theorem apart_new (n l1 l2:Nat) (h1:l1 < n) (h2:l2 < n):Apart (n + 4) (n + 2) (n + 3) n (n + 1) [n,l1] [n + 1,l2]:=by
  have nat:∀ {a b:Nat},a ≠ b → @Ne Addr a b:=fun h => h
  constructor
  · exact nat (by omega)
  · exact nat (by omega)
  · exact nat (by omega)
  all_goals first
    | exact List.mem_cons_self
    | (refine List.not_mem_cons_of_ne_of_not_mem (nat (by omega)) (List.not_mem_cons_of_ne_of_not_mem (nat (by omega)) List.not_mem_nil))
theorem ne_succ_of {n l:Nat} (h:l < n):@Ne Addr l (n + 1):=fun e => by
  have e':l = n + 1:=e
  omega
noncomputable def asSq (b:Bool) (d:D):Option (List D):=match b,d with
  | true,.tup xs => some xs
  | false,.lst xs => some xs
  | _,_ => none
noncomputable def mZip (b1 b2:Bool) (ma mb:MX):MIt:=fun ρ μ => (ma ρ μ).bind fun x μ1 => (mb ρ μ1).bind fun y μ2 => ofO μ2 ((asSq b1 x).bind fun xs => (asSq b2 y).map fun ys => pairD xs ys)
theorem asSq_rep {K:PySem.W.Frag} {F:Hp} {α:List Addr} {b:Bool} {d:D} {v:V} {xs:List D} (h:asSq b d = some xs) (r:Rep K F α d v):∃ a vs,v = .ref a ∧ SqB K b F a vs ∧ Reps K F α xs vs:=by
  cases b <;> cases d <;> first | (cases h; done) | skip
  · cases h
    unfold Rep at r
    exact r
  · cases h
    unfold Rep at r
    exact r
section
variable {X:Cx} {EX:EXT} {a b:Expr} {pos p tpos:Pos} {ma mb:MX} {elts:List Expr} {x1:Nat}
theorem mi_zip (b1 b2:Bool) (hg:Gl X "zip") (hm:X.mg "zip" = none) (ha:ME X EX a ma) (hb:ME X EX b mb) (hs:starEach [a,b] X.env = [(false,eval a X.env),(false,eval b X.env)]:=by rfl) (hs2:starEach [b] X.env = [(false,eval b X.env)]:=by rfl) :
    MI X EX (.Tuple elts x1 tpos) (.Call (.Name "zip" p) [a,b] [] pos) (mZip b1 b2 ma mb):=by
  obtain ⟨t,pt,st,lt⟩:=ma_cons ha (ma_cons hb ma_nil hs2) (by rw [hs,hs2])
  refine ⟨fun σ H R => ∀ pins s,Inv X pins σ H s → wpAny (model X.prog X.w) X.A (eval (.Call (.Name "zip" p) [a,b] [] pos) X.env) (fun v s1 => wpAny (model X.prog X.w) X.A (pyIter v) (PIE X pins σ (.Tuple elts x1 tpos) R) X.xe s1) X.xe s,fun pins s σ H R I h => h pins s I,fun Z α F H σ ρ μ Rr R g pins s I => ?_⟩
  have hw:t σ H fun vs H1 => ∃ x y α1 F1 μ1 xs ys,RH X.K Z α1 F1 H1 μ1 ∧ Ext α F α1 F1 ∧ Reps X.K F1 α1 [x,y] vs ∧ asSq b1 x = some xs ∧ asSq b2 y = some ys ∧ (∀ J α' F' H',RH X.K Z α' F' H' μ1 → Ext α F α' F' → WalkOk X.K α' F' J (pairD xs ys) → Rr J H'):=by
    refine st Z α F H σ ρ μ _ R ?_
    unfold mZip at g
    unfold mCons
    cases h1:ma ρ μ with
    | exc x μ1 => rw [h1] at g; exact g
    | bad => rw [h1] at g; exact g
    | ok x μ1 =>
      rw [h1] at g
      simp only [bind_ok] at g ⊢
      cases h2:mb ρ μ1 with
      | exc x μ1 => rw [h2] at g; exact g
      | bad => rw [h2] at g; exact g
      | ok y μ2 =>
        rw [h2] at g
        simp only [bind_ok,mNil] at g ⊢
        intro vs α1 F1 H1 R1 e1 r1
        cases q1:asSq b1 x with
        | none => rw [q1] at g; exact g.elim
        | some xs =>
          cases q2:asSq b2 y with
          | none => rw [q1,q2] at g; exact g.elim
          | some ys =>
            rw [q1,q2] at g
            exact ⟨x,y,α1,F1,μ2,xs,ys,R1,e1,r1,q1,q2,g⟩
  refine Call_ (ld_blt I hg hm PyProof.Rows.boot_zip (PyProof.Rows.callWith_type1 (thn (pt pos pins s σ H _ I hw) fun us s1 ⟨vs,H1,I1,rr,q⟩ => ?_) (by rw [hs,hs2]) (by rw [hs2]; rfl)))
  obtain ⟨x,y,α1,F1,μ1,xs,ys,R1,e1,r1,q1,q2,fin⟩:=q
  obtain ⟨v,u,rfl,p1,p2⟩:=r1.two
  obtain ⟨u1,u2,rfl,rv,ru⟩:=vals2 rr
  obtain ⟨l1,v1,rfl,g1,h1⟩:=asSq_rep q1 p1
  obtain ⟨l2,v2,rfl,g2,h2⟩:=asSq_rep q2 p2
  cases rv
  cases ru
  obtain ⟨w1,k1,z1⟩:=Inv.sqB I1 (g1.mono R1.sub)
  obtain ⟨w2,k2,z2⟩:=Inv.sqB I1 (g2.mono R1.sub)
  refine callType_new PySem.F.called_zip (by decide) (PySem.F.typeCall_zip_2 _ _) (PySem.F.newCall_zip_2 _ _) (fun obj => PySem.F.args_object_init_3 obj _ _) PySem.F.entry_zip_new (zip_makes b1 b2 l1 l2 w1.toArray w2.toArray) ⟨z1,z2,?_⟩
  have n1:(zp1 s1.heap b1 l1).objs.size = s1.heap.objs.size + 1:=Heap.size_push ..
  have n2:(zp2 s1.heap b1 b2 l1 l2).objs.size = s1.heap.objs.size + 2:=by rw [Heap.size_push,n1]
  have n3:(zp3 s1.heap b1 b2 l1 l2).objs.size = s1.heap.objs.size + 3:=by rw [Heap.size_push,n2]
  have n4:(zp4 s1.heap b1 b2 l1 l2).objs.size = s1.heap.objs.size + 4:=by rw [Heap.size_push,n3]
  have kp:∀ c o,s1.heap.get? c = some o → (zp5 s1.heap b1 b2 l1 l2).get? c = some o:=fun c o e => Heap.get?_push_of_some _ (Heap.get?_push_of_some _ (Heap.get?_push_of_some _ (Heap.get?_push_of_some _ (Heap.get?_push_of_some _ e))))
  have c5:(zp5 s1.heap b1 b2 l1 l2).get? (zp4 s1.heap b1 b2 l1 l2).objs.size = some _:=Heap.get?_push_size _ rfl
  have c4:(zp5 s1.heap b1 b2 l1 l2).get? (zp3 s1.heap b1 b2 l1 l2).objs.size = some _:=Heap.get?_push_of_some _ (Heap.get?_push_size _ rfl)
  have c3:(zp5 s1.heap b1 b2 l1 l2).get? (zp2 s1.heap b1 b2 l1 l2).objs.size = some _:=Heap.get?_push_of_some _ (Heap.get?_push_of_some _ (Heap.get?_push_size _ rfl))
  have t2:ItH b2 (zp5 s1.heap b1 b2 l1 l2) (zp1 s1.heap b1 l1).objs.size l2 0:=(itObj_new (h:=zp1 s1.heap b1 l1)).kept fun o e => Heap.get?_push_of_some _ (Heap.get?_push_of_some _ (Heap.get?_push_of_some _ e))
  have t1:ItH b1 (zp5 s1.heap b1 b2 l1 l2) s1.heap.objs.size l1 0:=(itObj_new (h:=s1.heap)).kept fun o e => Heap.get?_push_of_some _ (Heap.get?_push_of_some _ (Heap.get?_push_of_some _ (Heap.get?_push_of_some _ e)))
  rw [n1] at t2 c3
  rw [n2] at c3
  rw [n3] at c4
  rw [n2,n3,n4] at c5
  have a1:=z1.lt
  have a2:=z2.lt
  show _ ∧ _
  rw [n4]
  refine ⟨⟨_,c5,rfl⟩,?_⟩
  refine wpAny_pyIter_zip (s:={ s1 with heap:=zp5 s1.heap b1 b2 l1 l2 }) c5 ?_
  have ap:=apart_new s1.heap.objs.size l1 l2 a1 a2
  have I5:Inv X pins σ H1 { s1 with heap:=zp5 s1.heap b1 b2 l1 l2 }:=I1.kept (t':=s1.toks) kp
  refine ⟨s1.heap.objs.size + 4,_,_,Itz X.K b1 b2 l1 l2,H1,rfl,I5,turn_zip ap (Nat.ne_of_lt a1) (ne_succ_of a2),⟨_,_,c5,c3,c4,t1,t2⟩,fun b hb => ?_,fin _ α1 F1 H1 R1 e1 (walk_zip g1 h1 g2 h2)⟩
  have hb':s1.heap.objs.size ≤ b:=by
    simp only [List.mem_cons,List.not_mem_nil,or_false] at hb
    rcases hb with rfl | rfl | rfl | rfl | rfl
    · exact Nat.le_add_right _ _
    · exact Nat.le_add_right _ _
    · exact Nat.le_add_right _ _
    · exact Nat.le_refl _
    · exact Nat.le_add_right _ _
  exact I1.fpOk hb' (I1.hok.fresh hb')
end
end M
set_option Elab.async false
set_option linter.all false
set_option maxRecDepth 100000
set_option maxHeartbeats 4000000
namespace M
open PySem PySem.Spec PyProof.Rows L2
noncomputable abbrev MGs:=List D → En → Option En
noncomputable def gsNil:MGs:=fun ds ρ => match ds with
  | [] => some ρ
  | _ => none
noncomputable def gsCons (g:MG) (gs:MGs):MGs:=fun ds ρ => match ds with
  | d :: r => (g d ρ).bind (gs r)
  | [] => none
noncomputable def gTupT (gs:MGs):MG:=fun d ρ => match d with
  | .tup ds => gs ds ρ
  | _ => none
noncomputable def MTgs (X:Cx) (es:List Expr) (n:Nat) (mg:MGs):Prop:=∃ g:TGs,PGs X es g ∧ (∀ ds ρ ρ',mg ds ρ = some ρ' → ds.length = n) ∧ ∀ Z α F H σ ρ μ vs ds ρ' Q,RS X.K Z α F H σ ρ μ → Reps X.K F α ds vs → mg ds ρ = some ρ' → (∀ σ',RS X.K Z α F H σ' ρ' μ → Q σ' H) → g vs σ H Q
section
variable {X:Cx} {EX:EXT} {e a b c:Expr} {pos:Pos} {m ma mb mc:MX} {es:List Expr}
theorem mts_nil:MTgs X [] 0 gsNil:=by
  refine ⟨gNil,pgs_nil,fun ds ρ ρ' h => ?_,fun Z α F H σ ρ μ vs ds ρ' Q R r h k => ?_⟩
  · cases ds with
    | nil => rfl
    | cons _ _ => cases h
  · cases ds with
    | nil =>
      have:=r.length
      cases vs with
      | nil => cases h; exact ⟨rfl,k σ R⟩
      | cons _ _ => simp at this
    | cons _ _ => cases h
theorem mts_cons {n:Nat} {g:MG} {gs:MGs} (h1:MTg X e g) (h2:MTgs X es n gs) (hs:(assignEach (e :: es) X.env).map (·.2) = assign e X.env :: (assignEach es X.env).map (·.2):=by rfl):MTgs X (e :: es) (n + 1) (gsCons g gs):=by
  obtain ⟨t,p,s⟩:=h1
  obtain ⟨ts,ps,hn,ss⟩:=h2
  refine ⟨_,pgs_cons p ps hs,fun ds ρ ρ' h => ?_,fun Z α F H σ ρ μ vs ds ρ' Q R r h k => ?_⟩
  · cases ds with
    | nil => cases h
    | cons d r =>
      simp only [gsCons,Option.bind_eq_some_iff] at h
      obtain ⟨ρ1,_,h2⟩:=h
      simp [hn _ _ _ h2]
  · cases ds with
    | nil => cases h
    | cons d dr =>
      simp only [gsCons,Option.bind_eq_some_iff] at h
      obtain ⟨ρ1,h1,h2⟩:=h
      unfold Reps at r
      obtain ⟨v,vr,rfl,r1,r2⟩:=r
      exact ⟨v,vr,rfl,s Z α F H σ ρ μ v d ρ1 _ R r1 h1 fun σ' R' => ss Z α F H σ' ρ1 μ vr dr ρ' Q R' r2 h2 k⟩
theorem mt_tup {x1 n:Nat} {gs:MGs} (hc:X.calm = true) (h:MTgs X es n gs) (hn:(assignEach es X.env).length = n:=by rfl) (hst:(assignEach es X.env).findIdx? (·.1) = none:=by rfl):MTg X (.Tuple es x1 pos) (gTupT gs):=by
  obtain ⟨ts,ps,hl,ss⟩:=h
  refine ⟨_,pg_tup hc ps hn hst,fun Z α F H σ ρ μ v d ρ' Q R r h k => ?_⟩
  cases d with
  | tup ds =>
    unfold Rep at r
    obtain ⟨p,vs,rfl,hs,hr⟩:=r
    exact ⟨p,vs,rfl,Same.tup R.hp.sub hs,by rw [← hr.length]; exact hl _ _ _ h,ss Z α F H σ ρ μ vs ds ρ' Q R hr h k⟩
  | _ => cases h
noncomputable abbrev MOp:=En → Mu → Res (Option Int)
noncomputable def mNoP:MOp:=fun _ μ => .ok none μ
noncomputable def mPart (m:MX):MOp:=fun ρ μ => (m ρ μ).bind fun d μ1 => match d with
  | .int i => .ok (some i) μ1
  | _ => .bad
noncomputable def GO (K:PySem.W.Frag) (EX:EXT) (Z:ZS) (α:List Addr) (F:Hp) (Q:Option Int → Hp → Prop):Res (Option Int) → Prop
  | .ok o μ => ∀ α' F' H',RH K Z α' F' H' μ → Ext α F α' F' → Q o H'
  | .exc x μ => EX.P Z x μ
  | .bad => False
theorem GO.step {K:PySem.W.Frag} {Z:ZS} {α:List Addr} {F:Hp} {r:Res (Option Int)} {β:Type} {f:Option Int → Mu → Res β} {G:Res β → Prop} {Q:Option Int → Hp → Prop} (h:G (r.bind f)) (hx:∀ x μ,G (.exc x μ) → EX.P Z x μ) (hb:¬ G .bad)
    (hk:∀ d μ' α' F' H',RH K Z α' F' H' μ' → Ext α F α' F' → G (f d μ') → Q d H'):GO K EX Z α F Q r:=by
  cases r with
  | ok d μ => exact fun α' F' H' R e => hk d μ α' F' H' R e h
  | exc x μ => exact hx _ _ h
  | bad => exact hb h
noncomputable def MPt (X:Cx) (EX:EXT) (o:Option Expr) (mo:MOp):Prop:=∃ t:TO,PO X o t ∧ ∀ Z α F H σ ρ μ Q,RS X.K Z α F H σ ρ μ → GO X.K EX Z α F Q (mo ρ μ) → t σ H Q
theorem mp_none:MPt X EX none mNoP:=⟨_,po_none,fun Z α F H σ ρ μ Q R g => g α F H R.hp (Ext.refl _ _)⟩
theorem mp_some (h:ME X EX e m):MPt X EX (some e) (mPart m):=by
  obtain ⟨t,p,s⟩:=h
  refine ⟨_,po_some p,fun Z α F H σ ρ μ Q R g => ?_⟩
  refine s Z α F H σ ρ μ _ R (GE.step (G:=GO X.K EX Z α F Q) g (fun _ _ h => h) (fun h => h) fun d μ1 v α1 F1 H1 R1 e1 p1 g1 => ?_)
  cases d with
  | int i => unfold Rep at p1; exact ⟨i,p1,g1 α1 F1 H1 R1 e1⟩
  | _ => exact g1.elim
noncomputable def cutD (xs:List D) (lo hi:Option Int):List D:=(xs.drop (HT.sIx xs.length 0 lo)).take (HT.sIx xs.length xs.length hi - HT.sIx xs.length 0 lo)
noncomputable def gSl (d:D) (lo hi:Option Int):Option D:=match d with
  | .tup xs => if HT.sIx xs.length 0 lo = 0 ∧ HT.sIx xs.length xs.length hi = xs.length then none else some (.tup (cutD xs lo hi))
  | .lst xs => some (.lst (cutD xs lo hi))
  | _ => none
noncomputable def mSl (m:MX) (lo hi:MOp):MX:=fun ρ μ => (m ρ μ).bind fun d μ1 => (lo ρ μ1).bind fun l μ2 => (hi ρ μ2).bind fun h μ3 => ofO μ3 (gSl (deref μ3 d) l h)
theorem reps_cut {K:PySem.W.Frag} {F:Hp} {α:List Addr} {ds:List D} {vs:List V} {lo hi:Option Int} (h:Reps K F α ds vs):Reps K F α (cutD ds lo hi) (cutV vs lo hi):=by
  unfold cutD cutV
  rw [h.length]
  exact Reps.take _ (Reps.drop _ h)
theorem me_slice {lo hi:Option Expr} {l h:MOp} {p2:Pos} (ha:ME X EX a ma) (hl:MPt X EX lo l) (hh:MPt X EX hi h):ME X EX (.Subscript a (.Slice lo hi none p2) pos) (mSl ma l h):=by
  obtain ⟨ta,pa,sa⟩:=ha
  obtain ⟨tl,pl,sl⟩:=hl
  obtain ⟨th,ph,sh⟩:=hh
  refine ⟨_,pe_slice (SlR.or sl_tup sl_list) pa pl ph,fun Z α F H σ ρ μ Q R g => ?_⟩
  refine sa Z α F H σ ρ μ _ R (GE.step (G:=GE X.K EX Z α F Q) g (fun _ _ h => h) (fun h => h) fun d μ1 v α1 F1 H1 R1 e1 p1 g1 => ?_)
  refine sl Z α1 F1 H1 σ ρ μ1 _ (R.to R1 e1) (GO.step (G:=GE X.K EX Z α F Q) g1 (fun _ _ h => h) (fun h => h) fun l μ2 α2 F2 H2 R2 e2 g2 => ?_)
  refine sh Z α2 F2 H2 σ ρ μ2 _ (R.to R2 (e1.trans e2)) (GO.step (G:=GE X.K EX Z α F Q) g2 (fun _ _ h => h) (fun h => h) fun h μ3 α3 F3 H3 R3 e3 g3 => ?_)
  have p3:=R3.pk ((p1.mono e2).mono e3)
  cases hd:deref μ3 d with
  | tup xs =>
    rw [hd] at p3 g3
    unfold Pk Rep at p3
    obtain ⟨q,vs,rfl,hs,hr⟩:=p3
    simp only [gSl] at g3
    split at g3
    · exact g3.elim
    · rename_i hw
      refine .inl ⟨q,vs,rfl,Same.tup R3.sub hs,by rw [← hr.length]; exact hw,fun p hp => ?_⟩
      obtain ⟨a1,a2,a3⟩:=lay_tup R3 (reps_cut (lo:=l) (hi:=h) hr) hp
      exact g3 _ _ _ _ a1 (e1.trans (e2.trans (e3.trans ⟨a2,fun _ _ h => h⟩))) a3
  | lst xs =>
    rw [hd] at p3 g3
    obtain ⟨q,vs,rfl,hs,hr⟩:=p3
    refine .inr ⟨q,vs,rfl,hs,fun p hp => ?_⟩
    obtain ⟨a1,a2,a3⟩:=lay_lst R3 (reps_cut (lo:=l) (hi:=h) hr) hp
    exact g3 _ _ _ _ a1 (e1.trans (e2.trans (e3.trans ⟨a2,fun _ _ h => h⟩))) a3
  | _ => rw [hd] at g3; exact g3.elim
noncomputable def gListC:GL:=fun ds => match ds with
  | [.lst xs] => some (.lst xs)
  | [.tup xs] => some (.lst xs)
  | _ => none
theorem cm_list:CallM X (.type "list") gListC:=by
  refine ⟨_,call_list_of,fun Z α F H μ ds c vs Q R hp hg k => ?_⟩
  match ds,hg with
  | [.lst xs],hg =>
    obtain ⟨v,r,rfl,⟨q,us,rfl,hs,hr⟩,hq⟩:=hp
    have hq:r = []:=hq
    subst hq
    cases hg
    refine ⟨q,us,rfl,.inl hs,fun p hp => ?_⟩
    obtain ⟨a1,a2,a3⟩:=lay_lst R hr hp
    exact k _ _ _ a1 a2 a3
  | [.tup xs],hg =>
    obtain ⟨v,r,rfl,hv,hq⟩:=hp
    have hq:r = []:=hq
    subst hq
    unfold Pk Rep at hv
    obtain ⟨q,us,rfl,hs,hr⟩:=hv
    cases hg
    refine ⟨q,us,rfl,.inr (Same.tup R.sub hs),fun p hp => ?_⟩
    obtain ⟨a1,a2,a3⟩:=lay_lst R hr hp
    exact k _ _ _ a1 a2 a3
noncomputable def blsOf:List D → Option (List Bool)
  | [] => some []
  | .bl b :: r => (blsOf r).map (b :: ·)
  | _ => none
noncomputable def gAll:GL:=fun ds => match ds with
  | [.lst xs] => (blsOf xs).map fun bs => .bl (bs.all id)
  | _ => none
theorem reps_bls {K:PySem.W.Frag} {F:Hp} {α:List Addr}:∀ {ds:List D} {vs:List V} {bs:List Bool},Reps K F α ds vs → blsOf ds = some bs → vs = bs.map V.bl
  | [],vs,bs,h,e => by
    cases e
    have:=h.length
    cases vs with
    | nil => rfl
    | cons _ _ => simp at this
  | d :: ds,vs,bs,h,e => by
    unfold Reps at h
    obtain ⟨v,vr,rfl,h1,h2⟩:=h
    cases d with
    | bl b =>
      simp only [blsOf,Option.map_eq_some_iff] at e
      obtain ⟨br,e1,rfl⟩:=e
      unfold Rep at h1
      rw [h1,reps_bls h2 e1]
      rfl
    | _ => cases e
theorem vals_bls:∀ {bs:List Bool} {us:List Value},Vals (bs.map V.bl) us → us = bs.map Value.bool
  | [],us,h => by cases h; rfl
  | b :: bs,us,h => by
    cases h with
    | cons r rr =>
      have r:_ = Value.bool b:=r
      rw [r,vals_bls rr]
      rfl
theorem rng_all (bs:List Bool):((List.range bs.length).all fun i => (bs[i]?).getD true) = bs.all id:=by
  induction bs with
  | nil => rfl
  | cons b r ih => rw [List.length_cons,List.range_succ_eq_map,List.all_cons,List.all_map,List.all_cons,← ih]; rfl
theorem iter_kept {h h':Heap} {o:Obj} (hk:∀ b x,b ∉ [h.objs.size] → (h.push o).get? b = some x → h'.get? b = some x) (b:Addr) (x:Obj) (e:h.get? b = some x):h'.get? b = some x:=by
  refine hk b x (fun z => ?_) (Heap.get?_push_of_some _ e)
  have z2:=List.mem_singleton.mp z
  have z3:=Heap.lt_size e
  rw [z2] at z3
  exact absurd z3 (Nat.lt_irrefl _)
theorem call_allR (hc:X.calm = true):CallR X (.builtin "all") (fun xs H Q => ∃ (p:Addr) (bs:List Bool),xs = [.ref p] ∧ SqL X.K H p (bs.map V.bl) ∧ Q (.bl (bs.all id)) H):=by
  intro pins s σ H xs us Q I r h
  obtain ⟨p,bs,rfl,hq,q⟩:=h
  obtain ⟨u,rfl,rx⟩:=vals1 r
  cases rx
  obtain ⟨its,r',pl,hz⟩:=I.list hq
  obtain rfl:=vals_bls r'
  have hl:=pl.isList
  have hlt:p < s.heap.objs.size:=by obtain ⟨_,e,_⟩:=hl; exact Heap.lt_size e
  refine call_all_walk (wpAny_pyIter_list hl ⟨_,[_,p],[_],_,_,_,fun i => (bs[i]?).getD true,rfl,Walks.list (A:=X.A.in1) (I.ok.hd hc) _ p (Nat.ne_of_lt hlt) _,⟨⟨_,Heap.get?_push_size _ rfl,rfl,rfl⟩,hl.push _⟩,?_,?_⟩)
  · intro i v s' Q' E' hP hQ
    simp only [List.getElem?_toArray,List.getElem?_map,Option.map_eq_some_iff] at hP
    obtain ⟨b,e,rfl⟩:=hP
    simp only [e,Option.getD_some] at hQ
    exact wpAny_truthy_bool hQ
  · intro h' tk hk
    rw [List.size_toArray,List.length_map,rng_all]
    exact ⟨.bl _,H,I.kept (t':=tk) (iter_kept hk),rfl,q⟩
theorem cm_all (hc:X.calm = true):CallM X (.builtin "all") gAll:=by
  refine ⟨_,call_allR hc,fun Z α F H μ ds c vs Q R hp hg k => ?_⟩
  match ds,hg with
  | [.lst xs],hg =>
    obtain ⟨v,r,rfl,⟨q,us,rfl,hs,hr⟩,hq⟩:=hp
    have hq:r = []:=hq
    subst hq
    simp only [gAll,Option.map_eq_some_iff] at hg
    obtain ⟨bs,e,rfl⟩:=hg
    exact ⟨q,bs,rfl,by rw [← reps_bls hr e]; exact hs,k _ F H R (Same.refl _) (rep_bl _)⟩
end
end M
set_option Elab.async false
set_option linter.all false
set_option maxRecDepth 100000
set_option maxHeartbeats 4000000
namespace M
open PySem PySem.Spec PyProof.Rows L2
section
variable {X:Cx} {EX:EXT} {e a b c f:Expr} {pos:Pos} {m ma mb mc:MX} {es:List Expr}
noncomputable def DictAt (w:World) (K:PySem.W.Frag) (mg:Str → Option Value) (x:Str) (ks:List DK) (ds:List D):Prop :=
  ∃ p us vs,mg x = some (.ref p) ∧ (p == sysModules) = false ∧ (∀ (P:Program) (h:Heap),K.In h → h.DictOf (mixKind P w) p us) ∧ KV ((ks.map dk).zip vs) us ∧ ks.length = ds.length ∧ ∀ F α,Reps K F α ds vs
variable {x:Str} {ks:List DK} {ds:List D}
theorem me_cdget {p:Pos} (c:DictAt X.w X.K X.mg x ks ds) (hg:Gl X x) (hb:ME X EX b mb) (hs:NoSl b) (hd:(x == ("__debug__":Str)) = false:=by decide):ME X EX (.Subscript (.Name x p) b pos) (mBin gDGet (mC (.dic ks ds)) mb):=by
  obtain ⟨q,us,vs,h1,h2,h3,h4,h5,h6⟩:=c
  obtain ⟨tb,pb,sb⟩:=hb
  refine ⟨fun σ H Q => tb σ H fun y H1 => ∃ k v,y = kV k ∧ valV ((ks.map dk).zip vs) k = some v ∧ Q v H1,fun pins s σ H Q I h => ?_,fun Z α F H σ ρ μ Q R g => ?_⟩
  · refine subD_of PySem.F.slot_dict_getitem.lookup hs (ld_glob I hg h1 (thn (pb pins s σ H _ I h) fun iv s2 ⟨y,H2,I2,ry,k,v,ey,hv,q2⟩ => ?_) hd)
    have dd:=h3 X.prog _ I2.kIn
    refine ⟨dd.typeIs,?_⟩
    subst ey
    obtain ⟨w',hw,rw'⟩:=RelO.some_of (v:=v) (o:=valueAt us k) (by rw [← hv]; exact h4.val k)
    exact wpAny_getItem_of (kV_is ry) dd.mapOf hw ⟨v,H2,I2.tok _,rw',q2⟩
  · refine sb Z α F H σ ρ μ _ R (GE.step (G:=GE X.K EX Z α F Q) (show GE X.K EX Z α F Q ((mb ρ μ).bind fun d μ1 => ofO μ1 (gDGet (deref μ1 (.dic ks ds)) (deref μ1 d))) from g) (fun _ _ h => h) (fun h => h) fun d μ1 v α1 F1 H1 R1 e1 p1 g1 => ?_)
    simp only [deref_dic,gDGet] at g1
    cases hk:keyD (deref μ1 d) with
    | none => rw [hk] at g1; exact g1.elim
    | some kk =>
      rw [hk] at g1
      have hy:=key_pk (R1.pk p1) hk
      rcases look_val (k:=kk) (h6 F1 α1) h5 with ⟨d',v',l1,l2,l3⟩ | ⟨l1,l2⟩
      · have g1:GE X.K EX Z α F Q (ofO μ1 (lookK ks ds kk)):=g1
        rw [l1] at g1
        exact ⟨_,v',hy,l2,g1 v' α1 F1 H1 R1 e1 l3⟩
      · have g1:GE X.K EX Z α F Q (ofO μ1 (lookK ks ds kk)):=g1
        rw [l1] at g1
        exact g1.elim
noncomputable def tCIn (neg:Bool) (kvs:List (Key × V)) (ta:TE):TE:=fun σ H Q => ta σ H fun y H1 => ∃ k,y = kV k ∧ Q (.bl (if neg then !(valV kvs k).isSome else (valV kvs k).isSome)) H1
theorem good_cin {neg:Bool} {ta:TE} {vs:List V} (h5:ks.length = ds.length) (h6:∀ F α,Reps X.K F α ds vs) (sa:Good X EX ta ma):Good X EX (tCIn neg ((ks.map dk).zip vs) ta) (mBin (gDIn neg) ma (mC (.dic ks ds))):=by
  intro Z α F H σ ρ μ Q R g
  refine sa Z α F H σ ρ μ _ R (GE.step (G:=GE X.K EX Z α F Q) (show GE X.K EX Z α F Q ((ma ρ μ).bind fun d μ1 => ofO μ1 (gDIn neg (deref μ1 d) (deref μ1 (.dic ks ds)))) from g) (fun _ _ h => h) (fun h => h) fun d μ1 v α1 F1 H1 R1 e1 p1 g1 => ?_)
  simp only [deref_dic,gDIn] at g1
  cases hk:keyD (deref μ1 d) with
  | none => rw [hk] at g1; exact g1.elim
  | some kk =>
    rw [hk] at g1
    have hy:=key_pk (R1.pk p1) hk
    refine ⟨_,hy,?_⟩
    have g1:GE X.K EX Z α F Q (.ok (.bl (if neg = true then !(lookK ks ds kk).isSome else (lookK ks ds kk).isSome)) μ1):=g1
    rcases look_val (k:=kk) (h6 F1 α1) h5 with ⟨d',v',l1,l2,l3⟩ | ⟨l1,l2⟩
    · rw [l1] at g1
      rw [l2]
      exact g1 _ α1 F1 H1 R1 e1 (rep_bl _)
    · rw [l1] at g1
      rw [l2]
      exact g1 _ α1 F1 H1 R1 e1 (rep_bl _)
theorem pc_cnin {p:Pos} {ta:TE} {q:Addr} {us:List (Key × Value)} {vs:List V} (h1:X.mg x = some (.ref q)) (h2:(q == sysModules) = false) (h3:∀ (P:Program) (h:Heap),X.K.In h → h.DictOf (mixKind P X.w) q us) (h4:KV ((ks.map dk).zip vs) us) (hg:Gl X x) (hd:(x == ("__debug__":Str)) = false)
    (pa:PE X a ta):PC X .NotIn a (.Name x p) (tCIn true ((ks.map dk).zip vs) ta):=by
  intro pins s σ H Q I h
  refine thn (pa pins s σ H _ I h) fun iv s1 ⟨y,H1,I1,ry,k,ey,q1⟩ => ld_glob I1 hg h1 ?_ hd
  subst ey
  have dd:=h3 X.prog _ I1.kIn
  refine wpAny_notIn_of (kV_is ry) h2 dd.mapOf ?_
  rw [← (h4.val k).isSome_eq]
  exact ⟨.bl (!(valV ((ks.map dk).zip vs) k).isSome),H1,I1.tok _,rfl,q1⟩
theorem mt_cdnotin {p:Pos} (c:DictAt X.w X.K X.mg x ks ds) (hg:Gl X x) (ha:ME X EX a ma) (hd:(x == ("__debug__":Str)) = false:=by decide):MT X EX (.Compare a [.NotIn] [.Name x p] pos) (mTest (mBin (gDIn true) ma (mC (.dic ks ds)))):=by
  obtain ⟨q,us,vs,h1,h2,h3,h4,h5,h6⟩:=c
  obtain ⟨ta,pa,sa⟩:=ha
  exact ⟨_,pt_cmp (pc_cnin h1 h2 h3 h4 hg hd pa) rfl,good_test (good_cin h5 h6 sa)⟩
structure Cb (X:Cx) (N G:List Str):Prop where
  hN:X.N = N
  nd:N.Nodup
  vis:∀ x ∈ N,Vis X.env.scope x ∧ (x == ("__debug__":Str)) = false ∧ (x == ("__classdict__":Str)) = false
  gl:∀ x ∈ G,Gl X x
  calm:X.calm = true
  un:X.A.units + 200 < cLine
  kn:X.kn = none
end
section
variable {X:Cx} {EX:EXT} {N G:List Str}
theorem Cb.at (C:Cb X N G) {i:Nat} {x:Str} (h:N[i]? = some x):X.N[i]? = some x:=by rw [C.hN]; exact h
theorem Cb.ndX (C:Cb X N G):X.nd:=⟨by rw [C.hN]; exact C.nd,C.kn⟩
theorem Cb.g (C:Cb X N G) (j:Nat) {x:Str} (h:G[j]? = some x):Gl X x:=C.gl x (mem_at h)
theorem svb (C:Cb X N G) (i:Nat) {x:Str} {pos:Pos} (h:N[i]? = some x):ME X EX (.Name x pos) (mVar i) :=
  me_var (C.at h) (C.vis x (mem_at h)).1 (C.vis x (mem_at h)).2.1 (C.vis x (mem_at h)).2.2
theorem stb (C:Cb X N G) (i:Nat) {x:Str} {pos:Pos} (h:N[i]? = some x) (hl:X.env.scope.names.lookup x = some .local):MTg X (.Name x pos) (gN i):=mt_name C.ndX (C.at h) (.inl hl) (.inr hl)
theorem relabel_of {env:Env} {scope:Scope} {x:Str} {k:NameKind} (hk:k ≠ .free) (h:scope.names.lookup x = some k):(relabel scope env).names.lookup x = some k:=by
  unfold relabel
  generalize scope.names = l at h
  simp only
  induction l with
  | nil => cases h
  | cons p r ih =>
    obtain ⟨n,q⟩:=p
    rw [List.lookup_cons] at h
    simp only [List.map_cons]
    by_cases e:(x == n) = true
    · rw [e] at h
      cases h
      rw [if_neg (by simp [hk]),List.lookup_cons,e]
    · have e':(x == n) = false:=by simpa using e
      rw [e'] at h
      have:=ih h
      split
      · rw [List.lookup_cons,e']; exact this
      · rw [List.lookup_cons,e']; exact this
noncomputable def blkB (sc:Scope) (T caps G:List Str):Bool:=T.all (fun x => sc.names.lookup x == some .local && !(x == ("__debug__":Str)) && !(x == ("__classdict__":Str))) && caps.all (fun x => sc.names.lookup x == some .free && !(x == ("__debug__":Str)) && !(x == ("__classdict__":Str))) && G.all fun x => sc.names.lookup x == some .globalImplicit
noncomputable def compB (sc out:Scope):Bool:=sc.kind == .function && sc.names.all fun y => (match y.2 with
  | .cell => false
  | .local => sc.names.lookup y.1 == some .local
  | .free => out.names.lookup y.1 == some .cell || out.names.lookup y.1 == some .free
  | _ => true)
theorem compScope_of {scope:Scope} {env:Env} (h:compB scope env.scope = true):CompScope scope env:=by
  unfold compB at h
  rw [Bool.and_eq_true] at h
  have hk:=h.1
  have ha:=List.all_eq_true.mp h.2
  refine ⟨by simpa using hk,fun y hy e => ?_,fun y hy e => ?_,fun y hy e => ?_⟩
  · have:=ha y hy; rw [e] at this; cases this
  · have:=ha y hy; rw [e] at this; simpa using this
  · have:=ha y hy
    rw [e] at this
    simpa [Env.kindOf] using this
noncomputable def capsB (sc:Scope) (N caps:List Str) (ix:List Nat):Bool:=ix.length == caps.length && (caps.zip ix).all fun p => N[p.2]? == some p.1 && sc.names.lookup p.1 == some .free
theorem caps_of {scope:Scope} {T caps:List Str} {ix:List Nat} (hN:X.N = N) (h:capsB scope N caps ix = true):Caps X scope T caps ix:=by
  unfold capsB at h
  rw [Bool.and_eq_true] at h
  refine ⟨by simpa using h.1,fun j x i e1 e2 => ?_⟩
  have hm:(x,i) ∈ caps.zip ix:=by
    refine List.mem_of_getElem? (i:=j) ?_
    rw [List.getElem?_zip_eq_some]
    exact ⟨e1,e2⟩
  have:=List.all_eq_true.mp h.2 (x,i) hm
  simp only [Bool.and_eq_true,beq_iff_eq] at this
  rw [hN]
  exact this
theorem cb_of {scope:Scope} {T caps:List Str} {C:Addr} {s:Shared} {H:Hp} {ex:List Addr} (hc:X.calm = true) (hu:X.A.units + 200 < cLine) (nd:(T ++ caps).Nodup) (h:blkB scope T caps G = true):Cb (compCx X (T ++ caps) scope C s H ex) (T ++ caps) G:=by
  unfold blkB at h
  rw [Bool.and_eq_true,Bool.and_eq_true] at h
  refine ⟨rfl,nd,fun x hx => ?_,fun x hx => ?_,hc,hu,rfl⟩
  · rcases List.mem_append.mp hx with hx | hx
    · have:=List.all_eq_true.mp h.1.1 x hx
      simp only [Bool.and_eq_true,beq_iff_eq,Bool.not_eq_true'] at this
      exact ⟨.inl (relabel_of (by decide) this.1.1),this.1.2,this.2⟩
    · have:=List.all_eq_true.mp h.1.2 x hx
      simp only [Bool.and_eq_true,beq_iff_eq,Bool.not_eq_true'] at this
      exact ⟨.inr (relabel_free this.1.1),this.1.2,this.2⟩
  · have:=List.all_eq_true.mp h.2 x hx
    exact relabel_of (by decide) (by simpa using this)
theorem blk_loc {scope:Scope} {env:Env} {T caps:List Str} (h:blkB scope T caps G = true) {j:Nat} {x:Str} (e:T[j]? = some x):(relabel scope env).names.lookup x = some .local:=by
  unfold blkB at h
  rw [Bool.and_eq_true,Bool.and_eq_true] at h
  have:=List.all_eq_true.mp h.1.1 x (mem_at e)
  simp only [Bool.and_eq_true,beq_iff_eq,Bool.not_eq_true'] at this
  exact relabel_of (by decide) this.1.1
theorem sac (C:Ct X N G) (i:Nat) {x:Str} {pos pos' spos:Pos} {scope:Scope} {T caps:List Str} {ix:List Nat} {tg iter:Expr} {ifs:List Expr} {elt:Expr} {g:MG} {t:MB} {m:MX} {mi:MIt} (h:N[i]? = some x) (cs:CompScope scope X.env) (cp:Caps X scope T caps ix) (hcalm:X.calm = true) (hi:MI X EX tg iter mi)
    (hb:Blk X scope (T ++ caps) tg ifs elt g t m) (hsw:swapsWith (.ListComp elt [⟨tg,iter,ifs,0⟩] scope pos) (some (.Name x pos')) spos.line X.env = pure true:=by rfl) (hs:∀ x,foldedSetIterable iter X.env x = pure x:=by intro _; rfl) (hk:X.kn = none:=by rfl) :
    MS X EX (.Assign [.Name x pos'] (.ListComp elt [⟨tg,iter,ifs,0⟩] scope pos) spos) (mSet i (mComp T.length ix g mi t m)) :=
  ms_setC ⟨C.ndX,hk⟩ (C.at h) (C.loc x (mem_at h)).1 (.inl (C.fn x)) cs cp hcalm hi hb hsw hs
end
end M
set_option Elab.async false
set_option linter.all false
set_option maxRecDepth 100000
set_option maxHeartbeats 4000000
namespace M
open PySem PySem.Spec PyProof.Rows L2
theorem rep_tupK {K:PySem.W.Frag} {p:Addr} {od:Option Addr} {its:Array Value} {n:Nat} {sl:Array (Option Value)} {ds:List D} {vs:List V} {F:Hp} {α:List Addr} (l:K.lookup p = some ⟨.type "tuple",od,.seq its n,sl⟩) (hz:its.size ≤ 16777216) (hv:Vals vs its.toList) (hr:Reps K F α ds vs):Rep K F α (.tup ds) (.ref p):=by
  unfold Rep
  exact ⟨p,vs,rfl,.inr ⟨_,its,n,l,rfl,rfl,by rw [sizeLine_eq]; exact hz,hv⟩,hr⟩
noncomputable def entK (pr:Params) (x:List Nat × Nat × Addr):DictEntry:=⟨PyData.keyHash pr ⟨x.1.toArray⟩,.str ⟨x.1.toArray⟩ x.2.1,.ref x.2.2⟩
theorem mem_entK {w:World} {xs:List (List Nat × Nat × Addr)} {e:DictEntry} (h:e ∈ xs.map (entK w.params)) (P:Program):∃ k,(mixKind P w).is k e.key = true ∧ e.hash = (mixKind P w).hash k:=by
  obtain ⟨x,_,rfl⟩:=List.mem_map.mp h
  exact ⟨.inr ⟨x.1.toArray⟩,kV_is (P:=P) (w:=w) (k:=.inr ⟨x.1.toArray⟩) (u:=.str ⟨x.1.toArray⟩ x.2.1) ⟨x.2.1,rfl⟩,rfl⟩
theorem pairs_entK {w:World} (P:Program):∀ xs:List (List Nat × Nat × Addr),Pairs (mixKind P w) (xs.map (entK w.params)) (xs.map fun x => ((Sum.inr ⟨x.1.toArray⟩:Key),Value.ref x.2.2))
  | [] => .nil
  | x :: xs => .cons (kV_is (P:=P) (w:=w) (k:=.inr ⟨x.1.toArray⟩) (u:=.str ⟨x.1.toArray⟩ x.2.1) ⟨x.2.1,rfl⟩) rfl (pairs_entK P xs)
theorem kv_entK:∀ xs:List (List Nat × Nat × Addr),KV (((xs.map fun x => (.inr x.1:DK)).map dk).zip (xs.map fun x => V.ref x.2.2)) (xs.map fun x => ((Sum.inr ⟨x.1.toArray⟩:Key),Value.ref x.2.2))
  | [] => .nil
  | x :: xs => .cons ⟨rfl,rfl⟩ (kv_entK xs)
theorem nodup_entK:∀ {xs:List (List Nat × Nat × Addr)},(xs.map (·.1)).Nodup → ((xs.map fun x => ((Sum.inr ⟨x.1.toArray⟩:Key),Value.ref x.2.2)).map (·.1)).Nodup
  | [],_ => List.nodup_nil
  | x :: xs,h => by
    rw [List.map_cons,List.nodup_cons] at h
    rw [List.map_cons,List.map_cons,List.nodup_cons]
    refine ⟨fun z => h.1 ?_,nodup_entK h.2⟩
    rw [List.map_map] at z
    obtain ⟨y,hy,e⟩:=List.mem_map.mp z
    have e2:(⟨y.1.toArray⟩:Str) = ⟨x.1.toArray⟩:=Sum.inr.inj e
    have e3:y.1.toArray = x.1.toArray:=by injection e2
    have e4:y.1 = x.1:=by simpa using congrArg Array.toList e3
    exact List.mem_map.mpr ⟨y,hy,e4⟩
theorem dict_mk {w:World} {K:PySem.W.Frag} {mg:Str → Option Value} {h:Heap} {x:Str} {p:Addr} {ep:Nat} {ds:List D} (xs:List (List Nat × Nat × Addr)) (KX:K.In h) (G:h.Ns mainGlobals mg)
    (a:PySem.W.nsIn K mainGlobals x = some (some (.ref p))) (l:K.lookup p = some ⟨.type "dict",none,.dict (xs.map (entK w.params)).toArray ep,#[]⟩) (hp:(p == sysModules) = false) (nd:(xs.map (·.1)).Nodup)
    (hl:xs.length = ds.length) (hr:∀ F α,Reps K F α ds (xs.map fun x => V.ref x.2.2)):DictAt w K mg x (xs.map fun x => .inr x.1) ds:=by
  refine ⟨p,_,_,PySem.W.mg_of KX G a,hp,fun P h' k' => ?_,kv_entK xs,by simpa using hl,hr⟩
  exact ⟨_,_,_,k' p _ l,⟨rfl,rfl,rfl⟩,rfl,fun e he => mem_entK (by simpa using he) P,by simpa using pairs_entK P xs,nodup_entK nd⟩
end M
set_option Elab.async false
set_option linter.all false
set_option maxRecDepth 100000
set_option maxHeartbeats 4000000
namespace M
open PySem PySem.Spec PyProof.Rows L2
variable {ρ:En} {μ μ1 μ2:Mu} {m ma mb mc:MX} {ms:MAs} {t u:MB} {n a b r:MSt} {d x y z:D} {ds:List D} {k:Bool} {φ:Fn} {g:G2} {o:Out}
theorem v_var (i:Nat) (h:ρ[i]? = some (some d)):mVar i ρ μ = .ok d μ:=by unfold mVar; rw [h]
theorem v_bin (ha:ma ρ μ = .ok x μ1) (hb:mb ρ μ1 = .ok y μ2) (hg:g (deref μ2 x) (deref μ2 y) = some z):mBin g ma mb ρ μ = .ok z μ2:=by unfold mBin; rw [ha,bind_ok,hb,bind_ok,hg]; rfl
theorem v_nil:mNil ρ μ = .ok [] μ:=rfl
theorem v_cons (ha:m ρ μ = .ok d μ1) (hb:ms ρ μ1 = .ok ds μ2):mCons m ms ρ μ = .ok (d :: ds) μ2:=by rw [e_cons,ha,bind_ok,e_cons1,hb,bind_ok,e_cons2]
theorem v_tup (h:ms ρ μ = .ok ds μ1):mTup ms ρ μ = .ok (.tup ds) μ1:=by unfold mTup; rw [h]; rfl
theorem v_lst (h:ms ρ μ = .ok ds μ1):mLst ms ρ μ = .ok (.lst ds) μ1:=by unfold mLst; rw [h]; rfl
theorem v_call (h:ms ρ μ = .ok ds μ1) (hf:φ ds μ1 = .ok d μ2):mCall φ ms ρ μ = .ok d μ2:=by unfold mCall; rw [h,bind_ok,hf]; rfl
theorem v_callB {g:GL} (h:ms ρ μ = .ok ds μ1) (hf:g (ds.map (deref μ1)) = some d):mCallB g ms ρ μ = .ok d μ1:=by unfold mCallB; rw [h,bind_ok,hf]; rfl
theorem v_test (h:m ρ μ = .ok (.bl k) μ1):mTest m ρ μ = .ok k μ1:=by unfold mTest; rw [h]; rfl
theorem v_tru (h:m ρ μ = .ok d μ1) (ht:truD (deref μ1 d) = some k):mTru m ρ μ = .ok k μ1:=by unfold mTru; rw [h,bind_ok,ht]; rfl
theorem v_not (h:t ρ μ = .ok k μ1):mNot t ρ μ = .ok (!k) μ1:=by unfold mNot; rw [h]; rfl
theorem v_andT (h:t ρ μ = .ok true μ1):mAnd t u ρ μ = u ρ μ1:=by unfold mAnd; rw [h]; rfl
theorem v_andF (h:t ρ μ = .ok false μ1):mAnd t u ρ μ = .ok false μ1:=by unfold mAnd; rw [h]; rfl
theorem v_orT (h:t ρ μ = .ok true μ1):mOr t u ρ μ = .ok true μ1:=by unfold mOr; rw [h]; rfl
theorem v_orF (h:t ρ μ = .ok false μ1):mOr t u ρ μ = u ρ μ1:=by unfold mOr; rw [h]; rfl
theorem v_andVT (h:ma ρ μ = .ok (.bl true) μ1):mAndV ma mb ρ μ = mb ρ μ1:=by unfold mAndV; rw [h]; rfl
theorem v_orVT (h:ma ρ μ = .ok (.bl true) μ1):mOrV ma mb ρ μ = .ok (.bl true) μ1:=by unfold mOrV; rw [h]; rfl
theorem v_orVF (h:ma ρ μ = .ok (.bl false) μ1):mOrV ma mb ρ μ = mb ρ μ1:=by unfold mOrV; rw [h]; rfl
theorem v_ifT (h:t ρ μ = .ok true μ1):mIf t ma mb ρ μ = ma ρ μ1:=by unfold mIf; rw [h]; rfl
theorem v_ifF (h:t ρ μ = .ok false μ1):mIf t ma mb ρ μ = mb ρ μ1:=by unfold mIf; rw [h]; rfl
theorem v_ret (h:m ρ μ = .ok d μ1):mRet m ρ μ = .ok (.rt d) μ1:=by unfold mRet; rw [h]; rfl
theorem v_set (i:Nat) (h:m ρ μ = .ok d μ1):mSeq (mSet i m) r ρ μ = r (ρ.set i (some d)) μ1:=by unfold mSeq mSet; rw [h]; rfl
theorem v_iteT (h:t ρ μ = .ok true μ1):mIte t a b ρ μ = a ρ μ1:=by unfold mIte; rw [h]; rfl
theorem v_iteF (h:t ρ μ = .ok false μ1):mIte t a b ρ μ = b ρ μ1:=by unfold mIte; rw [h]; rfl
theorem v_seqN {ρ1:En} (h:n ρ μ = .ok (.nx ρ1) μ1):mSeq n r ρ μ = r ρ1 μ1:=by unfold mSeq; rw [h]; rfl
theorem v_seqR (h:n ρ μ = .ok (.rt d) μ1):mSeq n r ρ μ = .ok (.rt d) μ1:=by unfold mSeq; rw [h]; rfl
theorem v_skip (h:t ρ μ = .ok false μ1):mSeq (mIte t a mSkip) r ρ μ = r ρ μ1:=v_seqN (v_iteF h)
theorem v_take (h:t ρ μ = .ok true μ1) (hm:m ρ μ1 = .ok d μ2):mSeq (mIte t (mRet m) b) r ρ μ = .ok (.rt d) μ2:=v_seqR ((v_iteT h).trans (v_ret hm))
theorem v_fn (j:Nat) (h:n (ds.map some ++ List.replicate j none) μ = .ok (.rt d) μ1):fnOf j n ds μ = .ok d μ1:=by rw [e_fnOf,h]; rfl
theorem v_pick {L:List D} {i:Int} {n:Nat} (h:ms ρ μ = .ok L μ) (hi:m ρ μ = .ok (.int i) μ) (hl:L.length = n) (h0:0 < n):∃ d ∈ L,mBin gIdx (mLst ms) (mBin gMod m (mC (.int n))) ρ μ = .ok d μ:=by
  have h1:mBin gMod m (mC (.int n)) ρ μ = .ok (.int (i % n)) μ:=v_bin hi rfl (g_mod i n (by omega))
  have hk:(i % n).toNat < L.length:=by
    have a1:=Int.emod_nonneg i (b:=(n:Int)) (by omega)
    have a2:=Int.emod_lt_of_pos i (b:=(n:Int)) (by omega)
    omega
  refine ⟨L[(i % n).toNat],List.getElem_mem hk,v_bin (v_lst h) h1 ?_⟩
  show atI L (i % n) = _
  rw [atI_pos (Int.emod_nonneg _ (by omega)),List.getElem?_eq_getElem hk]
end M
set_option Elab.async false
set_option linter.all false
set_option maxRecDepth 100000
set_option maxHeartbeats 4000000
namespace M
open PySem PySem.Spec PyProof.Rows L2
theorem get_snoc {β:Type} {l:List β} {x y:β} {k:Nat} (h:(l ++ [x])[k]? = some y):l[k]? = some y ∨ (k = l.length ∧ y = x):=by
  by_cases hk:k < l.length
  · rw [List.getElem?_append_left hk] at h; exact .inl h
  · rw [List.getElem?_append_right (by omega)] at h
    have:k - l.length = 0:=by
      cases e:k - l.length with
      | zero => rfl
      | succ n => rw [e] at h; simp at h
    rw [this] at h
    simp at h
    exact .inr ⟨by omega,h.symm⟩
theorem ext_snoc (α:List Addr) (F:Hp) (p:Addr):Ext α F (α ++ [p]) F:=⟨Same.refl F,fun k a h => by
  have:k < α.length:=by
    by_cases hk:k < α.length
    · exact hk
    · rw [List.getElem?_eq_none (by omega)] at h; cases h
  rw [List.getElem?_append_left this]; exact h⟩
section
variable {K:PySem.W.Frag} {Z:ZS} {F H:Hp} {α:List Addr} {μ:Mu} {p:Addr} {o o':HO} {c:Cell}
theorem CellOk.mono {α':List Addr} {H':Hp} {a:Addr} (h:CellOk K α F H a c) (e:Ext α F α' F) (hh:c ≠ .dead → H' a = H a):CellOk K α' F H' a c:=by
  exact h.go e (fun _ => rfl) hh
theorem RH.unholdC (r:RH K (ZS.up Z p o) α F H μ) (hz:Z.z p = none) (hok:CellOk K (α ++ [p]) F (upd H p o') p c):RH K Z (α ++ [p]) F (upd H p o') (μ ++ [c]):=by
  have fp:F p = none:=r.zf p o up_same
  have nc:∀ (k:Nat) (a:Addr) (c:Cell),α[k]? = some a → μ[k]? = some c → c ≠ .dead → a ≠ p:=fun k a c ha hc hd z => by
    have:=r.zc k a c ha hc hd
    rw [z,up_same] at this
    cases this
  have hlen:=r.len
  have both:∀ (k:Nat) (a:Addr) (c':Cell),(α ++ [p])[k]? = some a → (μ ++ [c])[k]? = some c' → (α[k]? = some a ∧ μ[k]? = some c') ∨ (k = α.length ∧ a = p ∧ c' = c):=fun k a c' ha hc => by
    rcases get_snoc ha with h1 | ⟨h1,h2⟩
    · rcases get_snoc hc with h3 | ⟨h3,h4⟩
      · exact .inl ⟨h1,h3⟩
      · have:k < α.length:=(List.getElem?_eq_some_iff.mp h1).1
        omega
    · rcases get_snoc hc with h3 | ⟨h3,h4⟩
      · have:k < μ.length:=(List.getElem?_eq_some_iff.mp h3).1
        omega
      · exact .inr ⟨h1,h2,h4⟩
  refine ⟨fun b u e => ?_,by simp [hlen],fun k a c' ha hc => ?_,fun b u e => ?_,fun b u e => ?_,fun k a c' ha hc hd => ?_,fun j k a c1 c2 hj hk cj ck d1 d2 => ?_,r.ext.trans (ext_snoc α F p)⟩
  · rw [upd_ne (fun z => by rw [z,fp] at e; cases e)]; exact r.sub b u e
  · rcases both k a c' ha hc with ⟨h1,h2⟩ | ⟨h1,h2,h3⟩
    · exact (r.cell k a c' h1 h2).mono (ext_snoc α F p) fun hd => by rw [upd_ne (nc k a c' h1 h2 hd)]
    · rw [h2,h3]; exact hok
  · have hb:b ≠ p:=fun z => by rw [z,hz] at e; cases e
    rw [upd_ne hb]
    exact r.zs b u (by rw [up_ne hb]; exact e)
  · have hb:b ≠ p:=fun z => by rw [z,hz] at e; cases e
    exact r.zf b u (by rw [up_ne hb]; exact e)
  · rcases both k a c' ha hc with ⟨h1,h2⟩ | ⟨h1,h2,h3⟩
    · have:=r.zc k a c' h1 h2 hd
      rw [up_ne (nc k a c' h1 h2 hd)] at this
      exact this
    · rw [h2]; exact hz
  · rcases both j a c1 hj cj with ⟨h1,h2⟩ | ⟨h1,h2,h3⟩
    · rcases both k a c2 hk ck with ⟨g1,g2⟩ | ⟨g1,g2,g3⟩
      · exact r.dis j k a c1 c2 h1 g1 h2 g2 d1 d2
      · exact absurd g2 (nc j a c1 h1 h2 d1)
    · rcases both k a c2 hk ck with ⟨g1,g2⟩ | ⟨g1,g2,g3⟩
      · exact absurd h2 (nc k a c2 g1 g2 d2)
      · omega
theorem upd_upd (H:Hp) (p:Addr) (o o':HO):upd (upd H p o) p o' = upd H p o':=by
  funext b
  by_cases hb:b = p
  · subst hb; rw [upd_same,upd_same]
  · rw [upd_ne hb,upd_ne hb,upd_ne hb]
theorem RH.newCell (r:RH K Z α F H μ) (hp:H p = none) (hok:CellOk K (α ++ [p]) F (upd H p o') p c):RH K Z (α ++ [p]) F (upd H p o') (μ ++ [c]):=by
  have hz:Z.z p = none:=by
    cases e:Z.z p with
    | none => rfl
    | some u => rw [r.zs _ _ e] at hp; cases hp
  have:=RH.unholdC (o:=o') (o':=o') (r.hold o' hp) hz (by rw [upd_upd]; exact hok)
  rw [upd_upd] at this
  exact this
theorem fnone (r:RH K Z α F H μ) (hp:H p = none):F p = none:=by
  cases e:F p with
  | none => rfl
  | some u => rw [r.sub _ _ e] at hp; cases hp
theorem RH.setCell {k:Nat} {a:Addr} {c0:Cell} (r:RH K Z α F H μ) (ha:α[k]? = some a) (hc:μ[k]? = some c0) (hd:c0 ≠ .dead) (hok:CellOk K α F (upd H a o) a c):RH K Z α F (upd H a o) (μ.set k c):=by
  have hF:F a = none:=by
    exact ((r.cell k a c0 ha hc).live hd).1
  have hZ:Z.z a = none:=r.zc k a c0 ha hc hd
  have hk:k < μ.length:=(List.getElem?_eq_some_iff.mp hc).1
  have at':∀ (j:Nat) (c':Cell),(μ.set k c)[j]? = some c' → (j = k ∧ c' = c) ∨ (j ≠ k ∧ μ[j]? = some c'):=fun j c' h => by
    by_cases e:j = k
    · subst e; rw [List.getElem?_set_self hk] at h; exact .inl ⟨rfl,(Option.some.inj h).symm⟩
    · rw [List.getElem?_set_ne (Ne.symm e)] at h; exact .inr ⟨e,h⟩
  refine ⟨fun b u e => ?_,by simp [r.len],fun j b c' hj hc' => ?_,fun b u e => ?_,r.zf,fun j b c' hj hc' d' => ?_,fun i j b c1 c2 hi hj ci cj d1 d2 => ?_,r.ext⟩
  · rw [upd_ne (fun z => by rw [z,hF] at e; cases e)]; exact r.sub b u e
  · rcases at' j c' hc' with ⟨e1,e2⟩ | ⟨e1,e2⟩
    · subst e1; rw [ha] at hj; cases hj; rw [e2]; exact hok
    · refine (r.cell j b c' hj e2).mono (Ext.refl _ _) fun d' => ?_
      rw [upd_ne (fun z => e1 (r.dis j k a c' c0 (by rw [← z]; exact hj) ha e2 hc d' hd))]
  · rw [upd_ne (fun z => by rw [z,hZ] at e; cases e)]; exact r.zs b u e
  · rcases at' j c' hc' with ⟨e1,e2⟩ | ⟨e1,e2⟩
    · subst e1; rw [ha] at hj; cases hj; exact hZ
    · exact r.zc j b c' hj e2 d'
  · rcases at' i c1 ci with ⟨e1,e2⟩ | ⟨e1,e2⟩
    · rcases at' j c2 cj with ⟨g1,g2⟩ | ⟨g1,g2⟩
      · omega
      · subst e1
        exact r.dis i j b c0 c2 hi hj hc g2 hd d2
    · rcases at' j c2 cj with ⟨g1,g2⟩ | ⟨g1,g2⟩
      · subst g1
        exact r.dis i j b c1 c0 hi hj e2 hc d1 hd
      · exact r.dis i j b c1 c2 hi hj e2 g2 d1 d2
end
section
variable {X:Cx} {EX:EXT} {e a b c:Expr} {pos:Pos} {m ma mb mc:MX} {es:List Expr} {ms:MAs}
end
end M
set_option Elab.async false
set_option linter.all false
set_option maxRecDepth 100000
set_option maxHeartbeats 4000000
namespace M
open PySem PySem.Spec PyProof.Rows L2
noncomputable def isLst:D → Bool
  | .lst _ => true
  | _ => false
noncomputable def appC (d y:D) (μ:Mu):Res D:=match d with
  | .ref k => match μ[k]? with
    | some (.lst ds) => if ds.length < 16777216 then .ok .non (μ.set k (.lst (ds ++ [y]))) else .bad
    | _ => .bad
  | _ => .bad
noncomputable def storeC (ρ:En) (d i v:D) (μ:Mu):Res Out:=match d,i with
  | .ref k,.int j => match μ[k]? with
    | some (.lst ds) => match ixN ds.length j with
      | some n => .ok (.nx ρ) (μ.set k (.lst (ds.set n v)))
      | none => .bad
    | _ => .bad
  | _,_ => .bad
noncomputable def mStore (mo mi mv:MX):MSt:=fun ρ μ => (mv ρ μ).bind fun v μ1 => (mo ρ μ1).bind fun d μ2 => (mi ρ μ2).bind fun i μ3 => storeC ρ d i v μ3
section
variable {X:Cx} {EX:EXT} {e a b c o i:Expr} {pos pos':Pos} {m ma mb mc mo mi mv:MX} {es:List Expr} {ms:MAs}
theorem lst_at {K:PySem.W.Frag} {Z:ZS} {F H:Hp} {α:List Addr} {μ:Mu} {k:Nat} {v:V} {ds:List D} (R:RH K Z α F H μ) (p:Rep K F α (.ref k) v) (h:μ[k]? = some (.lst ds)):∃ a vs,v = .ref a ∧ α[k]? = some a ∧ H a = some (.lst vs) ∧ Reps K F α ds vs ∧ F a = none:=by
  unfold Rep at p
  obtain ⟨a,ha,hv⟩:=p
  obtain ⟨h1,vs,h2,h3⟩:=R.cell k a _ ha h
  exact ⟨a,vs,hv,ha,h2,h3,h1⟩
theorem ms_store (ho:ME X EX o mo) (hi:ME X EX i mi) (hv:ME X EX e mv)
    (hs:swapsWithSole [.Subscript o i pos'] e pos.line X.env = pure false:=by rfl) (hw:swappedStores [.Subscript o i pos'] e X.env = pure none:=by rfl)
    (h1:(assignEach [.Subscript o i pos'] X.env).map (·.2) = [assign (.Subscript o i pos') X.env]:=by rfl)
    (ha:∀ v,assign (.Subscript o i pos') X.env v = (do
      let ov ← holding [v] (eval o X.env)
      let iv ← holding [v,ov] (eval i X.env)
      standAt pos'
      holding [v,ov,iv] (setItem ov iv v)
      release [v,ov,iv] []):=by intro _; rfl):MS X EX (.Assign [.Subscript o i pos'] e pos) (mStore mo mi mv):=by
  obtain ⟨to,po,so⟩:=ho
  obtain ⟨ti,pi,si⟩:=hi
  obtain ⟨tv,pv,sv⟩:=hv
  refine ⟨_,ps_asg pv (pg_sub po pi set_list ha) hs hw h1,fun Z α F H σ ρ μ N R g => ?_⟩
  refine sv Z α F H σ ρ μ _ R (GE.step (G:=GS X.K EX Z α F N) g (fun _ _ h => h) (fun h => h) fun v μ1 vv α1 F1 H1 R1 e1 p1 g1 => ?_)
  refine so Z α1 F1 H1 σ ρ μ1 _ (R.to R1 e1) (GE.step (G:=GS X.K EX Z α F N) g1 (fun _ _ h => h) (fun h => h) fun d μ2 vd α2 F2 H2 R2 e2 p2 g2 => ?_)
  refine si Z α2 F2 H2 σ ρ μ2 _ (R.to R2 (e1.trans e2)) (GE.step (G:=GS X.K EX Z α F N) g2 (fun _ _ h => h) (fun h => h) fun j μ3 vj α3 F3 H3 R3 e3 p3 g3 => ?_)
  have p1':=(p1.mono e2).mono e3
  have p2':=p2.mono e3
  unfold storeC at g3
  cases d with
  | ref k =>
    cases j with
    | int j =>
      simp only at g3
      cases hc:μ3[k]? with
      | none => rw [hc] at g3; exact g3.elim
      | some cc =>
        rw [hc] at g3
        cases cc with
        | lst ds =>
          simp only at g3
          cases hx:ixN ds.length j with
          | none => rw [hx] at g3; exact g3.elim
          | some n =>
            rw [hx] at g3
            obtain ⟨q,us,rfl,hα,hH,hr,hF⟩:=lst_at R3 p2' hc
            unfold Rep at p3
            refine ⟨q,us,j,n,rfl,p3,hH,by rw [← hr.length]; exact hx,?_⟩
            have R4:=R3.setCell (o:=.lst (us.set n vv)) (c:=.lst (ds.set n v)) hα hc (by simp) ⟨hF,_,upd_same,Reps.set p1' n hr⟩
            exact g3 σ α3 F3 _ (R.to R4 (e1.trans (e2.trans e3))) (e1.trans (e2.trans e3))
        | _ => exact g3.elim
    | _ => exact g3.elim
  | _ => exact g3.elim
end
end M
set_option Elab.async false
set_option linter.all false
set_option maxRecDepth 100000
set_option maxHeartbeats 4000000
namespace M
open PySem PySem.Spec PyProof.Rows L2
section
variable {X:Cx} {EX:EXT} {a b:Expr} {pos p tpos:Pos} {ma mb:MX} {elts:List Expr} {x1:Nat}
end
end M
set_option Elab.async false
set_option linter.all false
set_option maxRecDepth 100000
set_option maxHeartbeats 4000000
namespace M
open PySem PySem.Spec PyProof.Rows L2
section
variable {X:Cx} {EX:EXT} {e a b c:Expr} {pos pos2:Pos} {m ma mb mc:MX} {es:List Expr} {ms:MAs}
end
end M
set_option Elab.async false
set_option linter.all false
set_option maxRecDepth 100000
set_option maxHeartbeats 4000000
namespace M
open PySem PySem.Spec PyProof.Rows L2
noncomputable def XObj (h:Heap) (e:Addr) (C:Value) (dx:Option Addr) (tr:Option Addr):Prop :=
  ∃ vs sl,h.get? e = some ⟨C,dx,.fields vs,sl⟩ ∧ 1 < vs.size ∧ match tr with
    | none => vs[1]? = some .none
    | some T => vs[1]? = some (.ref T) ∧ T ≠ e ∧ ∃ oT ts,h.get? T = some oT ∧ oT.data = .fields ts ∧ ts[3]? = some .none
structure Noted (fs:List Addr) (e:Addr) (tr:Option Addr) (h h':Heap):Prop where
  keep:∀ b o,h.get? b = some o → b ∉ fs → b ≠ e → tr ≠ some b → h'.get? b = some o
  slot:∀ b o,h.get? b = some o → b ≠ e → tr ≠ some b → ∃ sl,h'.get? b = some { o with slots:=sl }
section
variable {Md:Model} {A:Around} {E:Value → Shared → Prop} {s:Shared} {base:Heap} {env:Env} {outer:List Env} {L e:Addr}
theorem entry_core {C:Value} {dx:Option Addr} {vs:Array Value} {sl:Array (Option Value)} {head:Value} {had:Bool} {Q:Unit → Shared → Prop} (hfr:A.frames = some (env :: outer)) (hl:s.heap.FunFrames base (env :: outer)) (hf:env.frame = some L)
    (he:s.heap.get? e = some ⟨C,dx,.fields vs,sl⟩) (hz:1 < vs.size) (q:∀ h' T,XObj h' e C dx (some T) → s.heap.objs.size ≤ T → Noted (frs (env :: outer)) e none s.heap h' → Q () { s with heap:=h' }) :
    wpAny Md A (do let a ← frameOf env; let pl ← entryPlaceOf L had; let b ← EntryCells.newEntry head a .none (rawInt L) .none pl; setField (.ref e) 1 b) (fun _ s' => wpAny Md A (setFlight (.ref e) none) Q E s') E s:=by
  have nf:e ∉ (env :: outer).filterMap (·.frame):=fun hm => by
    obtain ⟨_,o,ho,hn⟩:=hl.mem hm
    rw [he] at ho
    cases ho
    exact hn vs rfl
  refine wpAny_bind (wpAny_frameOf_fun hfr hl hf fun h1 so => wpAny_bind (wpAny_entryPlaceOf fun pl hpl => ?_))
  unfold EntryCells.newEntry newFields
  refine wpAny_bind (wpAny_newObj_type ?_ (hpl.sizeOk5 _ _ _ _ _))
  generalize hts:([head,Value.ref L,Value.none,rawInt L,Value.none] ++ if pl.isEmpty = true then List.replicate 6 Value.none else pl).toArray = ts
  have t3:3 < ts.size:=by rw [← hts]; simp only [List.size_toArray,List.length_append,List.length_cons,List.length_nil]; omega
  have e1:h1.get? e = some ⟨C,dx,.fields vs,sl⟩:=(so.2.1 e nf).trans he
  have nT:h1.objs.size ≠ e:=Nat.ne_of_gt (Heap.lt_size e1)
  have e2:=Heap.get?_push_of_some (h:=h1) { cls:=.type "traceback",data:=.fields ts } e1
  refine wpAny_setField e2 rfl hz ?_
  have e3:((h1.push { cls:=.type "traceback",data:=.fields ts }).update e (Obj.mapFields (·.setIfInBounds 1 (.ref h1.objs.size)))).get? e = some ⟨C,dx,.fields (vs.setIfInBounds 1 (.ref h1.objs.size)),sl⟩:=Heap.get?_update_self _ e2 rfl
  have T3:((h1.push { cls:=.type "traceback",data:=.fields ts }).update e (Obj.mapFields (·.setIfInBounds 1 (.ref h1.objs.size)))).get? h1.objs.size = some { cls:=.type "traceback",data:=.fields ts } :=
    (Heap.get?_update_other _ _ (Ne.symm nT)).trans (Heap.get?_push_size h1 rfl)
  have v1:(vs.setIfInBounds 1 (Value.ref h1.objs.size))[1]? = some (.ref h1.objs.size):=by simp [hz]
  unfold setFlight
  refine wpAny_bind (wpAny_field e3 rfl v1 ?_)
  rw [if_pos (by simp)]
  refine wpAny_setField T3 rfl t3 (q _ h1.objs.size ?_ ?_ ?_)
  · refine ⟨_,sl,(Heap.get?_update_other _ _ nT).trans e3,by simpa using hz,v1,nT,_,_,Heap.get?_update_self _ T3 rfl,rfl,?_⟩
    simp [t3]
  · exact Nat.le_of_eq so.1.symm
  · have up:∀ b o,h1.get? b = some o → b ≠ e → (((h1.push { cls:=.type "traceback",data:=.fields ts }).update e (Obj.mapFields (·.setIfInBounds 1 (.ref h1.objs.size)))).update h1.objs.size (Obj.mapFields (·.setIfInBounds 3 ((none:Option Addr).elim Value.none fun f => rawInt f)))).get? b = some o:=fun b o hb hbe => by
      rw [Heap.get?_update_other _ _ (Nat.ne_of_gt (Heap.lt_size hb)),Heap.get?_update_other _ _ (Ne.symm hbe)]
      exact Heap.get?_push_of_some _ hb
    refine ⟨fun b o hb hn hbe _ => up b o ((so.2.1 b hn).trans hb) hbe,fun b o hb hbe _ => ?_⟩
    obtain ⟨sl',e'⟩:=so.2.2 b o hb
    exact ⟨sl',up b _ e' hbe⟩
theorem fly_on {C:Value} {dx tr:Option Addr} {Q:Unit → Shared → Prop} (hfr:A.frames = some (env :: outer)) (hl:s.heap.FunFrames base (env :: outer)) (hf:env.frame = some L) (x:XObj s.heap e C dx tr)
    (q:∀ h' T,XObj h' e C dx (some T) → s.heap.objs.size ≤ T → Noted (frs (env :: outer)) e tr s.heap h' → Q () { s with heap:=h' }) :
    wpAny Md A (noteFrame (.ref e) env) (fun _ s' => wpAny Md A (setFlight (.ref e) none) Q E s') E s:=by
  obtain ⟨vs,sl,he,hz,ht⟩:=x
  unfold noteFrame
  simp only [hf]
  cases tr with
  | none =>
    refine wpAny_bind (wpAny_field he rfl ht ?_)
    rw [if_neg (by decide)]
    exact entry_core hfr hl hf he hz q
  | some T0 =>
    obtain ⟨h1,hne,oT,ts,hT,hd,h3⟩:=ht
    refine wpAny_bind (wpAny_field he rfl h1 ?_)
    rw [if_pos (by simp)]
    refine wpAny_bind (wpAny_field hT hd h3 ?_)
    rw [if_neg (by simp [rawInt])]
    refine wpAny_bind (wpAny_setField hT hd (Array.getElem?_eq_some_iff.mp h3).1 ?_)
    have ot:∀ b,b ≠ T0 → (s.heap.update T0 (Obj.mapFields (·.setIfInBounds 3 Value.none))).get? b = s.heap.get? b:=fun b hb => Heap.get?_update_other _ _ (Ne.symm hb)
    have nr:∀ b o,s.heap.get? b = some o → (∀ vs,o.data ≠ .fields vs) → b ≠ T0:=fun b o hb hn z => by
      rw [z,hT] at hb
      cases hb
      exact hn ts hd
    refine entry_core (s:={ s with heap:=s.heap.update T0 (Obj.mapFields (·.setIfInBounds 3 Value.none)) }) hfr (hl.of_keeps fun b o hb hn => ⟨o,(ot b (nr b o hb hn)).trans hb,rfl⟩) hf ((ot e (Ne.symm hne)).trans he) hz fun h' T x' n' N => q h' T x' ?_ ?_
    · have n2:(s.heap.update T0 (Obj.mapFields (·.setIfInBounds 3 Value.none))).objs.size ≤ T:=n'
      rw [Heap.size_update] at n2
      exact n2
    · exact ⟨fun b o hb hn hbe hbt => N.keep b o ((ot b fun z => hbt (by rw [z])).trans hb) hn hbe (by simp),fun b o hb hbe hbt => N.slot b o ((ot b fun z => hbt (by rw [z])).trans hb) hbe (by simp)⟩
end
end M
set_option Elab.async false
set_option linter.all false
set_option maxRecDepth 100000
set_option maxHeartbeats 4000000
namespace M
open PySem PySem.Spec PyProof.Rows L2
theorem XObj.p {h:Heap} {e:Addr} {C:Value} {dx tr:Option Addr} (x:XObj h e C dx tr):excP e C dx h:=let ⟨vs,sl,he,_⟩:=x; ⟨vs,sl,he⟩
theorem exc_ok {P:Program} {w:World} {H:Hp} {h:Heap} {a:Addr} {C:Value} {dx:Option Addr} (x:excP a C dx h):ObjOk P w H h a (.ext (excP a C dx)) :=
  ⟨x,let ⟨_,_,e⟩:=x; ⟨_,e⟩,fun _ _ ⟨vs,sl,e⟩ k => ⟨vs,sl,k _ e⟩⟩
section
variable {P:Program} {w:World} {H H0 H':Hp} {h h' h0:Heap} {a T L:Addr} {C:Value} {dx tr tr':Option Addr} {fs:List Addr} {env:Env} {outer:List Env}
theorem hok_noted (x:HOk P w H h) (ha:H a = some (.ext (excP a C dx))) (ht:∀ T,tr = some T → H T = none) (xo:XObj h' a C dx tr') (N:Noted fs a tr h h') (hf:∀ b ∈ fs,H b = none):HOk P w H h':=fun b u e => by
  by_cases hb:b = a
  · subst hb
    rw [ha] at e
    cases e
    exact exc_ok xo.p
  · refine (x b u e).stay (fun c v hc q => ?_) (fun _ q => q) fun _ _ q => q
    have hn:∃ u',H c = some u' ∧ c ≠ a:=by
      rcases hc with rfl | hc
      · exact ⟨u,e,hb⟩
      · exact ⟨_,hc,fun z => by rw [z,ha] at hc; cases hc⟩
    obtain ⟨u',e',hca⟩:=hn
    exact N.keep c v q (fun z => by rw [hf c z] at e'; cases e') hca (fun z => by rw [ht c z] at e'; cases e')
theorem un_noted {ex:List Addr} (u:Un (frs outer) ex H0 H' h0 h) (N:Noted (frs (env :: outer)) a tr h h') (hL:env.frame = some L) (nL:h0.get? L = none) (na:h0.get? a = none) (nt:∀ T,tr = some T → h0.get? T = none):Un (frs outer) ex H0 H' h0 h' where
  keep:=fun b o q n hc hx => by
    refine N.keep b o (u.keep b o q n hc hx) (fun z => ?_) (fun z => by rw [z,na] at q; cases q) (fun z => by rw [nt b z] at q; cases q)
    unfold frs at z hc
    rw [List.filterMap_cons,hL] at z
    rcases List.mem_cons.mp z with z | z
    · rw [z,nL] at q; cases q
    · exact hc z
  slot:=fun b o q n hc hx => by
    obtain ⟨sl,e⟩:=u.slot b o q n hc hx
    obtain ⟨sl',e'⟩:=N.slot b _ e (fun z => by rw [z,na] at q; cases q) (fun z => by rw [nt b z] at q; cases q)
    exact ⟨sl',e'⟩
  free:=u.free
  there:=fun b o q hx => by
    obtain ⟨o',e⟩:=u.there b o q hx
    obtain ⟨sl',e'⟩:=N.slot b _ e (fun z => by rw [z,na] at q; cases q) (fun z => by rw [nt b z] at q; cases q)
    exact ⟨_,e'⟩
  tups:=u.tups
  frzs:=u.frzs
  tbls:=u.tbls
end
inductive CXRp (P:Program) (w:World) (outer:List Env) (H:Hp) (s:Shared) (E:XK) (e:Value) (s':Shared):Prop
  | mk (a:Addr) (C:Value) (dx:Option Addr) (T:Addr) (H':Hp):e = .ref a → s'.os = s.os → AllBare s'.gens → Un (frs outer) [] H H' s.heap s'.heap → HOk P w H' s'.heap → XObj s'.heap a C dx (some T) → H' a = some (.ext (excP a C dx)) → H' T = none → s.heap.objs.size ≤ a → s.heap.objs.size ≤ T → E e (some a) H' → CXRp P w outer H s E e s'
noncomputable abbrev CXR (P:Program) (w:World):CXT:=CXRp P w
section
variable {P:Program} {w:World} {K:PySem.W.Frag} {mg:Str → Option Value} {base:Heap} {N:List Str} {qual:Str} {sc:Scope} {f:Addr} {cdv:Value} {A:Around} {outer:List Env} {s:Shared} {H:Hp} {E:XK}
end
end M
set_option Elab.async false
set_option linter.all false
set_option maxRecDepth 100000
set_option maxHeartbeats 4000000
namespace M
open PySem PySem.Spec PyProof.Rows L2
noncomputable abbrev XCs:=Nat → Str × Option Str
noncomputable def del (H:Hp) (a b:Addr):Hp:=fun c => if c = a ∨ c = b then none else H c
noncomputable def XH (K:PySem.W.Frag) (c:Str × Option Str) (H:Hp) (a dx:Addr) (v:V):Prop:=match c.2 with
  | some nm => H a = some (.ext (excP a (.ref (cA K c.1)) (some dx))) ∧ H dx = some (.xd [(nm,v)])
  | none => dx = a ∧ H a = some (.ext (excP a (.ref (cA K c.1)) none))
noncomputable def exT (K:PySem.W.Frag) (xc:XCs) (E:XK):EXT where
  P:=fun Z x μ => ∀ (a dx:Addr) (v:V) (α':List Addr) (F' H':Hp),RH K Z α' F' (del H' a dx) μ → Rep K F' α' x.d v → XH K (xc x.c) H' a dx v → E (.ref a) (some a) H'
  mono:=fun Z p o x μ hz h a dx v α' F' H' R => h a dx v α' F' H' (R.drop hz)
noncomputable def ZS.at (Z:ZS) (α:List Addr) (F:Hp):ZS:=⟨Z.z,α,F⟩
theorem RH.rebase {K:PySem.W.Frag} {Z:ZS} {α:List Addr} {F H:Hp} {μ:Mu} (r:RH K Z α F H μ):RH K (Z.at α F) α F H μ:=⟨r.sub,r.len,r.cell,r.zs,r.zf,r.zc,r.dis,Ext.refl _ _⟩
theorem RH.back {K:PySem.W.Frag} {Z:ZS} {α α':List Addr} {F F' H':Hp} {μ:Mu} (r:RH K (Z.at α F) α' F' H' μ) (e:Ext Z.a0 Z.f0 α F):RH K Z α' F' H' μ:=⟨r.sub,r.len,r.cell,r.zs,r.zf,r.zc,r.dis,e.trans r.ext⟩
noncomputable def spX (K:PySem.W.Frag) (xc:XCs) (n:Nat) (φ:Fn):Sp:=fun vs H Q E => ∃ Z α F ds μ,RH K Z α F H μ ∧ Reps K F α ds vs ∧ ds.length = n ∧ GE K (exT K xc E) (Z.at α F) α F Q (φ ds μ)
section
variable {P:Program} {w:World} {K:PySem.W.Frag} {mg:Str → Option Value} {base:Heap} {xc:XCs}
theorem fn_okX {x qual:Str} {st:Stmt} {f:Addr} {fd:FuncData} {N ps:List Str} {k j:Nat} {n:MSt} (F:Fun K x qual st f fd) (S:FnScope N ps (defScope st)) (hj:N.length - ps.length = j)
    (hb:∀ (cdv:Value) (A:Around) (outer:List Env) (s:Shared) (H:Hp) (E:XK),Room k (A.deeper (envOfC qual (defScope st) s.heap.objs.size f cdv)) →
      MSs (cxOf (CXR P w) P w K mg base N qual (defScope st) f cdv A outer s H E) (exT K xc E) (defBody st) n):FnOk P w K mg base (CXR P w) (k + 1) f fd ps (spX K xc ps.length (fnOf j n)):=by
  obtain ⟨oc,od,kV,doc,pm,an,cdv,ct,osl,rfl,lk,hcd⟩:=F.ex
  refine fn_of lk hcd S (fun vs H Q E h => ?_) fun A outer s H vs Q E hr h => ?_
  · obtain ⟨Z,α,G,ds,μ,R,r,hl,_⟩:=h
    rw [← hl,r.length]
  · obtain ⟨Z,α,G,ds,μ,R,r,hl,g⟩:=h
    obtain ⟨t,p,s'⟩:=hb cdv A outer s H E hr
    refine ⟨t,p,s' (Z.at α G) α G H (start N vs) (ds.map some ++ List.replicate j none) μ _ (rs_start N j (by rw [← r.length,hl]; exact hj) R.rebase r) ?_⟩
    unfold fnOf fin at g
    cases e:n (ds.map some ++ List.replicate j none) μ with
    | exc x μ1 => rw [e] at g; exact g
    | bad => rw [e] at g; exact g
    | ok o μ1 =>
      rw [e] at g
      cases o with
      | rt d => exact g
      | nx ρ => exact fun σ' α' F' H' R' e' => g .non α' F' H' R'.hp e' rep_non
      | bk ρ => exact g.elim
      | ct ρ => exact g.elim
end
noncomputable def mCallX (φ:Fn) (ms:MAs):MX:=fun ρ μ => (ms ρ μ).bind φ
section
variable {X:Cx} {e a b c:Expr} {pos:Pos} {m ma mb mc:MX} {es rest:List Expr} {ms:MAs} {E:XK} {xc:XCs}
theorem ex_rebase {K:PySem.W.Frag} {Z:ZS} {α1:List Addr} {F1:Hp} {Q:VK} {α:List Addr} {F:Hp} {r:Res D} (e0:Ext Z.a0 Z.f0 α1 F1) (e1:Ext α F α1 F1) (h:GE K (exT K xc E) Z α F Q r):GE K (exT K xc E) (Z.at α1 F1) α1 F1 Q r:=by
  cases r with
  | ok d μ => exact fun v α' F' H' R e' q => h v α' F' H' (R.back e0) (e1.trans e') q
  | exc x μ => exact fun a dx v α' F' H' R p h1 => h a dx v α' F' H' (R.back e0) p h1
  | bad => exact h
theorem me_callX {x:Str} {p:Pos} {k:Nat} {f:Addr} {fd:FuncData} {ps:List Str} {φ:Fn} (hx:Passes (CXR X.prog X.w) X E) (F:FnOk X.prog X.w X.K X.mg X.base (CXR X.prog X.w) k f fd ps (spX X.K xc ps.length φ)) (hr:Room k X.A) (hg:Gl X x) (hm:X.mg x = some (.ref f)) (hk:PySem.W.keepIn X.K (.ref f) = true) (hb:Binds X.K fd ps [])
    (ha:MA X (exT X.K xc E) (e :: es) ms) (hl:(e :: es).length = ps.length) (hdb:(x == ("__debug__":Str)) = false:=by decide) (he:starEach (e :: es) X.env = (false,eval e X.env) :: starEach es X.env:=by rfl) (hpl:(backTo pos (starEach es X.env)).any (·.1) = false:=by rfl) :
    ME X (exT X.K xc E) (.Call (.Name x p) (e :: es) [] pos) (mCallX φ ms):=by
  obtain ⟨t,pt,st,lt⟩:=ha
  refine ⟨_,pe_call F hr hg hm hk hb .nil hx pt hdb he hpl,fun Z α G H σ ρ μ Q R g => ?_⟩
  refine st Z α G H σ ρ μ _ R (GA.stepE (G:=GE X.K (exT X.K xc E) Z α G Q) g (fun _ _ h => h) (fun h => h) fun ds μ1 vs α1 F1 H1 hm1 R1 e1 p1 g1 => ?_)
  rw [List.append_nil]
  exact ⟨Z,α1,F1,ds,μ1,R1,p1,(lt _ _ _ _ hm1).trans hl,ex_rebase R1.ext e1 g1⟩
end
end M
set_option Elab.async false
set_option linter.all false
set_option maxRecDepth 100000
set_option maxHeartbeats 4000000
namespace M
open PySem PySem.Spec PyProof.Rows L2
section
variable {prog:Program} {w:World} {A:Around} {E:Value → Shared → Prop} {h:Heap} {g:Array GenState} {d:Drawn} {t:Nat} {os:OsState}
variable {nm q:Str} {C N f:Addr} {bs bm bmB:List Value} {hdct:Bool} {sn:List Str} {sub:List Value} {ab:Bool} {col:Option Bool} {dd:Option Addr} {k0 k1 k2 k3 k5:Option Value} {B newId initId:String}
noncomputable abbrev rawExc (C a:Addr):Obj:={ cls:=.ref C,data:=.fields #[.ref a,.none,.none,.none,.bool false,.none] }
noncomputable abbrev rawHeap (h:Heap) (C:Addr) (us:List Value):Heap:=(h.push { cls:=.type "tuple",data:=.seq us.toArray }).push (rawExc C h.objs.size)
theorem type_call_own (F:ExcBaseFacts B newId initId bmB) (T:OwnTail h bmB bm) {mN:Str → Option Value} {us:List Value} {Q:Fin → Shared → Prop}
    (hC:h.get? C = some (excClassObj nm q C N bs bm hdct sn sub ab col dd k0 k1 k2 k3 k5 newId)) (hn:h.Ns N mN) (hi:mN "__init__" = some (.ref f)) (hu:us.length ≤ sizeLine)
    (hb:PySem.W.Looks (model prog w) (rawHeap h C us) (bindSpecial (.ref f) (.ref (h.objs.size + 1))) (.ref f,[.ref (h.objs.size + 1)]))
    (hq:wpAny (model prog w) A (call (.ref f) (.ref (h.objs.size + 1) :: us)) (fun r s' => r = .none ∧ Q (.done (.ret (.ref (h.objs.size + 1)))) s') E ⟨rawHeap h C us,g,d,t,os⟩) :
    wpAny (model prog w) A (Builtin.«type.__call__» ⟨.ref C :: us,[]⟩) Q E ⟨h,g,d,t,os⟩:=by
  repeat (first | with_reducible refine wpAny_loadPart_at hC ?_ | with_reducible refine wpAny_madeBy_exc hC ?_ | wp_step)
  refine codeAny_call_builtin_code (Code.quiet_builtin _ F.quiet) (wpAny_check_new_subT F T hC (codeAny_exc_new_subT F T hC ?_ hu))
  have c1:(rawHeap h C us).get? C = some _:=Heap.get?_push_of_some _ (Heap.get?_push_of_some _ hC)
  have n1:(rawHeap h C us).Ns N mN:=hn.keeps fun b o e => Heap.get?_push_of_some _ (Heap.get?_push_of_some _ e)
  have e1:(rawHeap h C us).get? (h.objs.size + 1) = some (rawExc C h.objs.size):=Heap.get?_push_at (by rw [Heap.size_push]) rfl
  have k1:(Value.ref C :: bm).contains (.ref C) = true:=by simp
  have t1:OwnTail (rawHeap h C us) bmB bm:=T.keeps fun b o e => Heap.get?_push_of_some _ (Heap.get?_push_of_some _ e)
  show wpAny _ _ _ _ _ _
  unfold isInstance
  repeat (first | with_reducible refine wpAny_loadPart_at e1 ?_ | (with_reducible refine wpAny_isSubtype_exc c1 ?_; rw [k1]) | wp_step)
  show wpAny _ _ (typeLookup (.ref C) _) _ _ _
  refine wpAny_typeLookup_tail c1 n1 t1 F.mroIs F.init.lookup ?_
  rw [hi]
  refine wpAny_holding (wpAny_bind (hb _ _ _ _ (fun _ _ z => z) ?_))
  refine wpAny_bind (wpAny_mono hq (fun r s' hr => wpAny_pure ?_) fun _ _ z => z)
  obtain ⟨rfl,hr⟩:=hr
  exact wpAny_pure hr
theorem call_exc_own (F:ExcBaseFacts B newId initId bmB) (T:OwnTail h bmB bm) {mN:Str → Option Value} {us:List Value} {Q:Value → Shared → Prop}
    (hC:h.get? C = some (excClassObj nm q C N bs bm hdct sn sub ab col dd k0 k1 k2 k3 k5 newId)) (hn:h.Ns N mN) (hi:mN "__init__" = some (.ref f)) (hu:us.length ≤ sizeLine)
    (hb:PySem.W.Looks (model prog w) (rawHeap h C us) (bindSpecial (.ref f) (.ref (h.objs.size + 1))) (.ref f,[.ref (h.objs.size + 1)]))
    (hq:wpAny (model prog w) (A.under (.builtin "type.__call__" ⟨.ref C :: us,[]⟩)) (call (.ref f) (.ref (h.objs.size + 1) :: us)) (fun r s' => r = .none ∧ Q (.ref (h.objs.size + 1)) s') E ⟨rawHeap h C us,g,d,t,os⟩) :
    wpAny (model prog w) A (call (.ref C) us) Q E ⟨h,g,d,t,os⟩:=by
  have f1:=tc_lookup
  have f2:=tc_bind (.ref C)
  have hT:(⟨h,g,d,t,os⟩:Shared).TypeIs (.ref C) "type":=⟨_,hC,rfl⟩
  refine wpAny_call (codeAny_of_tree ?_)
  show wpAny (model prog w) _ (callAny (.ref C) ⟨us,[]⟩) _ _ _
  repeat (any_goals (first | assumption | with_reducible refine wpAny_loadPart_at hC ?_ | wp_step))
  refine ⟨rfl,codeAny_call_builtin_at (Code.quiet_builtin _ (by decide +kernel)) entry_typeCall (wpAny_check_type_call_sub hC (type_call_own F T hC hn hi hu hb ?_))⟩
  exact hq
end
end M
set_option Elab.async false
set_option linter.all false
set_option maxRecDepth 100000
set_option maxHeartbeats 4000000
namespace M
open PySem PySem.Spec PyProof.Rows L2 PySem.Builtin PySem.Builtin.ObjectAttr
noncomputable def vmro:List Value:=[.type "ValueError",.type "Exception",.type "BaseException",.type "object"]
noncomputable def overV:List Value → Bool
  | .ref _ :: r => overV r
  | l => l == vmro
theorem overV_cases:∀ {l:List Value},overV l = true → l = vmro ∨ ∃ c r,l = .ref c :: r ∧ overV r = true
  | [],e => .inl (beq_iff_eq.mp e)
  | .ref c :: r,e => .inr ⟨c,r,rfl,e⟩
  | .type n :: r,e => .inl (beq_iff_eq.mp e)
  | .none :: r,e => .inl (beq_iff_eq.mp e)
  | .bool _ :: r,e => .inl (beq_iff_eq.mp e)
  | .int _ _ :: r,e => .inl (beq_iff_eq.mp e)
  | .str _ _ :: r,e => .inl (beq_iff_eq.mp e)
  | v :: r,e => by
    cases v <;> first | exact .inl (beq_iff_eq.mp e) | exact .inr ⟨_,r,rfl,e⟩
theorem refuse_overV (self:Value):∀ (l:List Value),overV l = true → refuseLoop self "__setattr__" l = pure ()
  | [],e => by cases e
  | v :: r,e => by
    rcases overV_cases e with q | ⟨c,r',q,e'⟩
    · rw [q]; exact F.store_ValueError.passes self
    · injection q with q1 q2
      subst q1 q2
      rw [refuseLoop_ref]
      exact refuse_overV self r e'
theorem has_overV {T:String} (hT:vmro.contains (.type T) = true):∀ (l:List Value),overV l = true → l.contains (.type T) = true
  | [],e => by cases e
  | v :: r,e => by
    rcases overV_cases e with q | ⟨c,r',q,e'⟩
    · rw [q]; exact hT
    · injection q with q1 q2
      subst q1 q2
      rw [List.contains_cons,has_overV hT r e',Bool.or_true]
noncomputable def overIn (K:PySem.W.Frag) (C:Addr):Bool:=(PySem.W.clsIn K C).any fun cd => overV cd.mro
section
variable {prog:Program} {w:World} {A:Around} {E:Value → Shared → Prop} {s:Shared} {K:PySem.W.Frag} {x C:Addr} {name:Str} {v:Value}
theorem looks_over {T:String} (X:K.In s.heap) (hp:overIn K C = true) {ox:Obj} {od:Option Obj} (I:PySem.W.InstAt s.heap x ox C od) (hT:vmro.contains (.type T) = true) :
    PySem.W.Looks (model prog w) s.heap (isInstance (.ref x) (.type T)) true:=by
  obtain ⟨cd,hc,ho⟩:=PySem.W.any_some hp
  have ne:cd.mro.isEmpty = false:=by
    cases q:cd.mro with
    | nil => rw [q] at ho; cases ho
    | cons _ _ => rfl
  refine I.type.andThen (PySem.W.looks_mroIn X ?_)
  unfold PySem.W.mroIn
  rw [hc,Option.bind_some,if_neg (by rw [ne]; decide),has_overV hT _ ho]
theorem exc_set {vs:Array Value} {sl:Array (Option Value)} {Q:Unit → Shared → Prop} (X:K.In s.heap) (hx:s.heap.get? x = some ⟨.ref C,none,.fields vs,sl⟩)
    (hs:PySem.W.findIn K (.ref C) "__setattr__" = some (some (.builtin "object.__setattr__"))) (hp:overIn K C = true) (ht:PySem.W.takerIn K C name = some none) (hh:PySem.W.hasDictIn K C = true)
    (h:∀ h' t',h'.get? x = some ⟨.ref C,some s.heap.objs.size,.fields vs,sl⟩ → h'.Ns1 s.heap.objs.size (fun y => if y = name then some v else none) → (∀ b o,b ≠ x → s.heap.get? b = some o → h'.get? b = some o) →
      Q () { s with heap:=h',toks:=t' }):wpAny (model prog w) A (setAttr (.ref x) name v) Q E s:=by
  have J:PySem.W.InstAt s.heap x ⟨.ref C,none,.fields vs,sl⟩ C none:=⟨hx,rfl,rfl,trivial⟩
  refine PySem.W.set_plain X J hs ?_
  have SF:=F.store_ValueError
  refine codeAny_call_builtin SF.slot.plain SF.entry (@PySem.W.check_slot (model prog w) _ _ _ "object.__setattr__" "object" "__setattr__" (.ref x) _ [] _ SF.kind SF.split (looks_over (s:={ s with toks:=s.toks + 1 }) X hp J (by decide)) (SF.args _ _ _) ?_)
  obtain ⟨cd,hc,ho⟩:=PySem.W.any_some hp
  obtain ⟨cd',hc',hd'⟩:=PySem.W.any_some hh
  cases hc.symm.trans hc'
  have hm:PySem.W.Looks (model prog w) s.heap (mroOf (.ref C)) cd.mro:=(PySem.W.looks_clsIn X hc).andThen .now
  obtain ⟨attr,ha,hr⟩:=Option.bind_eq_some_iff.mp ht
  have L3:PySem.W.Looks (model prog w) s.heap (storeTaker? attr) none:=by
    cases attr with
    | none => exact .now
    | some a =>
      obtain ⟨b,hb,z⟩:=Option.map_eq_some_iff.mp hr
      refine (PySem.W.looks_takesIn X hb).andThen ?_
      cases b
      · exact .now
      · cases z
  rw [PySem.W.osa_eq,refuse_eq]
  refine wpAny_bind (wpAny_bind (PySem.W.Looks.here (s:={ s with toks:=s.toks + 1 }) J.type (wpAny_bind (PySem.W.Looks.here (s:={ s with toks:=s.toks + 1 }) hm ?_))))
  rw [refuse_overV _ _ ho]
  refine wpAny_pure (wpAny_bind (PySem.W.Looks.here (s:={ s with toks:=s.toks + 1 }) J.type (wpAny_bind (PySem.W.Looks.here (s:={ s with toks:=s.toks + 1 }) (PySem.W.looks_findIn X ha) (wpAny_bind (PySem.W.Looks.here (s:={ s with toks:=s.toks + 1 }) L3 ?_))))))
  refine wpAny_bind (wpAny_pure (wpAny_bind (wpAny_bind (wpAny_loadPart hx (wpAny_bind (PySem.W.Looks.here (s:={ s with toks:=s.toks + 1 }) (PySem.W.looks_clsIn X hc) ?_))))))
  rw [hd']
  have hx1:(s.heap.push { cls:=.type "dict",data:=.dict #[] }).get? x = some ⟨.ref C,none,.fields vs,sl⟩:=Heap.get?_push_of_some _ hx
  have hxs:x ≠ s.heap.objs.size:=Nat.ne_of_lt (Heap.lt_size hx)
  refine wpAny_bind (wpAny_alloc' (h:=s.heap) ?_)
  refine wpAny_bind (wpAny_update' hx1 ?_)
  refine wpAny_pure ?_
  have hgd:((s.heap.push { cls:=.type "dict",data:=.dict #[] }).update x fun o => { o with dict:=some s.heap.objs.size }).get? s.heap.objs.size = some { cls:=.type "dict",data:=.dict #[] } :=
    (Heap.get?_update_ne _ _ _ _ hxs.symm).trans (Heap.get?_push_at rfl rfl)
  have hnd:((s.heap.push { cls:=.type "dict",data:=.dict #[] }).update x fun o => { o with dict:=some s.heap.objs.size }).Ns s.heap.objs.size (fun _ => none) :=
    ⟨_,#[],_,hgd,rfl,fun e he => absurd he (by simp),fun _ => rfl⟩
  show wpAny _ _ (storeInDict s.heap.objs.size (.str name s.toks) name v) _ _ _
  unfold storeInDict newKeyGuard
  refine wpAny_bind (wpAny_pure (wpAny_bind (wpAny_nsSet1 (Heap.Ns1.of_empty hnd) fun h' hn' hs' => ?_)))
  obtain ⟨oD,esD,epD,hoD,hdD,hcD⟩:=hn'.count (Within.cons name v Within.nil)
  refine wpAny_bind (wpAny_lookBehind hoD (by rw [hdD]; exact pastItsLine_dict (Nat.le_trans hcD (by rw [List.length_cons,List.length_nil,sizeLine_eq]; omega))) ?_)
  refine wpAny_pure (h h' _ ?_ hn' fun b o hb e => ?_)
  · exact (hs'.2 x hxs).trans (Heap.get?_update_self _ hx1 rfl)
  · exact (hs'.2 b (Nat.ne_of_lt (Heap.lt_size e))).trans ((Heap.get?_update_ne _ _ _ _ hb).trans (Heap.get?_push_of_some _ e))
theorem exc_get {ox:Obj} {od:Option Obj} {expr:Bool} {Q:Value → Shared → Prop} (X:K.In s.heap) (I:PySem.W.InstAt s.heap x ox C od) (hga:PySem.W.findIn K (.ref C) "__getattribute__" = some (some (.builtin "BaseException.__getattribute__")))
    (hk:PySem.W.findIn K (.ref C) "__getattr__" = some none) (hp:overIn K C = true) (hf:PySem.W.findObj K C od name = some (.value v)) (hh:PySem.W.handedIn v = true) (h:Q v { s with toks:=s.toks + 1 }) :
    wpAny (model prog w) A (getAttr (.ref x) name expr) Q E s:=by
  have ga:=F.attrBase_ValueError.ga
  have L0:=I.type (M:=model prog w)
  have L1:=PySem.W.looks_findIn (M:=model prog w) X hga
  refine wpAny_bind (wpAny_mkText (wpAny_holding (wpAny_bind (L0 _ _ _ _ (fun _ _ e => e) (wpAny_bind (L1 _ _ _ _ (fun _ _ e => e) ?_))))))
  dsimp only
  rw [show (Value.builtin "BaseException.__getattribute__" == Value.builtin "object.__getattribute__") = false from by decide +kernel,Bool.and_false,if_neg (by decide)]
  refine wpAny_bind ((PySem.W.looks_hook X (r:=none) (by rw [if_pos (show onTheHeap (.ref C) = true from rfl)]; exact hk)) _ _ _ _ (fun _ _ e => e) (wpAny_bind (wpAny_attempt (wpAny_holding ?_))))
  unfold callGetattribute
  rw [show (expr && onTheHeap (Value.builtin "BaseException.__getattribute__")) = false from Bool.and_false _,if_neg (by decide)]
  unfold boundAndCalled
  rw [ga.bind]
  refine wpAny_bind (wpAny_pure ?_)
  show wpAny _ _ (call (.builtin "BaseException.__getattribute__") [.ref x,.str name s.toks]) _ _ _
  refine wpAny_call (codeAny_call_builtin ga.plain F.entry_bexc_ga ?_)
  refine @PySem.W.check_slot (model prog w) _ _ { s with toks:=s.toks + 1 } "BaseException.__getattribute__" "BaseException" "__getattribute__" (.ref x) [.str name s.toks] [] _ (by decide +kernel) (by decide +kernel) (looks_over (s:={ s with toks:=s.toks + 1 }) X hp I (by decide)) (F.args_bexc_ga _ _) ?_
  have L2:=PySem.W.looks_find (M:=model prog w) X I hf
  refine wpAny_bind (wpAny_pure (wpAny_bind (wpAny_pure (wpAny_bind (L0 _ _ _ _ (fun _ _ e => e) (wpAny_bind (L2 _ _ _ _ (fun _ _ e => e) ?_)))))))
  refine wpAny_pure ?_
  show wpAny _ _ (handedOut v) _ _ _
  rw [PySem.W.handedOut_of hh]
  exact wpAny_pure h
end
noncomputable def ownX (K:PySem.W.Frag) (C f:Addr):Bool:=match K.lookup C with
  | some ⟨.type "type",_,.cls c,ss⟩ => (match c.mro,ss.toList with
    | .ref C1 :: tl,[_,_,_,_,some (.builtin i),_] => C1 == C && i == "ValueError.__new__" && !c.hasDel && PySem.W.tailIn K vmro tl && PySem.W.nsOkIn K c.ns && PySem.W.nsIn K c.ns "__init__" == some (some (.ref f))
    | _,_ => false)
  | _ => false
theorem nsMap_some {K:PySem.W.Frag} {h:Heap} {N:Addr} {y:Str} {u:Value} (X:K.In h) (q:PySem.W.nsIn K N y = some (some u)):h.nsMap N y = some u:=by
  unfold PySem.W.nsIn at q
  split at q
  · rename_i ho
    unfold Heap.nsMap
    rw [X _ _ ho]
    split at q
    · rename_i z
      have q':=Option.some.inj (Option.some.inj q)
      show nsFind _ _ = _
      unfold nsFind findBy
      rw [← Array.find?_toList,z,← q']
      rfl
    · split at q
      · cases q
      · cases Option.some.inj q
  · cases q
inductive OwnXAt (h:Heap) (C f:Addr):Prop
  | mk (nm qn N bs bm hd sn sub ab col dd k0 k1 k2 k3 k5 mN:_):h.get? C = some (excClassObj nm qn C N bs bm hd sn sub ab col dd k0 k1 k2 k3 k5 "ValueError.__new__") → h.Ns N mN → mN "__init__" = some (.ref f) → OwnTail h vmro bm → OwnXAt h C f
theorem ownX_at {K:PySem.W.Frag} {h:Heap} {C f:Addr} (X:K.In h) (q:ownX K C f = true):OwnXAt h C f:=by
  unfold ownX at q
  split at q
  · rename_i dd c ss ho
    split at q
    · rename_i C1 tl k0 k1 k2 k3 i k5 e1 e2
      simp only [Bool.and_eq_true,beq_iff_eq,Bool.not_eq_true'] at q
      obtain ⟨⟨⟨⟨⟨rfl,rfl⟩,q1⟩,q2⟩,q3⟩,q4⟩:=q
      obtain ⟨nm,bs,mro,ns,qn,hd,sn,sub,ab,col,del⟩:=c
      dsimp only at e1 q1 q3 q4
      subst e1 q1
      obtain ⟨l⟩:=ss
      simp only at e2
      subst e2
      exact ⟨nm,qn,ns,bs,tl,hd,sn,sub,ab,col,dd,k0,k1,k2,k3,k5,_,X _ _ ho,.of_isNs (PySem.W.isNs_of_in X q3),nsMap_some X q4,PySem.W.tail_of_in X q2⟩
    · cases q
  · cases q
section
variable {prog:Program} {w:World} {A:Around} {E:Value → Shared → Prop} {s:Shared} {K:PySem.W.Frag} {x C f:Addr} {name:Str} {v:Value}
theorem base_init {vs:Array Value} {sl:Array (Option Value)} {dx:Option Addr} {u:Value} {old:Addr} {Q:Value → Shared → Prop} (X:K.In s.heap) (hx:s.heap.get? x = some ⟨.ref C,dx,.fields vs,sl⟩) (h0:vs[0]? = some (.ref old)) (hq:ownX K C f = true)
    (h:∀ h' t',h'.get? x = some ⟨.ref C,dx,.fields (vs.setIfInBounds 0 (.ref s.heap.objs.size)),sl⟩ → (∀ b o,b ≠ x → s.heap.get? b = some o → h'.get? b = some o) → Q .none { s with heap:=h',toks:=t' }) :
    wpAny (model prog w) A (call (.builtin "ValueError.__init__") [.ref x,u]) Q E s:=by
  have FB:=F.excBase_ValueError
  obtain ⟨nm,qn,N,bs,bm,hd,sn,sub,ab,col,dd,k0,k1,k2,k3,k5,mN,hC,hn,hi,T⟩:=ownX_at X hq
  obtain ⟨hh,g,d,t,os⟩:=s
  refine wpAny_call (codeAny_call_builtin FB.init.plain FB.initEntry (wpAny_check_init_subT FB T hC hx rfl ?_))
  unfold Builtin.«BaseException.__init__»
  have hz:0 < vs.size:=(Array.getElem?_eq_some_iff.mp h0).1
  repeat wp_step
  rw [h0]
  have hx1:(hh.push { cls:=.type "tuple",data:=.seq #[u] }).get? x = some ⟨.ref C,dx,.fields vs,sl⟩:=Heap.get?_push_of_some _ hx
  refine wpAny_pure (wpAny_bind (wpAny_setField hx1 rfl hz ?_))
  repeat wp_step
  refine h _ _ ?_ fun b o hb e => ?_
  · exact Heap.get?_update_self _ hx1 rfl
  · exact (Heap.get?_update_other _ _ (Ne.symm hb)).trans (Heap.get?_push_of_some _ e)
end
end M
set_option Elab.async false
set_option linter.all false
set_option maxRecDepth 100000
set_option maxHeartbeats 4000000
namespace M
open PySem PySem.Spec PyProof.Rows L2
noncomputable def rawP (e:Addr) (C:Value) (dx:Option Addr):Heap → Prop:=fun h => ∃ t,h.get? e = some ⟨C,dx,.fields #[.ref t,.none,.none,.none,.bool false,.none],#[]⟩
theorem raw_ok {P:Program} {w:World} {H:Hp} {h:Heap} {a:Addr} {C:Value} {dx:Option Addr} (x:rawP a C dx h):ObjOk P w H h a (.ext (rawP a C dx)) :=
  ⟨x,let ⟨_,e⟩:=x; ⟨_,e⟩,fun _ _ ⟨t,e⟩ k => ⟨t,k _ e⟩⟩
theorem rawP.x {h:Heap} {e:Addr} {C:Value} {dx:Option Addr} (x:rawP e C dx h):XObj h e C dx none:=let ⟨t,e'⟩:=x; ⟨_,_,e',show 1 < 6 by decide,rfl⟩
structure XCl (K:PySem.W.Frag) (C f:Addr) (nm:Str):Prop where
  own:ownX K C f = true
  over:overIn K C = true
  set:PySem.W.findIn K (.ref C) "__setattr__" = some (some (.builtin "object.__setattr__"))
  ga:PySem.W.findIn K (.ref C) "__getattribute__" = some (some (.builtin "BaseException.__getattribute__"))
  hook:PySem.W.findIn K (.ref C) "__getattr__" = some none
  dict:PySem.W.hasDictIn K C = true
  taker:PySem.W.takerIn K C nm = some none
  no:PySem.W.findIn K (.ref C) nm = some none
  fn:PySem.W.isFn K (.ref f) = true
  kp:PySem.W.keepIn K (.ref C) = true
structure XUp (K:PySem.W.Frag) (D:Addr):Prop where
  rd:PySem.W.readsIn K D (.type "type") = true
  fd:PySem.W.findCls K (.ref D) (.type "type") "__init__" = some (.val (.builtin "ValueError.__init__"))
  sp:PySem.W.specialIn K (.ref D) "__getattribute__" = some (some (.builtin "type.__getattribute__"))
noncomputable def spI (C:Addr) (nm:Str):Sp:=fun vs H Q _ => ∃ e i,vs = [.ref e,.int i] ∧ i.natAbs.log2 < 1920 ∧ H e = some (.ext (rawP e (.ref C) none)) ∧
  ∀ dx,H dx = none → Q .non (upd (upd H e (.ext (rawP e (.ref C) (some dx)))) dx (.xd [(nm,.int i)]))
section
variable {X:Cx} {pos p1 p2 p3 p4 p5 p6 p7:Pos} {self at_:Str} {txt:Str} {j:Nat} {D C f:Addr} {nm:Str} {xD:Str}
theorem pe_fstr {i0:Nat} (ha:PE X (.Name at_ p4) (tVar i0)) (hl:txt.length ≤ 1000):PE X (.JoinedStr [.Constant (.str txt) j p2,.FormattedValue (.Name at_ p4) (-1) none p5] p6)
    (fun σ H Q => ∃ i,σ[i0]? = some (some (.int i)) ∧ i.natAbs.log2 < 1920 ∧ ∀ y,Q (.str y) H):=by
  intro pins s σ H Q I h
  obtain ⟨i,e,hi,q⟩:=h
  refine JoinedStr_many (joinParts_cons (Calls.Constant_str ⟨?_,joinParts_cons (FormattedValue_plain ?_)⟩))
  · rw [show (Str.empty ++ txt) = txt from by rw [PySem.Str.empty_append]]
    exact Nat.le_trans hl (by rw [sizeLine_eq]; omega)
  · refine thn (ha pins _ σ H (fun v H1 => v = .int i ∧ H1 = H) (I.tok _) ⟨_,e,rfl,rfl⟩) fun u s1 ⟨v,H1,I1,r,ev,eH⟩ => ?_
    subst ev eH
    obtain ⟨tk,rfl⟩:=r
    refine formatField_int_small hi ?_
    have hz:(Str.empty ++ txt ++ Str.ofString (toString i)).length ≤ sizeLine:=by
      rw [strLen_append,show (Str.empty ++ txt) = txt from by rw [PySem.Str.empty_append]]
      have:=int_text_len_1921 hi
      rw [sizeLine_eq]
      omega
    exact ⟨hz,joinParts_nil ⟨.str _,H1,I1.tok _,⟨_,rfl⟩,q _⟩ hz⟩
theorem pe_upinit {i0 i1:Nat} {xD:Str} {pl:Sem Bool} (c:XCl X.K C f nm) (u:XUp X.K D) (hg:Gl X xD) (hm:X.mg xD = some (.ref D)) (hs:PE X (.Name self p3) (tVar i0)) (ha:PE X (.Name at_ p4) (tVar i1)) (hl:txt.length ≤ 1000)
    (hdb:(xD == ("__debug__":Str)) = false:=by decide)
    (ht:eval (.Call (.Attribute (.Name xD p1) "__init__" p7) [.Name self p3,.JoinedStr [.Constant (.str txt) j p2,.FormattedValue (.Name at_ p4) (-1) none p5] p6] [] pos) X.env = (do
      let ov ← eval (.Name xD p1) X.env
      standAt p7.atName
      let (f,first) ← holding [ov] (getMethod ov "__init__" pl)
      callWith pos f first (backTo pos (starEach [.Name self p3,.JoinedStr [.Constant (.str txt) j p2,.FormattedValue (.Name at_ p4) (-1) none p5] p6] X.env)) (backToKw pos (keywordEach [] X.env))):=by rfl) :
    PE X (.Call (.Attribute (.Name xD p1) "__init__" p7) [.Name self p3,.JoinedStr [.Constant (.str txt) j p2,.FormattedValue (.Name at_ p4) (-1) none p5] p6] [] pos)
      (fun σ H Q => ∃ e i,σ[i0]? = some (some (.ref e)) ∧ σ[i1]? = some (some (.int i)) ∧ i.natAbs.log2 < 1920 ∧ H e = some (.ext (rawP e (.ref C) none)) ∧ Q .non H):=by
  intro pins s σ H Q I h
  obtain ⟨e,i,h1,h2,hi,he,q⟩:=h
  refine PySem.W.methodCall_KW (pl:=pl) (ld_glob I hg hm ?_ hdb) ht
  refine PySem.W.method_cls I.kIn u.sp (PySem.W.cls_value I.kIn u.rd u.fd rfl ?_)
  refine PyProof.Rows.callWith_builtin1 (thn ((pa_cons hs (pa_cons (pe_fstr ha hl) pa_nil)) pos pins _ σ H (fun vs H1 => H1 = H ∧ ∃ y,vs = [.ref e,.str y]) (I.tok _) ⟨_,h1,i,h2,hi,fun y => ⟨rfl,y,rfl⟩⟩) fun us s1 ⟨vs,H1,I1,r,eH,y,ev⟩ => ?_)
  subst eH ev
  obtain ⟨u1,u2,rfl,r1,r2⟩:=vals2 r
  obtain rfl:u1 = .ref e:=r1
  obtain ⟨⟨t,ht'⟩,-,-⟩:=I1.hok e _ he
  refine base_init I1.kIn ht' rfl c.own fun h' t' a b => ?_
  have same:upd H1 e (.ext (rawP e (.ref C) none)) = H1:=by
    funext b
    by_cases z:b = e
    · subst z; rw [upd_same,he]
    · rw [upd_ne z]
  have I2:=I1.write (x:=e) (e:=e) (o:=.ext (rawP e (.ref C) none)) (h':=h') (t':=t') (by rw [he]; trivial) (.inl rfl) b ⟨_,a⟩ (raw_ok ⟨_,a⟩)
  rw [same] at I2
  exact ⟨.non,H1,I2,rfl,q⟩
theorem ps_xset {i0 i1:Nat} (c:XCl X.K C f nm) (hs:PE X (.Name self p3) (tVar i0)) (ha:PE X (.Name at_ p4) (tVar i1)) (hsw:swapsWith (.Name at_ p4) (some (.Attribute (.Name self p3) nm p5)) pos.line X.env = pure false:=by rfl) :
    PS X (.Assign [.Attribute (.Name self p3) nm p5] (.Name at_ p4) pos)
      (fun D σ H => ∃ e i,σ[i0]? = some (some (.ref e)) ∧ σ[i1]? = some (some (.int i)) ∧ H e = some (.ext (rawP e (.ref C) none)) ∧ ∀ dx,H dx = none → D.nx σ (upd (upd H e (.ext (rawP e (.ref C) (some dx)))) dx (.xd [(nm,.int i)]))):=by
  intro pins s σ H D I h
  obtain ⟨e,i,h1,h2,he,q⟩:=h
  refine plainObj_wpAny_Assign_Attribute (thn (ha pins s σ H (fun v H1 => v = .int i ∧ H1 = H) I ⟨_,h2,rfl,rfl⟩) fun u s1 ⟨y,H1,I1,ry,ey,eH⟩ => thn (hs pins s1 σ H1 (fun v H2 => v = .ref e ∧ H2 = H1) I1 ⟨_,h1,rfl,rfl⟩) fun ov s2 ⟨x,H2,I2,rx,ex,eH2⟩ => ?_) hsw
  subst ey eH ex eH2
  obtain rfl:ov = .ref e:=rx
  obtain ⟨⟨t,ht'⟩,-,-⟩:=I2.hok e _ he
  refine exc_set I2.kIn ht' c.set c.over c.taker c.dict fun h' t' a n b => ?_
  have nd:H2 s2.heap.objs.size = none:=I2.hok.fresh (Nat.le_refl _)
  have ne:s2.heap.objs.size ≠ e:=Nat.ne_of_gt (Heap.lt_size ht')
  refine ⟨σ,_,?_,q s2.heap.objs.size nd⟩
  have ok1:HOk X.prog X.w (upd H2 e (.ext (rawP e (.ref C) (some s2.heap.objs.size)))) h':=I2.hok.write (x:=e) (e:=e) (by rw [he]; trivial) (.inl rfl) b ⟨_,a⟩ (raw_ok ⟨_,a⟩)
  have un1:Un X.fs [] H2 (upd H2 e (.ext (rawP e (.ref C) (some s2.heap.objs.size)))) s2.heap h':=Un.write (x:=e) (e:=e) (by rw [he]; trivial) (.inl rfl) b ⟨_,a⟩
  have f1:upd H2 e (.ext (rawP e (.ref C) (some s2.heap.objs.size))) s2.heap.objs.size = none:=by rw [upd_ne ne]; exact nd
  refine I2.un (t':=t') ?_ ?_
  · refine ⟨un1.keep,un1.slot,fun b' o q' n' hx => ?_,un1.there,fun b' xs q' => ?_,fun b' o u q' => ?_,fun b' ps q' => ?_⟩
    · rw [upd_ne (Nat.ne_of_lt (Heap.lt_size q'))]; exact un1.free b' o q' n' hx
    · have z:=un1.tups b' xs q'
      rw [upd_ne (ne_of_none z f1)]; exact z
    · have z:=un1.frzs b' o u q'
      rw [upd_ne (ne_of_none z f1)]; exact z
    · obtain ⟨m,z⟩:=un1.tbls b' ps q'
      exact ⟨m,by rw [upd_ne (ne_of_none z f1)]; exact z⟩
  · intro b' o' q'
    by_cases z:b' = s2.heap.objs.size
    · subst z
      rw [upd_same] at q'
      cases q'
      refine ⟨_,n,fun fl => ?_⟩
      by_cases zf:fl = nm
      · subst zf
        rw [if_pos rfl,List.lookup_cons_self]
        exact ry
      · rw [if_neg zf,List.lookup_cons,show (fl == nm) = false from by simpa using zf]
        exact True.intro
    · rw [upd_ne z] at q'
      refine (ok1 b' o' q').stay (fun c' v hc q => q) (fun c' q => ?_) fun c' xs q => ?_
      · rw [upd_ne (ne_of_none q f1)]; exact q
      · rw [upd_ne (ne_of_none q f1)]; exact q
end
end M
set_option Elab.async false
set_option linter.all false
set_option maxRecDepth 100000
set_option maxHeartbeats 4000000
namespace M
open PySem PySem.Spec PyProof.Rows L2
noncomputable abbrev upInit (xD self at_ txt:Str) (j:Nat) (p1 p2 p3 p4 p5 p6 p7 pos:Pos):Expr:=.Call (.Attribute (.Name xD p1) "__init__" p7) [.Name self p3,.JoinedStr [.Constant (.str txt) j p2,.FormattedValue (.Name at_ p4) (-1) none p5] p6] [] pos
theorem init_ok {P:Program} {w:World} {K:PySem.W.Frag} {mg:Str → Option Value} {base:Heap} {x qual self at_ xD txt nm:Str} {st:Stmt} {f C D:Addr} {fd:FuncData} {k j:Nat} {p1 p2 p3 p4 p5 p6 p7 p8 q3 q4 q5 q6 pos:Pos}
    (F:Fun K x qual st f fd) (S:FnScope [self,at_] [self,at_] (defScope st)) (c:XCl K C f nm) (u:XUp K D) (hm:mg xD = some (.ref D)) (hg:(defScope st).names.lookup xD = some .globalImplicit)
    (hb:defBody st = [.Expr (upInit xD self at_ txt j p1 p2 p3 p4 p5 p6 p7 pos) p8,.Assign [.Attribute (.Name self q3) nm q5] (.Name at_ q4) q6])
    (hl:txt.length ≤ 1000) (hv:Vis (defScope st) self) (hv':Vis (defScope st) at_)
    (ht:∀ env:Env,∃ pl,eval (upInit xD self at_ txt j p1 p2 p3 p4 p5 p6 p7 pos) env = (do
      let ov ← eval (.Name xD p1) env
      standAt p7.atName
      let (f,first) ← holding [ov] (getMethod ov "__init__" pl)
      callWith pos f first (backTo pos (starEach [.Name self p3,.JoinedStr [.Constant (.str txt) j p2,.FormattedValue (.Name at_ p4) (-1) none p5] p6] env)) (backToKw pos (keywordEach [] env))))
    (h1:∀ env:Env,swapsWith (upInit xD self at_ txt j p1 p2 p3 p4 p5 p6 p7 pos) none p8.line env = pure false)
    (h2:∀ env:Env,swapsWith (.Name at_ q4) (some (.Attribute (.Name self q3) nm q5)) q6.line env = pure false)
    (d1:(self == ("__debug__":Str)) = false:=by decide) (d2:(self == ("__classdict__":Str)) = false:=by decide) (d3:(at_ == ("__debug__":Str)) = false:=by decide) (d4:(at_ == ("__classdict__":Str)) = false:=by decide)
    (d5:(xD == ("__debug__":Str)) = false:=by decide):FnOk P w K mg base CX0 (k + 1) f fd [self,at_] (spI C nm):=by
  obtain ⟨oc,od,kV,doc,pm,an,cdv,ct,osl,rfl,lk,hcd⟩:=F.ex
  refine fn_of lk hcd S (fun vs H Q E ⟨e,i,z,_⟩ => by rw [z]; rfl) fun A outer s H vs Q E hr h => ?_
  obtain ⟨e,i,rfl,hi,he,q⟩:=h
  generalize hX:cxOf CX0 P w K mg base [self,at_] qual (defScope st) f cdv A outer s H E = X
  have eK:X.K = K:=by rw [← hX]; rfl
  have eg:X.mg = mg:=by rw [← hX]; rfl
  have eN:X.N = [self,at_]:=by rw [← hX]; rfl
  have es:X.env.scope = defScope st:=by rw [← hX]; rfl
  obtain ⟨pl,ht⟩:=ht X.env
  have hself:∀ p,PE X (.Name self p) (tVar 0):=fun p => pe_var (by rw [eN]; rfl) (by rw [es]; exact hv) d1 d2
  have hat:∀ p,PE X (.Name at_ p) (tVar 1):=fun p => pe_var (by rw [eN]; rfl) (by rw [es]; exact hv') d3 d4
  subst eK eg
  have a1:=pe_upinit (X:=X) (pl:=pl) (p5:=p5) (p6:=p6) (p2:=p2) (j:=j) c u (show Gl X xD by show X.env.scope.names.lookup xD = _; rw [es]; exact hg) hm (hself p3) (hat p4) hl d5 ht
  have a2:=ps_xset (X:=X) (p5:=q5) (pos:=q6) c (hself q3) (hat q4) (h2 X.env)
  refine ⟨_,by rw [hb]; exact pss_cons (ps_expr a1 (h1 X.env)) (pss_one a2),?_⟩
  exact ⟨e,i,rfl,rfl,hi,he,e,i,rfl,rfl,he,q⟩
end M
set_option Elab.async false
set_option linter.all false
set_option maxRecDepth 100000
set_option maxHeartbeats 4000000
namespace M
open PySem PySem.Spec PyProof.Rows L2
theorem raise_made {M:Model} {A:Around} {E:Value → Shared → Prop} {env:Env} {s:Shared} {x:Sem Value} {Q:Flow → Shared → Prop} {K:PySem.W.Frag} {C f:Addr} (hq:ownX K C f = true) (hh:A.handled = none)
    (h:wpAny M A x (fun v s₁ => ∃ e dx,v = .ref e ∧ K.In s₁.heap ∧ rawP e (.ref C) dx s₁.heap ∧ E (.ref e) s₁) E s):wpAny M A (raiseStmt env (some x) none) Q E s:=by
  unfold raiseStmt
  refine wpAny_bind (wpAny_mono h (fun v s₁ h₁ => ?_) fun _ _ x => x)
  obtain ⟨e,dx,rfl,X,⟨t,he⟩,hE⟩:=h₁
  obtain ⟨nm,qn,N,bs,bm,hd,sn,sub,ab,col,dd,k0,k1,k2,k3,k5,mN,hC,hn,hi,T⟩:=ownX_at X hq
  have hcB:(Value.ref C :: bm).contains (.type "BaseException") = true:=by rw [List.contains_cons,T.hasType (show vmro.contains (.type "BaseException") = true by decide),Bool.or_true]
  obtain ⟨hp,g,d,tk,os⟩:=s₁
  repeat (first | with_reducible refine wpAny_loadPart_at he ?_ | with_reducible refine wpAny_loadPart_at hC ?_ | (with_reducible refine wpAny_isSubtype_exc hC ?_; rw [hcB]) | wp_step)
  exact wpAny_raiseNew_none hh hE
section
variable {P:Program} {w:World} {K:PySem.W.Frag} {mg:Str → Option Value} {base:Heap} {N:List Str} {qual:Str} {sc:Scope} {f:Addr} {cdv:Value} {A:Around} {outer:List Env} {s:Shared} {H:Hp} {E:XK}
noncomputable def mRaise (k:Nat) (m:MX):MSt:=fun ρ μ => (m ρ μ).bind fun d μ1 => match d with
  | .int i => if i.natAbs.log2 < 1920 then .exc ⟨k,.int i⟩ μ1 else .bad
  | _ => .bad
end
end M
set_option Elab.async false
set_option linter.all false
set_option maxRecDepth 100000
set_option maxHeartbeats 4000000
namespace M
open PySem PySem.Spec PyProof.Rows L2
structure Hnd (K:PySem.W.Frag) (D:Addr):Prop where
  ty:PySem.W.typeIn K (.ref D) = some (.type "type")
  cl:(PySem.W.clsIn K D).isSome = true
  sub:PySem.W.subIn K (.ref D) (.type "BaseException") = some true
theorem looks_match {K:PySem.W.Frag} {M:Model} {h:Heap} {e C D:Addr} {o:Obj} (X:K.In h) (d:Hnd K D) (he:h.get? e = some o) (hc:o.cls = .ref C) (hs:PySem.W.subIn K (.ref C) (.ref D) = some true):PySem.W.Looks M h (excMatches (.ref e) (.ref D)) true:=by
  have k:=PySem.W.kit_cls (M:=M) (c:=.ref D) (t:=.ref C) (v:=true) X (by unfold PySem.W.kitCls; dsimp only; rw [d.cl,d.ty]; simpa using hs)
  have ty:PySem.W.Looks M h (typeOf (.ref e)) (.ref C):=hc ▸ (PySem.W.Looks.ld he).andThen .now
  have l1:PySem.W.Looks M h (isInstance (.ref D) (.type "tuple")) false:=k.1.andThen (PySem.W.Looks.of_pure tc_notTuple)
  have l2:PySem.W.Looks M h (isExcClass (.ref D)) true:=k.2.1.andThen (PySem.W.looks_subIn X d.sub)
  unfold excMatches
  refine l1.andThen (PySem.W.Looks.now.andThen ?_)
  simp only [List.forIn_cons,List.forIn_nil]
  refine PySem.W.Looks.andThen (a:=()) ?_ (ty.andThen ?_)
  · refine PySem.W.Looks.andThen (a:=ForInStep.yield ()) (l2.andThen ?_) .now
    exact .now
  · refine PySem.W.Looks.andThen (a:=(some true,())) (PySem.W.Looks.andThen (a:=ForInStep.done (some true,())) (k.2.2.andThen ?_) ?_) ?_
    · exact .now
    · exact .now
    · exact .now
theorem flight_on {Md:Model} {A:Around} {E:Value → Shared → Prop} {s:Shared} {e T:Addr} {C:Value} {dx:Option Addr} {Q:Unit → Shared → Prop} (x:XObj s.heap e C dx (some T))
    (q:∀ h',XObj h' e C dx (some T) → Noted [] e (some T) s.heap h' → Q () { s with heap:=h' }):wpAny Md A (setFlight (.ref e) none) Q E s:=by
  obtain ⟨vs,sl,he,hz,h1,ne,oT,ts,hT,hd,h3⟩:=x
  have z3:3 < ts.size:=(Array.getElem?_eq_some_iff.mp h3).1
  have ot:∀ b o,s.heap.get? b = some o → b ≠ T → (s.heap.update T (Obj.mapFields (·.setIfInBounds 3 Value.none))).get? b = some o:=fun b o hb n => (Heap.get?_update_other _ _ (Ne.symm n)).trans hb
  have nw:(s.heap.update T (Obj.mapFields (·.setIfInBounds 3 Value.none))).get? T = some (Obj.mapFields (·.setIfInBounds 3 Value.none) oT):=Heap.get?_update_self _ hT (by
    obtain ⟨c,d,dt,sl⟩:=oT
    cases hd
    rfl)
  refine wpAny_setFlight_none he rfl h1 hT hd z3 (q _ ⟨vs,sl,ot _ _ he (Ne.symm ne),hz,h1,ne,_,ts.setIfInBounds 3 .none,nw,?_,?_⟩ ⟨fun b o hb _ _ hn => ot b o hb fun z => hn (by rw [z]),fun b o hb _ hn => ⟨o.slots,ot b o hb fun z => hn (by rw [z])⟩⟩)
  · obtain ⟨c,d,dt,sl⟩:=oT
    cases hd
    rfl
  · simp [z3]
section
variable {X:Cx} {pins:List (Addr × Obj)} {σ:L2.St} {H:Hp} {s:Shared} {h':Heap} {a:Addr} {C:Value} {dx tr tr':Option Addr} {fs:List Addr}
theorem inv_noted (I:Inv X pins σ H s) (xo:XObj h' a C dx tr') (N:Noted fs a tr s.heap h') (hfs:∀ b ∈ fs,b ∈ frs X.stack) (ha:H a = some (.ext (excP a C dx)))
    (ht:∀ T,tr = some T → H T = none ∧ X.s₀.heap.objs.size ≤ T ∧ T ≠ X.env.locals ∧ (∀ x c,X.env.cells.lookup x = some c → c ≠ T) ∧ ∀ p ∈ X.pn ++ pins,p.1 ≠ T):Inv X pins σ H { s with heap:=h' }:=by
  have na:∀ b,H b = none → b ≠ a:=fun b n z => by rw [z,ha] at n; cases n
  refine I.call' (s':={ s with heap:=h' }) (ch:=tr.toList) rfl ⟨fun b o q n hc hx => ?_,fun b o q n hc hx => ?_,fun b o q n hx => n,fun b o q hx => ?_,fun b xs q => q,fun b o u q => q,fun b ps q => ⟨#[],by rw [q]; simp⟩⟩
    (hok_noted I.hok ha (fun T z => (ht T z).1) xo N fun b hb => I.stkFree b (hfs b hb)) I.bare fun b hb => ?_
  · exact N.keep b o q (fun z => hc (hfs b z)) (na b n) fun z => hx (by rw [z]; simp)
  · obtain ⟨sl,e⟩:=N.slot b o q (na b n) fun z => hx (by rw [z]; simp)
    exact ⟨sl,e⟩
  · by_cases z:b = a
    · obtain ⟨vs,sl,e,_⟩:=xo
      exact ⟨_,by rw [z]; exact e⟩
    · obtain ⟨sl,e⟩:=N.slot b o q z fun z => hx (by rw [z]; simp)
      exact ⟨_,e⟩
  · have z:tr = some b:=by
      cases tr with
      | none => cases hb
      | some T => simp at hb; rw [hb]
    obtain ⟨_,h1,h2,h3,h4⟩:=ht b z
    exact ⟨.inr h1,h2,h3,h4⟩
end
section
variable {X:Cx} {pins:List (Addr × Obj)} {σ:L2.St} {H:Hp} {s:Shared}
theorem fresh_at (I:Inv X pins σ H s) {T:Addr} (h:s.heap.objs.size ≤ T):X.s₀.heap.objs.size ≤ T ∧ T ≠ X.env.locals ∧ (∀ x c,X.env.cells.lookup x = some c → c ≠ T) ∧ ∀ p ∈ X.pn ++ pins,p.1 ≠ T :=
  ⟨Nat.le_trans I.sz h,Nat.ne_of_gt (Nat.lt_of_lt_of_le I.lt h),fun x c e => let ⟨_,_,z,_⟩:=I.cell x c e; Nat.ne_of_lt (Nat.lt_of_lt_of_le (Heap.lt_size z) h),fun p hp => Nat.ne_of_lt (Nat.lt_of_lt_of_le (Heap.lt_size (I.pin p hp).1) h)⟩
theorem unbind_ok {M:Model} {A:Around} {E:Value → Shared → Prop} {i:Nat} {x:Str} {pos:Pos} {Q:Unit → Shared → Prop} (I:Inv X pins σ H s) (hN:X.nd) (hi:X.N[i]? = some x) (hk:X.env.scope.names.lookup x = some .local)
    (h:∀ s',Inv X pins (σ.set i none) H s' → Q () s'):wpAny M A (do bindName X.env x .none; unbindBehindTheSuite X.env x pos) Q E s:=by
  obtain ⟨m,hn,hl⟩:=id I.loc
  have hcls:(X.env.scope.kind == .class || (X.env.scope.kind == .module && X.env.locals != X.env.globals)) = false:=by rw [I.ok.kind]; rfl
  refine wpAny_nameGoes_keeps hk hn hcls fun h' v hn' hs => h _ ?_
  obtain ⟨oL,_,_,hoL,_⟩:=id hn
  have nb:∀ b o,X.s₀.heap.get? b = some o → b ≠ X.env.locals:=fun b o e => Nat.ne_of_lt (Nat.lt_of_lt_of_le (Heap.lt_size e) I.ok.above)
  refine ⟨I.ok,I.os,I.bare,⟨fun b o e n hb hx => (hs.2 b (nb b o e)).trans (I.base.keep b o e n hb hx),fun b o e n hb hx => ?_,I.base.free,fun b o e hx => ?_,I.base.tups,I.base.frzs,I.base.tbls⟩,⟨_,hn',fun j y v' e1 e2 e3 => ?_⟩,fun y c e => ?_,I.free,I.freeC,fun p hp => ?_,fun b ob e => ?_,by simpa using I.len,fun f e => by rw [hN.2] at e; cases e⟩
  · obtain ⟨sl,e1⟩:=I.base.slot b o e n hb hx
    exact ⟨sl,(hs.2 b (nb b o e)).trans e1⟩
  · obtain ⟨o',e1⟩:=I.base.there b o e hx
    exact ⟨o',(hs.2 b (nb b o e)).trans e1⟩
  · have hj:j ≠ i:=fun z => by
      subst z
      by_cases hz:j < σ.length
      · rw [List.getElem?_set_self hz] at e2; cases e2
      · rw [List.getElem?_eq_none (by rw [List.length_set]; omega)] at e2; cases e2
    rw [List.getElem?_set_ne (Ne.symm hj)] at e2
    obtain ⟨u',r',q⟩:=hl j y v' e1 e2 e3
    refine ⟨u',r',?_⟩
    rcases q with ⟨k,e⟩ | ⟨k,c,e,z⟩
    · have ne:y ≠ x:=fun e => hj (nodup_ix hN.1 e1 (e ▸ hi))
      exact .inl ⟨k,by simp [ne,e]⟩
    · exact .inr ⟨k,c,e,z.sameBut hs (I.cne y c e)⟩
  · obtain ⟨w',z⟩:=I.cell y c e
    exact ⟨w',z.sameBut hs (I.cne y c e)⟩
  · obtain ⟨e,n,ne,nf,d⟩:=I.pin p hp
    exact ⟨(hs.2 p.1 ne).trans e,n,ne,nf,d⟩
  · refine (I.hok b ob e).stay (fun c w' hc q => (hs.2 c ?_).trans q) (fun _ q => q) fun _ _ q => q
    intro z
    subst z
    rcases hc with hc | hc
    · rw [← hc,I.free] at e; cases e
    · rw [I.free] at hc; cases hc
end
noncomputable def hand (X:Cx) (a:Addr) (pn:List (Addr × Obj)):Cx:={ X with A:=X.A.mark (some (.ref a)),calm:=false,pn:=pn,xe:=fun _ _ => False }
noncomputable def tryX (X:Cx) (pn:List (Addr × Obj)) (xe:Value → Shared → Prop):Cx:={ X with pn:=pn,xe:=xe }
section
variable {X:Cx} {pins pins':List (Addr × Obj)} {σ:L2.St} {H:Hp} {s:Shared} {xe:Value → Shared → Prop} {a:Addr}
theorem Cx.Ok.tryX {pn:List (Addr × Obj)} (o:X.Ok):(M.tryX X pn xe).Ok:=⟨o.mod,o.kind,o.glob,o.blt,o.above,o.inj,o.has,o.cab,o.hd,o.frames,o.stk,o.exf,o.bs,o.bsz,o.noex,o.exfs,o.funs,o.frf⟩
theorem Cx.Ok.hand {pn:List (Addr × Obj)} (o:X.Ok):(M.hand X a pn).Ok:=⟨o.mod,o.kind,o.glob,o.blt,o.above,o.inj,o.has,o.cab,(fun z => by cases z),o.frames,o.stk,o.exf,o.bs,o.bsz,o.noex,o.exfs,o.funs,o.frf⟩
theorem inv_unhand (ok:X.Ok) (I:Inv (hand X a (X.pn ++ pins)) pins' σ H s):Inv X pins σ H s:=⟨ok,I.os,I.bare,I.base,I.loc,I.cell,I.free,I.freeC,fun p hp => I.pin p (List.mem_append_left _ hp),I.hok,I.len,I.fx⟩
end
end M
set_option Elab.async false
set_option linter.all false
set_option maxRecDepth 100000
set_option maxHeartbeats 4000000
namespace M
open PySem PySem.Spec PyProof.Rows L2
noncomputable def xMu (c:Str × Option Str) (d:D) (μ:Mu):Mu:=match c.2 with
  | some nm => μ ++ [.xdc nm d] ++ [.exn c.1 μ.length]
  | none => μ ++ [.exz c.1]
noncomputable def xRf (c:Str × Option Str) (μ:Mu):D:=match c.2 with
  | some _ => .ref (μ.length + 1)
  | none => .ref μ.length
noncomputable def mTryK (i ie:Nat) (ok:Nat → Bool) (xc:XCs) (ne:MX) (ns:MSt):MSt:=fun ρ μ => match ne ρ μ with
  | .ok d μ1 => .ok (.nx (ρ.set i (some d))) μ1
  | .bad => .bad
  | .exc x μ1 => if ok x.c then (noX (ns (ρ.set ie (some (xRf (xc x.c) μ1))) (xMu (xc x.c) x.d μ1))).bind fun o μ2 => match o with
      | .nx ρ2 => .ok (.nx (ρ2.set ie none)) μ2
      | .rt d => .ok (.rt d) μ2
      | _ => .bad
    else .bad
theorem RS.unset {K:PySem.W.Frag} {Z:ZS} {α:List Addr} {F H:Hp} {σ:L2.St} {ρ:En} {μ:Mu} (R:RS K Z α F H σ ρ μ) (i:Nat):RS K Z α F H (σ.set i none) (ρ.set i none) μ :=
  ⟨R.hp,by simp [R.len],fun j d hd => by
    have hj:j ≠ i:=fun z => by
      subst z
      by_cases hz:j < ρ.length
      · rw [List.getElem?_set_self hz] at hd; cases hd
      · rw [List.getElem?_eq_none (by rw [List.length_set]; omega)] at hd; cases hd
    rw [List.getElem?_set_ne (Ne.symm hj)] at hd ⊢
    exact R.sl j d hd⟩
theorem excP_inj {h:Heap} {a:Addr} {C C':Value} {dx dx':Option Addr} (x:excP a C dx h) (y:excP a C' dx' h):C = C' ∧ dx = dx':=by
  obtain ⟨_,_,e⟩:=x
  obtain ⟨_,_,e'⟩:=y
  rw [e] at e'
  cases e'
  exact ⟨rfl,rfl⟩
theorem xh_lay {K:PySem.W.Frag} {Z:ZS} {α:List Addr} {F H:Hp} {μ:Mu} {c:Str × Option Str} {a dx:Addr} {v:V} {d:D} (R:RH K Z α F (del H a dx) μ) (rep:Rep K F α d v) (x:XH K c H a dx v) :
    ∃ α',RH K Z α' F H (xMu c d μ) ∧ Ext α F α' F ∧ Rep K F α' (xRf c μ) (.ref a):=by
  unfold XH at x
  have fn0:∀ b,del H a dx b = none → F b = none:=fun b hb => fnone R hb
  have da:del H a dx a = none:=by unfold del; rw [if_pos (.inl rfl)]
  have dd:del H a dx dx = none:=by unfold del; rw [if_pos (.inr rfl)]
  unfold xMu xRf
  cases hc:c.2 with
  | some nm =>
    rw [hc] at x
    obtain ⟨h1,h2⟩:=x
    have nad:a ≠ dx:=fun z => by rw [z,h2] at h1; cases h1
    have R1:=R.newCell (o':=.xd [(nm,v)]) (c:=.xdc nm d) dd ⟨fn0 dx dd,v,upd_same,rep.mono (ext_snoc _ _ _)⟩
    have R2:=R1.newCell (p:=a) (o':=.ext (excP a (.ref (cA K c.1)) (some dx))) (c:=.exn c.1 μ.length) (by rw [upd_ne nad]; exact da) ⟨fn0 a da,dx,by rw [← R.len]; simp,upd_same⟩
    have eH:upd (upd (del H a dx) dx (.xd [(nm,v)])) a (.ext (excP a (.ref (cA K c.1)) (some dx))) = H:=by
      funext b
      by_cases z:b = a
      · rw [z,upd_same,h1]
      · rw [upd_ne z]
        by_cases z':b = dx
        · rw [z',upd_same,h2]
        · rw [upd_ne z']
          unfold del
          rw [if_neg (fun q => q.elim z z')]
    rw [eH] at R2
    refine ⟨_,R2,(ext_snoc _ _ _).trans (ext_snoc _ _ _),?_⟩
    unfold Rep
    exact ⟨a,by rw [← R.len]; simp,rfl⟩
  | none =>
    rw [hc] at x
    obtain ⟨rfl,h1⟩:=x
    have R1:=R.newCell (p:=dx) (o':=.ext (excP dx (.ref (cA K c.1)) none)) (c:=.exz c.1) dd ⟨fn0 dx dd,upd_same⟩
    have eH:upd (del H dx dx) dx (.ext (excP dx (.ref (cA K c.1)) none)) = H:=by
      funext b
      by_cases z:b = dx
      · rw [z,upd_same,h1]
      · rw [upd_ne z]
        unfold del
        rw [if_neg (fun q => q.elim z z)]
    rw [eH] at R1
    refine ⟨_,R1,ext_snoc _ _ _,?_⟩
    unfold Rep
    exact ⟨dx,by rw [← R.len]; simp,rfl⟩
theorem xh_cls {K:PySem.W.Frag} {c:Str × Option Str} {H:Hp} {a dx:Addr} {v:V} (x:XH K c H a dx v):∃ o,H a = some (.ext (excP a (.ref (cA K c.1)) o)):=by
  unfold XH at x
  split at x
  · exact ⟨_,x.1⟩
  · exact ⟨_,x.2⟩
noncomputable def tryK (X:Cx) (pn:List (Addr × Obj)) (xe:Value → Shared → Prop) (f:Str → Option Value):Cx:={ X with pn:=pn,xe:=xe,kn:=some f }
section
variable {X:Cx} {pins pins':List (Addr × Obj)} {σ:L2.St} {H:Hp} {s:Shared} {xe:Value → Shared → Prop} {a:Addr} {f:Str → Option Value}
theorem Cx.Ok.tryK {pn:List (Addr × Obj)} (o:X.Ok):(M.tryK X pn xe f).Ok:=⟨o.mod,o.kind,o.glob,o.blt,o.above,o.inj,o.has,o.cab,o.hd,o.frames,o.stk,o.exf,o.bs,o.bsz,o.noex,o.exfs,o.funs,o.frf⟩
theorem inv_tryK (I:Inv X pins σ H s) (hf:s.heap.Ns X.env.locals f):Inv (tryK X (X.pn ++ pins) xe f) [] σ H s:=⟨Cx.Ok.tryK I.ok,I.os,I.bare,I.base,I.loc,I.cell,I.free,I.freeC,fun p hp => I.pin p (by rw [List.append_nil] at hp; exact hp),I.hok,I.len,fun g e => by cases e; exact hf⟩
theorem inv_untryK (ok:X.Ok) (hk:X.kn = none) (I:Inv (tryK X (X.pn ++ pins) xe f) pins' σ H s):Inv X pins σ H s:=⟨ok,I.os,I.bare,I.base,I.loc,I.cell,I.free,I.freeC,fun p hp => I.pin p (List.mem_append_left _ hp),I.hok,I.len,fun g e => by rw [hk] at e; cases e⟩
theorem inv_handK (ok:X.Ok) (hk:X.kn = none) (I:Inv (tryK X (X.pn ++ pins) xe f) pins' σ H s):Inv (hand X a (X.pn ++ pins)) pins' σ H s:=⟨Cx.Ok.hand ok,I.os,I.bare,I.base,I.loc,I.cell,I.free,I.freeC,I.pin,I.hok,I.len,fun g e => by rw [show (hand X a (X.pn ++ pins)).kn = none from hk] at e; cases e⟩
theorem inv_again {σ0:L2.St} {s0:Shared} {H0:Hp} (I0:Inv X pins σ0 H0 s0) (hl:∀ x ∈ X.N,X.env.kindOf x = some .local) {m:Str → Option Value} (hm:∀ (i:Nat) (x:Str) (v:V),X.N[i]? = some x → σ0[i]? = some (some v) → Vis X.env.scope x → ∃ u,RelV v u ∧ Look X.env s0.heap m x u)
    (I:Inv (hand X a (X.pn ++ pins)) pins' σ H s) (hf:s.heap.Ns X.env.locals m):Inv (hand X a (X.pn ++ pins)) pins' σ0 H s:=by
  refine ⟨I.ok,I.os,I.bare,I.base,⟨m,hf,fun i x v e1 e2 e3 => ?_⟩,I.cell,I.free,I.freeC,I.pin,I.hok,I0.len,I.fx⟩
  obtain ⟨u,r,l⟩:=hm i x v e1 e2 e3
  refine ⟨u,r,?_⟩
  rcases l with l | ⟨l,_⟩
  · exact .inl l
  · have:=hl x (List.mem_of_getElem? e1)
    rw [this] at l
    rcases l with l | l <;> cases l
end
section
variable {X:Cx} {EX:EXT}
theorem ms_tryK {i ie:Nat} {x xn nE:Str} {D:Addr} {ok:Nat → Bool} {xc:XCs} {e:Expr} {suite:List Stmt} {b0:Stmt} {ne:MX} {ns:MSt} {p1 hp pos pos' apos:Pos} (hst:X.stack = X.env :: X.outer) (hfr:X.env.frame = some X.env.locals)
    (hN:X.nd) (hlo:∀ x ∈ X.N,X.env.kindOf x = some .local) (hix:X.N[i]? = some x) (hi:X.N[ie]? = some nE) (hl:X.env.scope.names.lookup nE = some .local) (hlx:Loc X.env.scope x) (hfx:X.fn x = true) (d:Hnd X.K D) (hg:Gl X xn) (hm:X.mg xn = some (.ref D)) (hok:∀ k,ok k = true → PySem.W.subIn X.K (.ref (cA X.K (xc k).1)) (.ref D) = some true)
    (hb:∀ pn xe f E,Passes (CXR X.prog X.w) (tryK X pn xe f) E → ME (tryK X pn xe f) (exT X.K xc E) e ne) (hs:∀ a pn,MSs (hand X a pn) NoX (b0 :: suite) ns)
    (hsw:swapsWith e (some (.Name x pos')) apos.line X.env = pure false:=by rfl) (hdb:(xn == ("__debug__":Str)) = false:=by decide) :
    MS X EX (.Try [.Assign [.Name x pos'] e apos] [.ExceptHandler (some (.Name xn p1)) (some nE) (b0 :: suite) hp] [] [] pos) (mTryK i ie ok xc ne ns):=by
  refine ⟨fun N σ H => ∀ pins s,Inv X pins σ H s → wpAny (model X.prog X.w) X.A (exec (.Try [.Assign [.Name x pos'] e apos] [.ExceptHandler (some (.Name xn p1)) (some nE) (b0 :: suite) hp] [] [] pos) X.env) (SP X pins N) X.xe s,fun pins s σ H D I h => h pins s I,fun Z α F H σ ρ μ N R g pins s I => ?_⟩
  have okX:=I.ok
  obtain ⟨mm,hmm,hml⟩:=id I.loc
  let E:XK:=fun e _ H' => ∃ x μ1 a dx v α' F',e = .ref a ∧ ne ρ μ = .exc x μ1 ∧ RH X.K (Z.at α F) α' F' (del H' a dx) μ1 ∧ Rep X.K F' α' x.d v ∧ XH X.K (xc x.c) H' a dx v
  let W:Value → Shared → Prop:=fun e s₁ => wpAny (model X.prog X.w) X.A (noteFrame e X.env) (fun _ s₂ => wpAny (model X.prog X.w) X.A (setFlight e none) (fun _ s₃ => wpAny (model X.prog X.w) X.A (handleBy e X.env [.ExceptHandler (some (.Name xn p1)) (some nE) (b0 :: suite) hp]) (SP X pins N) X.xe s₃) X.xe s₂) X.xe s₁
  have pass:Passes (CXR X.prog X.w) (tryK X (X.pn ++ pins) W mm) E:=by
    intro pins0 σ0 H0 s0 e s' I0 hcx
    obtain ⟨a,C,dx0,T,H',rfl,os,bare,un,hok',xo,ha,hT,na,nT,hE⟩:=hcx
    obtain ⟨x,μ1,a',dx,v,α',F',ea,enb,RH',rep,xh⟩:=hE
    cases ea
    have I1:=I0.call' (ch:=[]) os un hok' bare fun b z => absurd z (by simp)
    obtain ⟨o1,h1⟩:=xh_cls xh
    have ho:=I1.hok a _ h1
    obtain ⟨rfl,rfl⟩:=excP_inj xo.p ho.1
    have frT:=fresh_at I0 nT
    show wpAny _ _ _ _ _ _
    refine fly_on (L:=X.env.locals) (outer:=X.outer) (base:=X.base) (by have:=okX.frames; rw [hst] at this; exact this) (by have:=I1.stack; rw [show (tryK X (X.pn ++ pins) W mm).stack = X.env :: X.outer from hst] at this; exact this) hfr xo fun h2' T' xo' nT' Nd => ?_
    have I2:=inv_noted I1 xo' Nd (fun b hb => by rw [show (tryK X (X.pn ++ pins) W mm).stack = X.env :: X.outer from hst]; exact hb) h1 fun T'' z => by cases z; exact ⟨hT,frT⟩
    have hT':H' T' = none:=I1.hok.fresh nT'
    have frT':=fresh_at I1 nT'
    have I3:Inv (hand X a (X.pn ++ pins)) pins0 σ H' { s' with heap:=h2' }:=inv_again I hlo hml (inv_handK okX hN.2 I2) (I2.fx mm rfl)
    refine wpAny_handleBy_cons (codeAny_handlers_test (ld_glob I3 hg hm ?_ hdb)) (by intro q; cases q)
    obtain ⟨vo,so,eo,_⟩:=id xo'
    have bok:ok x.c = true ∧ GS X.K EX Z α F N ((noX (ns (ρ.set ie (some (xRf (xc x.c) μ1))) (xMu (xc x.c) x.d μ1))).bind fun o μ2 => match o with
        | .nx ρ2 => .ok (.nx (ρ2.set ie none)) μ2
        | .rt d => .ok (.rt d) μ2
        | _ => .bad):=by
      unfold mTryK at g
      rw [enb] at g
      dsimp only at g
      split at g
      · rename_i z; exact ⟨z,g⟩
      · exact g.elim
    refine (looks_match I3.kIn d eo rfl (hok _ bok.1)).here ?_
    show codeAny _ _ _ _ _
    refine codeAny_handlers_suite_as (flight_on xo' fun h3' xo3 Nd3 => ?_)
    have I4:=inv_noted I3 xo3 Nd3 (fun b hb => by cases hb) h1 fun T'' z => by cases z; exact ⟨hT',frT'⟩
    refine store_ok (X:=hand X a (X.pn ++ pins)) (v:=.ref a) I4 hN hi (.inl hl) rfl (fun s5 I5 => ?_) (.inr hl)
    have I6:Inv (hand X a (X.pn ++ pins)) [] (σ.set ie (some (.ref a))) H' s5:=I5.pins_of (pins':=[]) fun p hp => by cases hp
    obtain ⟨α2,R2,e2,rp⟩:=xh_lay RH' rep xh
    have RS2:RS X.K (Z.at α F) α2 F' H' (σ.set ie (some (.ref a))) (ρ.set ie (some (xRf (xc x.c) μ1))) (xMu (xc x.c) x.d μ1) :=
      RS.set ie ⟨R2,R.len,fun j d' hd => let ⟨v',h1,h2⟩:=R.sl j d' hd; ⟨v',h1,h2.mono (RH'.ext.trans e2)⟩⟩ rp
    obtain ⟨ts,pts,sts⟩:=hs a (X.pn ++ pins)
    let Dn:Ends:={ nx:=fun σ2 H2 => N.nx (σ2.set ie none) H2,rt:=N.rt }
    have gs:GS X.K NoX (Z.at α F) α2 F' Dn (ns (ρ.set ie (some (xRf (xc x.c) μ1))) (xMu (xc x.c) x.d μ1)):=by
      have g2:=bok.2
      cases er:ns (ρ.set ie (some (xRf (xc x.c) μ1))) (xMu (xc x.c) x.d μ1) with
      | bad => rw [er] at g2; exact g2
      | exc y μ2 => rw [er] at g2; exact g2
      | ok o μ2 =>
        rw [er] at g2
        cases o with
        | nx ρ2 => exact fun σ3 α3 F3 H3 R3 e3 => g2 _ α3 F3 H3 ((⟨R3.hp.back R.hp.ext,R3.len,R3.sl⟩:RS X.K Z α3 F3 H3 σ3 ρ2 μ2).unset ie) R3.hp.ext
        | rt w => exact fun u α3 F3 H3 R3 e3 r3 => g2 u α3 F3 H3 (R3.back R.hp.ext) R3.ext r3
        | bk ρ2 => exact g2.elim
        | ct ρ2 => exact g2.elim
    refine wpAny_mono (pts [] s5 _ H' Dn I6 (sts _ _ _ _ _ _ _ _ RS2 gs)) (fun f s7 hf => ?_) fun _ _ z => z.elim
    cases f with
    | next =>
      obtain ⟨σ2,H2,I7,q⟩:=hf
      exact unbind_ok (inv_unhand okX I7) hN hi hl fun s8 I8 => ⟨_,_,I8,q⟩
    | ret u =>
      obtain ⟨w,σ2,H2,I7,rw',q⟩:=hf
      exact unbind_ok (inv_unhand okX I7) hN hi hl fun s8 I8 => ⟨w,_,_,I8,rw',q⟩
    | brk => obtain ⟨_,_,_,q⟩:=hf; exact q.elim
    | cont => obtain ⟨_,_,_,q⟩:=hf; exact q.elim
  obtain ⟨tb,ptb,stb⟩:=hb (X.pn ++ pins) W mm E pass
  have IY:Inv (tryK X (X.pn ++ pins) W mm) [] σ H s:=inv_tryK I hmm
  have gb:GE X.K (exT X.K xc E) (Z.at α F) α F (fun v H1 => N.nx (σ.set i (some v)) H1) (ne ρ μ):=by
    cases er:ne ρ μ with
    | bad => unfold mTryK at g; rw [er] at g; exact g
    | exc x μ1 => exact fun a dx v α' F' H' RH' rep xh => ⟨x,μ1,a,dx,v,α',F',rfl,er,RH',rep,xh⟩
    | ok d1 μ1 =>
      unfold mTryK at g
      rw [er] at g
      exact fun v α3 F3 H3 R3 e3 r3 => g _ α3 F3 H3 ((R.to (R3.back R.hp.ext) e3).set i r3) e3
  refine wpAny_Try_except (wpAny_mono (Q:=fun fl s1 => fl = .next ∧ SP X pins N .next s1) ?_ (fun f s1 hf => ?_) fun _ _ z => z)
  · refine wpAny_execs_cons (wpAny_mono (wpAny_Assign_Name (Q:=fun fl s1 => fl = .next ∧ SP X pins N .next s1) (thn (ptb [] s σ H _ IY (stb _ _ _ _ _ _ _ _ ⟨R.hp.rebase,R.len,R.sl⟩ gb)) fun v s1 ⟨y,H1,I1,r1,q1⟩ => ?_) hsw) (fun f s1 hf => ?_) fun _ _ z => z)
    · exact store_ok (inv_untryK (pins:=pins) okX hN.2 I1) hN hix hlx r1 (fun s2 I2 => ⟨rfl,_,H1,I2,q1⟩) (.inl hfx)
    · obtain ⟨rfl,hf⟩:=hf
      exact wpAny_execs_nil ⟨rfl,hf⟩
  · obtain ⟨rfl,hf⟩:=hf
    exact wpAny_execs_nil hf
end
end M
set_option Elab.async false
set_option linter.all false
set_option maxRecDepth 100000
set_option maxHeartbeats 4000000
namespace M
open PySem PySem.Spec PyProof.Rows L2 PySem.Builtin PySem.Builtin.ObjectAttr
structure XGet (K:PySem.W.Frag) (C:Addr):Prop where
  over:overIn K C = true
  ga:PySem.W.findIn K (.ref C) "__getattribute__" = some (some (.builtin "BaseException.__getattribute__"))
  hook:PySem.W.findIn K (.ref C) "__getattr__" = some none
  dict:PySem.W.hasDictIn K C = true
  cl:PySem.W.findIn K (.ref C) "__class__" = some (some (.builtin "object.__class__"))
  gt:PySem.W.specialIn K (.builtin "object.__class__") "__get__" = some (some (.builtin "getset_descriptor.__get__"))
  tk:PySem.W.takesIn K (.builtin "object.__class__") = some true
  ob:PySem.W.mroIn K C (.type "object") = some true
section
variable {prog:Program} {w:World} {A:Around} {E:Value → Shared → Prop} {s:Shared} {K:PySem.W.Frag} {x C:Addr} {name:Str} {v:Value} {ox:Obj} {od:Option Obj}
theorem exc_class {Q:Option Value → Shared → Prop} (c:XGet K C) (X:K.In s.heap) (I:PySem.W.InstAt s.heap x ox C od) (h:Q (some (.ref C)) { s with toks:=s.toks + 1 }):wpAny (model prog w) A (getAttr? (.ref x) "__class__") Q E s:=by
  have ga:=F.attrBase_ValueError.ga
  have L0:=I.type (M:=model prog w)
  have L1:=PySem.W.looks_findIn (M:=model prog w) X c.ga
  have hf:PySem.W.findObj K C od "__class__" = some (.bind (.builtin "getset_descriptor.__get__") (.builtin "object.__class__")):=by
    obtain ⟨cd,hc,_⟩:=PySem.W.any_some c.dict
    unfold PySem.W.findObj
    rw [hc,Option.bind_some,c.cl,Option.bind_some]
    simp [c.gt,c.tk]
  have L2:=PySem.W.looks_find (M:=model prog w) X I hf
  unfold getAttr? getAttrBy? getAttrBy
  refine wpAny_bind (wpAny_mkText (wpAny_bind (wpAny_attempt (wpAny_holding (wpAny_bind (L0 _ _ _ _ (fun _ _ e => e) (wpAny_bind (L1 _ _ _ _ (fun _ _ e => e) ?_))))))))
  dsimp only
  rw [show (Value.builtin "BaseException.__getattribute__" == Value.builtin "object.__getattribute__") = false from by decide +kernel,Bool.and_false,if_neg (by decide)]
  refine wpAny_bind ((PySem.W.looks_hook X (r:=none) (by rw [if_pos (show onTheHeap (.ref C) = true from rfl)]; exact c.hook)) _ _ _ _ (fun _ _ e => e) (wpAny_bind (wpAny_attempt (wpAny_holding ?_))))
  unfold callGetattribute
  rw [show (false && onTheHeap (Value.builtin "BaseException.__getattribute__")) = false from rfl,if_neg (by decide)]
  unfold boundAndCalled
  rw [ga.bind]
  refine wpAny_bind (wpAny_pure ?_)
  show wpAny _ _ (call (.builtin "BaseException.__getattribute__") [.ref x,.str "__class__" s.toks]) _ _ _
  refine wpAny_call (codeAny_call_builtin ga.plain F.entry_bexc_ga ?_)
  refine @PySem.W.check_slot (model prog w) _ _ { s with toks:=s.toks + 1 } "BaseException.__getattribute__" "BaseException" "__getattribute__" (.ref x) [.str "__class__" s.toks] [] _ (by decide +kernel) (by decide +kernel) (looks_over (s:={ s with toks:=s.toks + 1 }) X c.over I (by decide)) (F.args_bexc_ga _ _) ?_
  refine wpAny_bind (wpAny_pure (wpAny_bind (wpAny_pure (wpAny_bind (L0 _ _ _ _ (fun _ _ e => e) (wpAny_bind (L2 _ _ _ _ (fun _ _ e => e) ?_)))))))
  show wpAny _ _ (holding [Value.builtin "object.__class__"] (call (.builtin "getset_descriptor.__get__") [.builtin "object.__class__",.ref x,.ref C]) >>= ret) _ _ _
  refine wpAny_bind (wpAny_holding (wpAny_call (PySem.W.class_get (s:={ s with toks:=s.toks + 1 }) (ox:=ox) (od:=od) X I c.ob ?_)))
  refine wpAny_pure ?_
  show wpAny _ _ (handedOut (.ref C)) _ _ _
  rw [PySem.W.handedOut_of (show PySem.W.handedIn (.ref C) = true from rfl)]
  exact wpAny_pure (wpAny_pure h)
theorem kitx_exc (c:XGet K C):PySem.W.KitX K (.ref x) (.ref C) (fun h => PySem.W.InstAt h x ox C od) where
  ty:=fun _ _ _ I => I.type
  it:=fun _ _ X _ => by
    obtain ⟨cd,hcD,_⟩:=PySem.W.any_some c.dict
    unfold PySem.W.clsIn at hcD
    split at hcD
    · rename_i ho
      intro A' Q' E' s' k q
      unfold isType loadHead
      exact wpAny_bind (wpAny_loadPart (k _ _ (X _ _ ho)) (wpAny_pure q))
    · cases hcD
  ne:=fun h tp dd its n sl X htp => by
    obtain ⟨cd,hcD,_⟩:=PySem.W.any_some c.dict
    refine Bool.eq_false_iff.mpr fun q => ?_
    have e:C = tp:=Value.ref.inj (beq_iff_eq.mp q)
    subst e
    unfold PySem.W.clsIn at hcD
    split at hcD
    · rename_i ho
      have z:=(X _ _ ho).symm.trans htp
      cases z
    · cases hcD
  ca:=fun X I k => exc_class c X I k
end
theorem exc_inst {P:Program} {w:World} {H:Hp} {h:Heap} {a dx C:Addr} {fs:List (Str × V)} (hok:HOk P w H h) (h1:H a = some (.ext (excP a (.ref C) (some dx)))) (h2:H dx = some (.xd fs)) :
    ∃ (ox od:Obj) (mA:Str → Option Value),PySem.W.InstAt h a ox C (some od) ∧ (∀ f,RelO (fs.lookup f) (mA f)) ∧ ∀ name,PySem.W.lookIn name od = some (mA name):=by
  obtain ⟨⟨vs,sl,e⟩,-,-⟩:=hok a _ h1
  obtain ⟨mA,n,r⟩:=hok dx _ h2
  obtain ⟨od,ho,hl⟩:=lookIn_ns n
  exact ⟨_,od,mA,⟨e,rfl,rfl,ho⟩,r,hl⟩
section
variable {X:Cx} {EX:EXT} {e:Expr} {m:MX} {pos:Pos}
noncomputable def mXat (ok:Str → Bool) (nm:Str) (m:MX):MX:=fun ρ μ => (m ρ μ).bind fun d μ1 => match d with
  | .ref k => match μ1[k]? with
    | some (.exn C j) => match μ1[j]? with
      | some (.xdc nm' d') => if ok C = true ∧ nm' = nm then .ok d' μ1 else .bad
      | _ => .bad
    | _ => .bad
  | _ => .bad
theorem me_xat {ok:Str → Bool} {nm:Str} (hC:∀ C,ok C = true → XGet X.K (cA X.K C) ∧ PySem.W.findIn X.K (.ref (cA X.K C)) nm = some none) (ha:ME X EX e m) (hb:attributeBase e nm X.env (eval e X.env) = eval e X.env:=by rfl):ME X EX (.Attribute e nm pos) (mXat ok nm m):=by
  obtain ⟨t,pt,st⟩:=ha
  refine ⟨fun σ H Q => t σ H fun v H1 => ∃ a C dx u,v = .ref a ∧ ok C = true ∧ H1 a = some (.ext (excP a (.ref (cA X.K C)) (some dx))) ∧ H1 dx = some (.xd [(nm,u)]) ∧ Q u H1,fun pins s σ H Q I h => ?_,fun Z α F H σ ρ μ Q R g => ?_⟩
  · refine attr_of hb (thn (pt pins s σ H _ I h) fun u0 s1 ⟨v,H1,I1,rx,a,C,dx,u,ev,ok',h1,h2,q⟩ => ?_)
    subst ev
    obtain rfl:u0 = Value.ref a:=rx
    obtain ⟨ox,od,mA,J,r,l⟩:=exc_inst I1.hok h1 h2
    obtain ⟨c,no⟩:=hC C ok'
    have rn:=r nm
    rw [List.lookup_cons_self] at rn
    cases em:mA nm with
    | none => rw [em] at rn; exact rn.elim
    | some u' =>
      rw [em] at rn
      have rn:RelV u u':=rn
      exact exc_get I1.kIn J c.ga c.hook c.over (PySem.W.findObj_own c.dict no rfl (by rw [l,em])) (handed_of rn) ⟨u,H1,I1.tok _,rn,q⟩
  · refine st Z α F H σ ρ μ _ R (GE.step (G:=GE X.K EX Z α F Q) g (fun _ _ h => h) (fun h => h) fun d μ1 v α1 F1 H1 R1 e1 p1 g1 => ?_)
    cases d with
    | ref k =>
      unfold Rep at p1
      obtain ⟨a,ha,rfl⟩:=p1
      dsimp only at g1
      split at g1
      · rename_i C j hk
        split at g1
        · rename_i nm' d' hj
          split at g1
          · rename_i hh
            obtain ⟨h0,rfl⟩:=hh
            obtain ⟨_,dx,h3,h4⟩:=R1.cell k a _ ha hk
            obtain ⟨_,u,h5,h6⟩:=R1.cell j dx _ h3 hj
            exact ⟨a,C,dx,u,rfl,h0,h4,h5,g1 u α1 F1 H1 R1 e1 h6⟩
          · exact g1.elim
        · exact g1.elim
      · exact g1.elim
    | _ => exact g1.elim
noncomputable def isxD (g:Str → Option Bool) (d:D) (μ1:Mu):Res D:=match d with
  | .ref k => match μ1[k]? with
    | some (.exn C j) => match μ1[j]? with
      | some (.xdc _ _) => ofO μ1 ((g C).map .bl)
      | _ => .bad
    | some (.exz C) => ofO μ1 ((g C).map .bl)
    | _ => .bad
  | _ => .bad
noncomputable def mIsX (g:Str → Option Bool) (m:MX):MX:=fun ρ μ => (m ρ μ).bind (isxD g)
noncomputable def XI (K:PySem.W.Frag) (H:Hp) (a:Addr) (C:Str):Prop:=(∃ dx fs,H a = some (.ext (excP a (.ref (cA K C)) (some dx))) ∧ H dx = some (.xd fs)) ∨ H a = some (.ext (excP a (.ref (cA K C)) none))
theorem XI.inst {P:Program} {w:World} {K:PySem.W.Frag} {H:Hp} {h:Heap} {a:Addr} {C:Str} (x:XI K H a C) (hok:HOk P w H h):∃ ox od,PySem.W.InstAt h a ox (cA K C) od:=by
  rcases x with ⟨dx,fs,h1,h2⟩ | h1
  · obtain ⟨ox,od,mA,J,_,_⟩:=exc_inst hok h1 h2
    exact ⟨ox,some od,J⟩
  · obtain ⟨⟨vs,sl,e⟩,_⟩:=hok a _ h1
    exact ⟨_,none,⟨e,rfl,rfl,trivial⟩⟩
theorem isx_good {g:Str → Option Bool} {α:List Addr} {F:Hp} {Z:ZS} {Q:VK} {d:D} {μ1:Mu} {v:V} {α1:List Addr} {F1 H1:Hp} (R1:RH X.K Z α1 F1 H1 μ1) (e1:Ext α F α1 F1) (p1:Rep X.K F1 α1 d v)
    (g1:GE X.K EX Z α F Q (isxD g d μ1)):∃ a C b,v = .ref a ∧ g C = some b ∧ XI X.K H1 a C ∧ ∀ v' α' F' H',RH X.K Z α' F' H' μ1 → Ext α F α' F' → Rep X.K F' α' (.bl b) v' → Q v' H':=by
  cases d with
  | ref k =>
    unfold Rep at p1
    obtain ⟨a,ha,rfl⟩:=p1
    unfold isxD at g1
    dsimp only at g1
    split at g1
    · rename_i C j hk
      split at g1
      · rename_i nm' d' hj
        obtain ⟨_,dx,h3,h4⟩:=R1.cell k a _ ha hk
        obtain ⟨_,u,h5,h6⟩:=R1.cell j dx _ h3 hj
        cases hg:g C with
        | none => rw [hg] at g1; exact g1.elim
        | some b =>
          rw [hg] at g1
          exact ⟨a,C,b,rfl,hg,.inl ⟨dx,_,h4,h5⟩,g1⟩
      · exact g1.elim
    · rename_i C hk
      obtain ⟨_,h4⟩:=R1.cell k a _ ha hk
      cases hg:g C with
      | none => rw [hg] at g1; exact g1.elim
      | some b =>
        rw [hg] at g1
        exact ⟨a,C,b,rfl,hg,.inr h4,g1⟩
    · exact g1.elim
  | _ => exact g1.elim
theorem call_isx {g:Str → Option Bool} {c:V} {cl:Value} (rc:RelV c cl) (hu:∀ u,RelV c u → u = cl) (hg:∀ C b,g C = some b → XGet X.K (cA X.K C) ∧ PySem.W.kitOne X.K (.ref (cA X.K C)) cl = some b) :
    CallR X (.builtin "isinstance") (fun xs H Q => ∃ a C b,xs = [.ref a,c] ∧ g C = some b ∧ XI X.K H a C ∧ Q (.bl b) H):=by
  intro pins s σ H xs us Q I r h
  obtain ⟨a,C,b,rfl,hb,h1,q⟩:=h
  obtain ⟨u,w',rfl,r1,r2⟩:=vals2 r
  obtain rfl:u = .ref a:=r1
  obtain rfl:=hu _ r2
  obtain ⟨ox,od,J⟩:=h1.inst I.hok
  obtain ⟨c',kit⟩:=hg C b hb
  exact PySem.W.kia_one (kitx_exc (ox:=ox) (od:=od) c') I.kIn J kit (fun z => nomatch z) fun tk => ⟨.bl b,H,I.tok _,rfl,q⟩
theorem me_isx_of {g:Str → Option Bool} {c:V} {cl:Value} {ec:Expr} {p:Pos} (rc:RelV c cl) (hu:∀ u,RelV c u → u = cl) (hc:PE X ec (tC c)) (hg:∀ C b,g C = some b → XGet X.K (cA X.K C) ∧ PySem.W.kitOne X.K (.ref (cA X.K C)) cl = some b)
    (hG:Gl X "isinstance") (hm:X.mg "isinstance" = none) (ha:ME X EX e m) (hs:starEach [e,ec] X.env = (false,eval e X.env) :: starEach [ec] X.env:=by rfl) (hs2:starEach [ec] X.env = [(false,eval ec X.env)]:=by rfl) :
    ME X EX (.Call (.Name "isinstance" p) [e,ec] [] pos) (mIsX g m):=by
  obtain ⟨t,pt,st⟩:=ha
  refine ⟨_,pe_callB (call_isx rc hu hg) hG hm PyProof.Rows.boot_isinstance (pa_cons pt (pa_cons hc pa_nil hs2) hs) (by decide) (by decide) hs (by rw [hs2]; rfl),fun Z α F H σ ρ μ Q R g => ?_⟩
  refine st Z α F H σ ρ μ _ R (GE.step (G:=GE X.K EX Z α F Q) g (fun _ _ h => h) (fun h => h) fun d μ1 v α1 F1 H1 R1 e1 p1 g1 => ?_)
  obtain ⟨a,C,b,rfl,hb,h1,q⟩:=isx_good R1 e1 p1 g1
  exact ⟨a,C,b,rfl,hb,h1,q _ α1 F1 H1 R1 e1 (rep_bl _)⟩
theorem me_isx {g:Str → Option Bool} {x:Str} {T:Addr} {p p2:Pos} (hg2:Gl X x) (hm2:X.mg x = some (.ref T)) (hg:∀ C b,g C = some b → XGet X.K (cA X.K C) ∧ PySem.W.kitOne X.K (.ref (cA X.K C)) (.ref T) = some b)
    (hG:Gl X "isinstance") (hm:X.mg "isinstance" = none) (ha:ME X EX e m) (hd:(x == ("__debug__":Str)) = false:=by decide) (hs:starEach [e,.Name x p2] X.env = (false,eval e X.env) :: starEach [.Name x p2] X.env:=by rfl) :
    ME X EX (.Call (.Name "isinstance" p) [e,.Name x p2] [] pos) (mIsX g m) :=
  me_isx_of (c:=.ref T) (cl:=.ref T) rfl (fun u r => r) (pe_glob hg2 hm2 rfl hd) hg hG hm ha hs
theorem me_isxB {g:Str → Option Bool} {x:Str} {T:String} {p p2:Pos} (hg2:Gl X x) (hm2:X.mg x = none) (hv:bootBuiltins x = some (.type T)) (hg:∀ C b,g C = some b → XGet X.K (cA X.K C) ∧ PySem.W.kitOne X.K (.ref (cA X.K C)) (.type T) = some b)
    (hG:Gl X "isinstance") (hm:X.mg "isinstance" = none) (ha:ME X EX e m) (hn:x ≠ "__name__":=by decide) (hd:(x == ("__debug__":Str)) = false:=by decide) (hs:starEach [e,.Name x p2] X.env = (false,eval e X.env) :: starEach [.Name x p2] X.env:=by rfl) :
    ME X EX (.Call (.Name "isinstance" p) [e,.Name x p2] [] pos) (mIsX g m) :=
  me_isx_of (c:=.ty T) (cl:=.type T) rfl (fun u r => r) (pe_bltn hg2 hm2 hv rfl hn hd) hg hG hm ha hs
end
end M
set_option Elab.async false
set_option linter.all false
set_option maxRecDepth 100000
set_option maxHeartbeats 4000000
namespace M
open PySem PySem.Spec PyProof.Rows L2
structure Ch (X:Cx) (N G:List Str):Prop where
  hN:X.N = N
  nd:N.Nodup
  loc:∀ x ∈ N,Loc X.env.scope x ∧ (x == ("__debug__":Str)) = false ∧ (x == ("__classdict__":Str)) = false
  gl:∀ x ∈ G,Gl X x
  fn:∀ x,X.fn x = true
  un:X.A.units + 200 < cLine
section
variable {X:Cx} {EX:EXT} {N G:List Str}
theorem ch_of {a:Addr} {pn:List (Addr × Obj)} (C:Ct X N G):Ch (hand X a pn) N G:=⟨C.hN,C.nd,C.loc,C.gl,C.fn,C.un⟩
theorem ct_tryK {pn:List (Addr × Obj)} {xe:Value → Shared → Prop} {f:Str → Option Value} (C:Ct X N G):Ct (tryK X pn xe f) N G:=⟨C.hN,C.nd,C.loc,C.gl,C.fn,C.calm,C.un⟩
theorem ct_try {pn:List (Addr × Obj)} {xe:Value → Shared → Prop} (C:Ct X N G):Ct (tryX X pn xe) N G:=⟨C.hN,C.nd,C.loc,C.gl,C.fn,C.calm,C.un⟩
theorem Ch.at (C:Ch X N G) {i:Nat} {x:Str} (h:N[i]? = some x):X.N[i]? = some x:=by rw [C.hN]; exact h
theorem Ch.ndX (C:Ch X N G):X.N.Nodup:=by rw [C.hN]; exact C.nd
theorem Ch.g (C:Ch X N G) (j:Nat) {x:Str} (h:G[j]? = some x):Gl X x:=C.gl x (mem_at h)
theorem svh (C:Ch X N G) (i:Nat) {x:Str} {pos:Pos} (h:N[i]? = some x):ME X EX (.Name x pos) (mVar i) :=
  me_var (C.at h) (Loc.vis (C.loc x (mem_at h)).1) (C.loc x (mem_at h)).2.1 (C.loc x (mem_at h)).2.2
theorem sah (C:Ch X N G) (i:Nat) {x:Str} {pos pos':Pos} {e:Expr} {m:MX} (h:N[i]? = some x) (he:ME X EX e m) (hs:swapsWith e (some (.Name x pos')) pos.line X.env = pure false:=by rfl) (hk:X.kn = none:=by rfl) :
    MS X EX (.Assign [.Name x pos'] e pos) (mSet i m):=ms_set ⟨C.ndX,hk⟩ (C.at h) (C.loc x (mem_at h)).1 (.inl (C.fn x)) he hs
end
section
variable {P:Program} {w:World} {K:PySem.W.Frag} {mg:Str → Option Value} {base:Heap} {xc:XCs}
theorem ct_ofX {CX:CXT} {N G:List Str} {qual:Str} {sc:Scope} {f:Addr} {cdv:Value} {A:Around} {outer:List Env} {s:Shared} {H:Hp} {E:XK} {k:Nat} (nd:N.Nodup)
    (loc:∀ x ∈ N,Loc sc x ∧ (x == ("__debug__":Str)) = false ∧ (x == ("__classdict__":Str)) = false) (gl:∀ x ∈ G,sc.names.lookup x = some .globalImplicit) (hr:Room k (A.deeper (envOfC qual sc s.heap.objs.size f cdv))) :
    Ct (cxOf CX P w K mg base N qual sc f cdv A outer s H E) N G :=
  ⟨rfl,nd,loc,gl,fun _ => rfl,rfl,by have:=hr.un; show (A.deeper _).units + 200 < cLine; omega⟩
noncomputable def FnAtX (P:Program) (w:World) (K:PySem.W.Frag) (mg:Str → Option Value) (base:Heap) (xc:XCs) (x:Str) (k n:Nat) (φ:Fn):Prop :=
  ∃ f fd ps,mg x = some (.ref f) ∧ PySem.W.keepIn K (.ref f) = true ∧ BindsS fd ps ∧ ps.length = n ∧ FnOk P w K mg base (CXR P w) k f fd ps (spX K xc n φ)
theorem fnOkX_of {x:Str} {st:Stmt} {N ps:List Str} {k j n:Nat} {b:MSt} {f:Addr} {fd:FuncData} (F:Fun K x x st f fd) (S:FnScope N ps (defScope st)) (hj:N.length - ps.length = j) (hn:ps.length = n)
    (hb:∀ (cdv:Value) (A:Around) (outer:List Env) (s:Shared) (H:Hp) (E:XK),Room k (A.deeper (envOfC x (defScope st) s.heap.objs.size f cdv)) →
      MSs (cxOf (CXR P w) P w K mg base N x (defScope st) f cdv A outer s H E) (exT K xc E) (defBody st) b):FnOk P w K mg base (CXR P w) (k + 1) f fd ps (spX K xc n (fnOf j b)):=by
  subst hn
  exact fn_okX F S hj hb
theorem fnAtX_of {x:Str} {st:Stmt} {ps:List Str} {k n:Nat} {φ:Fn} (D:DefAt K mg x st ps) (hn:ps.length = n)
    (hb:∀ (f:Addr) (fd:FuncData),Fun K x x st f fd → FnOk P w K mg base (CXR P w) k f fd ps (spX K xc n φ)):FnAtX P w K mg base xc x k n φ:=by
  obtain ⟨f,fd,h1,h2,h3⟩:=D
  exact ⟨f,fd,ps,h1,h2.kp,h3,hn,hb f fd h2⟩
theorem me_fnX {X:Cx} {x:Str} {p pos:Pos} {k n:Nat} {φ:Fn} {e:Expr} {es:List Expr} {ms:MAs} {E:XK} (F:FnAtX X.prog X.w X.K X.mg X.base xc x k n φ) (hx:Passes (CXR X.prog X.w) X E) (hr:Room k X.A) (hg:Gl X x)
    (ha:MA X (exT X.K xc E) (e :: es) ms) (hl:(e :: es).length = n) (hdb:(x == ("__debug__":Str)) = false:=by decide) (he:starEach (e :: es) X.env = (false,eval e X.env) :: starEach es X.env:=by rfl) (hpl:(backTo pos (starEach es X.env)).any (·.1) = false:=by rfl) :
    ME X (exT X.K xc E) (.Call (.Name x p) (e :: es) [] pos) (mCallX φ ms):=by
  obtain ⟨f,fd,ps,h1,h2,h3,h4,h5⟩:=F
  subst h4
  exact me_callX hx h5 hr hg h1 h2 (.all h3) ha hl hdb he hpl
noncomputable def ExAt (K:PySem.W.Frag) (mg:Str → Option Value) (cn nm qual self at_:Str) (st:Stmt):Prop :=
  ∃ fi fd,mg cn = some (.ref (cA K cn)) ∧ XCl K (cA K cn) fi nm ∧ Fun K "__init__" qual st fi fd ∧ BindsS fd [self,at_]
noncomputable def RsAt (P:Program) (w:World) (K:PySem.W.Frag) (mg:Str → Option Value) (base:Heap) (cn nm:Str) (ki:Nat):Prop :=
  ∃ fi fd self at_,mg cn = some (.ref (cA K cn)) ∧ XCl K (cA K cn) fi nm ∧ BindsS fd [self,at_] ∧ FnOk P w K mg base CX0 ki fi fd [self,at_] (spI (cA K cn) nm)
noncomputable def HndAt (K:PySem.W.Frag) (mg:Str → Option Value) (x:Str):Prop:=mg x = some (.ref (cA K x)) ∧ Hnd K (cA K x)
noncomputable def ClsAt (K:PySem.W.Frag) (mg:Str → Option Value) (x:Str):Prop:=mg x = some (.ref (cA K x))
noncomputable def allLoc (N:List Str) (sc:Scope):Bool:=N.all fun x => sc.names.lookup x == some .local
theorem ms_tryKT {X:Cx} {EX:EXT} {N G:List Str} {i ie:Nat} {x xn nE:Str} {ok:Nat → Bool} {e:Expr} {suite:List Stmt} {b0:Stmt} {ne:MX} {ns:MSt} {p1 hp pos pos' apos:Pos} (C:Ct X N G) (h:HndAt X.K X.mg xn) (hg:Gl X xn) (hlo:allLoc N X.env.scope = true) (hix:N[i]? = some x) (hi:N[ie]? = some nE)
    (hok:∀ k,ok k = true → PySem.W.subIn X.K (.ref (cA X.K (xc k).1)) (.ref (cA X.K xn)) = some true)
    (hb:∀ pn xe f E,Passes (CXR X.prog X.w) (tryK X pn xe f) E → Ct (tryK X pn xe f) N G → ME (tryK X pn xe f) (exT X.K xc E) e ne) (hs:∀ a pn,Ch (hand X a pn) N G → MSs (hand X a pn) NoX (b0 :: suite) ns)
    (hsw:swapsWith e (some (.Name x pos')) apos.line X.env = pure false:=by rfl) (hst:X.stack = X.env :: X.outer:=by rfl) (hfr:X.env.frame = some X.env.locals:=by rfl) (hk:X.kn = none:=by rfl) (hkd:∀ x,X.env.kindOf x = X.env.scope.names.lookup x:=by intro _; rfl) (hdb:(xn == ("__debug__":Str)) = false:=by decide) :
    MS X EX (.Try [.Assign [.Name x pos'] e apos] [.ExceptHandler (some (.Name xn p1)) (some nE) (b0 :: suite) hp] [] [] pos) (mTryK i ie ok xc ne ns):=by
  have lo:∀ y ∈ N,X.env.scope.names.lookup y = some .local:=fun y hy => by have:=List.all_eq_true.mp hlo y hy; simpa using this
  exact ms_tryK hst hfr ⟨C.ndX,hk⟩ (fun y hy => by rw [C.hN] at hy; rw [hkd]; exact lo y hy) (C.at hix) (C.at hi) (lo nE (mem_at hi)) (C.loc x (mem_at hix)).1 (C.fn x) h.2 hg h.1 hok (fun pn xe f E hx => hb pn xe f E hx (ct_tryK C)) (fun a pn => hs a pn (ch_of C)) hsw hdb
theorem of_mem {L:List Str} {Q:Str → Prop} (h:∀ x ∈ L,Q x) (C:Str) (hc:L.contains C = true):Q C:=h C (List.contains_iff_mem.mp hc)
theorem of_look {L:List (Str × Bool)} {Q:Str → Bool → Prop} (h:∀ x ∈ L,Q x.1 x.2) (C:Str) (b:Bool) (hc:L.lookup C = some b):Q C b:=h (C,b) (PySem.mem_of_lookup hc)
end
theorem boot_ValueError:bootBuiltins "ValueError" = some (.type "ValueError"):=by decide +kernel
noncomputable def clsBody:Stmt → List Stmt
  | .ClassDef _ _ _ b .. => b
  | _ => []
end M
set_option Elab.async false
set_option linter.all false
set_option maxRecDepth 100000
set_option maxHeartbeats 4000000
namespace M
open PySem PySem.Spec PyProof.Rows L2
theorem sp_lawM {K:PySem.W.Frag} {φ:Fn} {H:Hp} {a:Addr} {ns:List Int} (hS:SqL K H a (ns.map V.int)) (h:∃ μ,φ [.lst (ns.map .int)] [] = .ok (.bl true) μ):spM K 1 φ [.ref a] H (fun v _ => v = .bl true) (fun _ _ _ => False):=by
  obtain ⟨μ,h⟩:=h
  refine ⟨⟨fun _ => none,[],fun _ => none⟩,[],H,[.lst (ns.map .int)],[],⟨Same.refl H,rfl,fun k a c hk => (by simp at hk),fun b o e => (by cases e),fun b o e => (by cases e),fun k a c hk => (by simp at hk),fun j k a c c' hk => (by simp at hk),⟨fun b o e => (by cases e),fun k a hk => (by simp at hk)⟩⟩,?_,rfl,?_⟩
  · refine reps_cons ?_ reps_nil
    unfold Rep
    exact ⟨a,_,rfl,hS,reps_ints ns⟩
  · rw [h]
    intro v α' F' H' _ _ r
    unfold Rep at r
    exact r
theorem walk_lawM {l:PySem.W.OpenLaw} {q:Program} {loose:List Str} {XP:(Str → Option Value) → Heap → Prop} {YP:World → Heap → Prop} {d:DefRec} {K:Params → PySem.W.Frag} {k:Nat} {x:Str} {φ:Fn} (hn:l.most = some 63) (hdf:d.params.defaults = []) (hr:Room k callerA)
    (hY:∀ (w:World) (h:Heap),YP w h → (K w.params).In h)
    (F:∀ (w:World) (mg:Str → Option Value) (fa:Addr) (h:Heap),(K w.params).In h → h.Ns mainGlobals mg → mg d.name = some (.ref fa) →
      ∃ fd:FuncData,BindsS fd [x] ∧ ∀ base:Heap,FnOk l.prog w (K w.params) mg base CX0 k fa fd [x] (spM (K w.params) 1 φ))
    (hlaw:∀ ns:List Int,ns.length ≤ 63 → ∃ μ,φ [.lst (ns.map .int)] [] = .ok (.bl true) μ) :
    PySem.W.WalkO q loose XP YP l.row.toRowW d [] (fun f vs => PySem.call f vs) :=
  L2.walk_of (n:=63) (k:=k) (x:=x) (CX:=fun _ => CX0) (sp:=fun w => spM (K w.params) 1 φ) hn (by decide) hdf hr hY
    (fun w mg fa h hK hG hm => by
      obtain ⟨fd,hb,hf⟩:=F w mg fa h hK hG hm
      exact ⟨fd,fun s u => .of_eq (hb [u] rfl),fun base _ _ => hf base⟩)
    (fun w H a ns hl _ hS => sp_lawM hS (hlaw ns hl)) fun _ _ _ _ _ z => z
end M
set_option Elab.async false
set_option linter.all false
set_option maxRecDepth 100000
set_option maxHeartbeats 4000000
namespace M
open PySem PySem.Spec PyProof.Rows L2
noncomputable def XFly (h:Heap) (e:Addr) (C:Value) (dx:Option Addr) (tr:Option Addr) (L:Addr):Prop :=
  XObj h e C dx tr ∨ ∃ T vs sl,tr = some T ∧ h.get? e = some ⟨C,dx,.fields vs,sl⟩ ∧ 1 < vs.size ∧ vs[1]? = some (.ref T) ∧ T ≠ e ∧ ∃ oT ts,h.get? T = some oT ∧ oT.data = .fields ts ∧ ts[3]? = some (rawInt L)
theorem XFly.p {h:Heap} {e:Addr} {C:Value} {dx tr:Option Addr} {L:Addr} (x:XFly h e C dx tr L):excP e C dx h:=by
  rcases x with x | ⟨T,vs,sl,_,e,_⟩
  · exact x.p
  · exact ⟨vs,sl,e⟩
section
variable {Md:Model} {A:Around} {E:Value → Shared → Prop} {s:Shared} {base:Heap} {env:Env} {outer:List Env} {L e:Addr}
theorem entry_note {C:Value} {dx:Option Addr} {vs:Array Value} {sl:Array (Option Value)} {head:Value} {had:Bool} {Q:Unit → Shared → Prop} (hfr:A.frames = some (env :: outer)) (hl:s.heap.FunFrames base (env :: outer)) (hf:env.frame = some L)
    (he:s.heap.get? e = some ⟨C,dx,.fields vs,sl⟩) (hz:1 < vs.size) (q:∀ h' T,XFly h' e C dx (some T) L → s.heap.objs.size ≤ T → Noted (frs (env :: outer)) e none s.heap h' → Q () { s with heap:=h' }) :
    wpAny Md A (do let a ← frameOf env; let pl ← entryPlaceOf L had; let b ← EntryCells.newEntry head a .none (rawInt L) .none pl; setField (.ref e) 1 b) Q E s:=by
  have nf:e ∉ (env :: outer).filterMap (·.frame):=fun hm => by
    obtain ⟨_,o,ho,hn⟩:=hl.mem hm
    rw [he] at ho
    cases ho
    exact hn vs rfl
  refine wpAny_bind (wpAny_frameOf_fun hfr hl hf fun h1 so => wpAny_bind (wpAny_entryPlaceOf fun pl hpl => ?_))
  unfold EntryCells.newEntry newFields
  refine wpAny_bind (wpAny_newObj_type ?_ (hpl.sizeOk5 _ _ _ _ _))
  generalize hts:([head,Value.ref L,Value.none,rawInt L,Value.none] ++ if pl.isEmpty = true then List.replicate 6 Value.none else pl).toArray = ts
  have t3:ts[3]? = some (rawInt L):=by rw [← hts]; simp
  have e1:h1.get? e = some ⟨C,dx,.fields vs,sl⟩:=(so.2.1 e nf).trans he
  have nT:h1.objs.size ≠ e:=Nat.ne_of_gt (Heap.lt_size e1)
  have e2:=Heap.get?_push_of_some (h:=h1) { cls:=.type "traceback",data:=.fields ts } e1
  refine wpAny_setField e2 rfl hz (q _ h1.objs.size ?_ ?_ ?_)
  · refine .inr ⟨h1.objs.size,vs.setIfInBounds 1 (.ref h1.objs.size),sl,rfl,Heap.get?_update_self _ e2 rfl,by simpa using hz,by simp [hz],nT,_,ts,(Heap.get?_update_other _ _ (Ne.symm nT)).trans (Heap.get?_push_size h1 rfl),rfl,t3⟩
  · exact Nat.le_of_eq so.1.symm
  · have up:∀ b o,h1.get? b = some o → b ≠ e → ((h1.push { cls:=.type "traceback",data:=.fields ts }).update e (Obj.mapFields (·.setIfInBounds 1 (.ref h1.objs.size)))).get? b = some o:=fun b o hb hbe => by
      rw [Heap.get?_update_other _ _ (Ne.symm hbe)]
      exact Heap.get?_push_of_some _ hb
    refine ⟨fun b o hb hn hbe _ => up b o ((so.2.1 b hn).trans hb) hbe,fun b o hb hbe _ => ?_⟩
    obtain ⟨sl',e'⟩:=so.2.2 b o hb
    exact ⟨sl',up b _ e' hbe⟩
theorem note_on {C:Value} {dx tr:Option Addr} {Q:Unit → Shared → Prop} (hfr:A.frames = some (env :: outer)) (hl:s.heap.FunFrames base (env :: outer)) (hf:env.frame = some L) (x:XFly s.heap e C dx tr L)
    (q:∀ h' T,XFly h' e C dx (some T) L → (s.heap.objs.size ≤ T ∨ tr = some T) → Noted (frs (env :: outer)) e tr s.heap h' → Q () { s with heap:=h' }) :
    wpAny Md A (noteFrame (.ref e) env) Q E s:=by
  rcases x with ⟨vs,sl,he,hz,ht⟩ | ⟨T,vs,sl,rfl,he,hz,h1,ne,oT,ts,hT,hd,h3⟩
  · unfold noteFrame
    simp only [hf]
    cases tr with
    | none =>
      refine wpAny_bind (wpAny_field he rfl ht ?_)
      rw [if_neg (by decide)]
      exact entry_note hfr hl hf he hz fun h' T x' n' N => q h' T x' (.inl n') N
    | some T0 =>
      obtain ⟨h1,hne,oT,ts,hT,hd,h3⟩:=ht
      refine wpAny_bind (wpAny_field he rfl h1 ?_)
      rw [if_pos (by simp)]
      refine wpAny_bind (wpAny_field hT hd h3 ?_)
      rw [if_neg (by simp [rawInt])]
      refine wpAny_bind (wpAny_setField hT hd (Array.getElem?_eq_some_iff.mp h3).1 ?_)
      have ot:∀ b,b ≠ T0 → (s.heap.update T0 (Obj.mapFields (·.setIfInBounds 3 Value.none))).get? b = s.heap.get? b:=fun b hb => Heap.get?_update_other _ _ (Ne.symm hb)
      have nr:∀ b o,s.heap.get? b = some o → (∀ vs,o.data ≠ .fields vs) → b ≠ T0:=fun b o hb hn z => by
        rw [z,hT] at hb
        cases hb
        exact hn ts hd
      refine entry_note (s:={ s with heap:=s.heap.update T0 (Obj.mapFields (·.setIfInBounds 3 Value.none)) }) hfr (hl.of_keeps fun b o hb hn => ⟨o,(ot b (nr b o hb hn)).trans hb,rfl⟩) hf ((ot e (Ne.symm hne)).trans he) hz fun h' T x' n' N => q h' T x' (.inl ?_) ?_
      · have n2:(s.heap.update T0 (Obj.mapFields (·.setIfInBounds 3 Value.none))).objs.size ≤ T:=n'
        rw [Heap.size_update] at n2
        exact n2
      · exact ⟨fun b o hb hn hbe hbt => N.keep b o ((ot b fun z => hbt (by rw [z])).trans hb) hn hbe (by simp),fun b o hb hbe hbt => N.slot b o ((ot b fun z => hbt (by rw [z])).trans hb) hbe (by simp)⟩
  · exact wpAny_noteFrame_inFlight hf he rfl h1 hT hd h3 (q s.heap T (.inr ⟨T,vs,sl,rfl,he,hz,h1,ne,oT,ts,hT,hd,h3⟩) (.inr rfl) ⟨fun b o hb _ _ _ => hb,fun b o hb _ _ => ⟨o.slots,hb⟩⟩)
theorem flight_set {C:Value} {dx:Option Addr} {T:Addr} {fl:Option Addr} {Q:Unit → Shared → Prop} (x:XFly s.heap e C dx (some T) L) (hfl:fl = none ∨ fl = some L)
    (q:∀ h',XFly h' e C dx (some T) L → (fl = none → XObj h' e C dx (some T)) → Noted [] e (some T) s.heap h' → Q () { s with heap:=h' }):wpAny Md A (setFlight (.ref e) fl) Q E s:=by
  obtain ⟨vs,sl,he,hz,h1,ne,oT,ts,hT,hd,z3⟩:∃ vs sl,s.heap.get? e = some ⟨C,dx,.fields vs,sl⟩ ∧ 1 < vs.size ∧ vs[1]? = some (.ref T) ∧ T ≠ e ∧ ∃ oT ts,s.heap.get? T = some oT ∧ oT.data = .fields ts ∧ 3 < ts.size:=by
    rcases x with ⟨vs,sl,he,hz,h1,ne,oT,ts,hT,hd,h3⟩ | ⟨T',vs,sl,eT,he,hz,h1,ne,oT,ts,hT,hd,h3⟩
    · exact ⟨vs,sl,he,hz,h1,ne,oT,ts,hT,hd,(Array.getElem?_eq_some_iff.mp h3).1⟩
    · cases eT; exact ⟨vs,sl,he,hz,h1,ne,oT,ts,hT,hd,(Array.getElem?_eq_some_iff.mp h3).1⟩
  obtain ⟨w,hw⟩:∃ w:Value,w = fl.elim Value.none fun f => rawInt f:=⟨_,rfl⟩
  have ot:∀ b o,s.heap.get? b = some o → b ≠ T → (s.heap.update T (Obj.mapFields (·.setIfInBounds 3 w))).get? b = some o:=fun b o hb n => (Heap.get?_update_other _ _ (Ne.symm n)).trans hb
  have nw:(s.heap.update T (Obj.mapFields (·.setIfInBounds 3 w))).get? T = some (Obj.mapFields (·.setIfInBounds 3 w) oT):=Heap.get?_update_self _ hT (by
    obtain ⟨c,d,dt,sl⟩:=oT
    cases hd
    rfl)
  have nd:(Obj.mapFields (·.setIfInBounds 3 w) oT).data = .fields (ts.setIfInBounds 3 w):=by
    obtain ⟨c,d,dt,sl⟩:=oT
    cases hd
    rfl
  have n3:(ts.setIfInBounds 3 w)[3]? = some w:=by simp [z3]
  have kp:Noted [] e (some T) s.heap (s.heap.update T (Obj.mapFields (·.setIfInBounds 3 w))):=⟨fun b o hb _ _ hn => ot b o hb fun z => hn (by rw [z]),fun b o hb _ hn => ⟨o.slots,ot b o hb fun z => hn (by rw [z])⟩⟩
  unfold setFlight
  refine wpAny_bind (wpAny_field he rfl h1 ?_)
  rw [if_pos (show (Value.ref T != Value.none) = true from by simp),← hw]
  refine wpAny_setField hT hd z3 ?_
  rcases hfl with rfl | rfl
  · have hw:w = .none:=hw
    subst hw
    have xo:XObj (s.heap.update T (Obj.mapFields (·.setIfInBounds 3 .none))) e C dx (some T):=⟨vs,sl,ot _ _ he (Ne.symm ne),hz,h1,ne,_,_,nw,nd,n3⟩
    exact q _ (.inl xo) (fun _ => xo) kp
  · have hw:w = rawInt L:=hw
    subst hw
    exact q _ (.inr ⟨T,vs,sl,rfl,ot _ _ he (Ne.symm ne),hz,h1,ne,_,_,nw,nd,n3⟩) (fun z => by cases z) kp
end
section
variable {X:Cx} {pins:List (Addr × Obj)} {σ:L2.St} {H:Hp} {s:Shared} {h h':Heap} {a:Addr} {C:Value} {dx tr:Option Addr} {fs:List Addr} {P:Program} {w:World}
theorem hok_notedP (x:HOk P w H h) (ha:H a = some (.ext (excP a C dx))) (ht:∀ T,tr = some T → H T = none) (xo:excP a C dx h') (N:Noted fs a tr h h') (hf:∀ b ∈ fs,H b = none):HOk P w H h':=fun b u e => by
  by_cases hb:b = a
  · subst hb
    rw [ha] at e
    cases e
    exact exc_ok xo
  · refine (x b u e).stay (fun c v hc q => ?_) (fun _ q => q) fun _ _ q => q
    have hn:∃ u',H c = some u' ∧ c ≠ a:=by
      rcases hc with rfl | hc
      · exact ⟨u,e,hb⟩
      · exact ⟨_,hc,fun z => by rw [z,ha] at hc; cases hc⟩
    obtain ⟨u',e',hca⟩:=hn
    exact N.keep c v q (fun z => by rw [hf c z] at e'; cases e') hca (fun z => by rw [ht c z] at e'; cases e')
theorem inv_notedP (I:Inv X pins σ H s) (xo:excP a C dx h') (N:Noted fs a tr s.heap h') (hfs:∀ b ∈ fs,b ∈ frs X.stack) (ha:H a = some (.ext (excP a C dx)))
    (ht:∀ T,tr = some T → H T = none ∧ X.s₀.heap.objs.size ≤ T ∧ T ≠ X.env.locals ∧ (∀ x c,X.env.cells.lookup x = some c → c ≠ T) ∧ ∀ p ∈ X.pn ++ pins,p.1 ≠ T):Inv X pins σ H { s with heap:=h' }:=by
  have na:∀ b,H b = none → b ≠ a:=fun b n z => by rw [z,ha] at n; cases n
  refine I.call' (s':={ s with heap:=h' }) (ch:=tr.toList) rfl ⟨fun b o q n hc hx => ?_,fun b o q n hc hx => ?_,fun b o q n hx => n,fun b o q hx => ?_,fun b xs q => q,fun b o u q => q,fun b ps q => ⟨#[],by rw [q]; simp⟩⟩
    (hok_notedP I.hok ha (fun T z => (ht T z).1) xo N fun b hb => I.stkFree b (hfs b hb)) I.bare fun b hb => ?_
  · exact N.keep b o q (fun z => hc (hfs b z)) (na b n) fun z => hx (by rw [z]; simp)
  · obtain ⟨sl,e⟩:=N.slot b o q (na b n) fun z => hx (by rw [z]; simp)
    exact ⟨sl,e⟩
  · by_cases z:b = a
    · obtain ⟨vs,sl,e⟩:=xo
      exact ⟨_,by rw [z]; exact e⟩
    · obtain ⟨sl,e⟩:=N.slot b o q z fun z => hx (by rw [z]; simp)
      exact ⟨_,e⟩
  · have z:tr = some b:=by
      cases tr with
      | none => cases hb
      | some T => simp at hb; rw [hb]
    obtain ⟨_,h1,h2,h3,h4⟩:=ht b z
    exact ⟨.inr h1,h2,h3,h4⟩
end
inductive Rzp (X:Cx) (E:XK) (e:Value) (s':Shared):Prop
  | mk (pins:List (Addr × Obj)) (σ:L2.St) (H':Hp) (a:Addr) (C:Value) (dx tr:Option Addr):e = .ref a → Inv X pins σ H' s' → XFly s'.heap a C dx tr X.env.locals → H' a = some (.ext (excP a C dx)) →
  (∀ T,tr = some T → H' T = none ∧ X.s₀.heap.objs.size ≤ T ∧ T ≠ X.env.locals ∧ (∀ x c,X.env.cells.lookup x = some c → c ≠ T) ∧ ∀ p ∈ X.pn ++ pins,p.1 ≠ T) → X.s₀.heap.objs.size ≤ a → E e (some a) H' → Rzp X E e s'
noncomputable abbrev Rz (X:Cx) (E:XK):Value → Shared → Prop:=Rzp X E
section
variable {X:Cx} {E:XK}
theorem inv_xe {xe:Value → Shared → Prop} {pins:List (Addr × Obj)} {σ:L2.St} {H:Hp} {s:Shared} (I:Inv (tryX X X.pn xe) pins σ H s) (ok:X.Ok):Inv X pins σ H s:=⟨ok,I.os,I.bare,I.base,I.loc,I.cell,I.free,I.freeC,I.pin,I.hok,I.len,I.fx⟩
theorem inv_ex {xe:Value → Shared → Prop} {pins:List (Addr × Obj)} {σ:L2.St} {H:Hp} {s:Shared} (I:Inv X pins σ H s):Inv (tryX X X.pn xe) pins σ H s:=⟨Cx.Ok.tryX I.ok,I.os,I.bare,I.base,I.loc,I.cell,I.free,I.freeC,I.pin,I.hok,I.len,I.fx⟩
theorem own_Rz (hst:X.stack = X.env :: X.outer) (hfr:X.env.frame = some X.env.locals):PassesOwn (model X.prog X.w) X.A X.env (Rz X E):=by
  rintro e s' ⟨pins,σ,H',a,C,dx,tr,rfl,I,x,ha,ht,na,hE⟩
  have fr:X.A.frames = some (X.env :: X.outer):=by have:=I.ok.frames; rw [hst] at this; exact this
  have st:s'.heap.FunFrames X.base (X.env :: X.outer):=by have:=I.stack; rw [hst] at this; exact this
  show wpAny _ _ (noteFrame (.ref a) X.env) _ _ s'
  refine note_on fr st hfr x fun h1 T x1 hT N1 => ?_
  have I1:=inv_notedP I x1.p N1 (fun b hb => by rw [hst]; exact hb) ha ht
  have fT:H' T = none ∧ X.s₀.heap.objs.size ≤ T ∧ T ≠ X.env.locals ∧ (∀ x c,X.env.cells.lookup x = some c → c ≠ T) ∧ ∀ p ∈ X.pn ++ pins,p.1 ≠ T:=by
    rcases hT with hT | hT
    · exact ⟨I.hok.fresh hT,fresh_at I hT⟩
    · exact ht T hT
  obtain ⟨vs,sl,he,h1'⟩:∃ vs sl,h1.get? a = some ⟨C,dx,.fields vs,sl⟩ ∧ vs[1]? = some (.ref T):=by
    rcases x1 with ⟨vs,sl,he,hz,h1',_⟩ | ⟨T',vs,sl,eT,he,hz,h1',_⟩
    · exact ⟨vs,sl,he,h1'⟩
    · cases eT; exact ⟨vs,sl,he,h1'⟩
  show wpAny _ _ (do if (← field (.ref a) 1) == .none then unsupported "frame.own-activation:exception-without-traceback"
                     setFlight (.ref a) X.env.frame) _ _ _
  refine wpAny_bind (wpAny_field he rfl h1' ?_)
  rw [if_neg (by simp)]
  show wpAny _ _ (setFlight (.ref a) X.env.frame) _ _ _
  refine (flight_set (s:={ s' with heap:=h1 }) x1 (.inr hfr) fun h2 x2 _ N2 => ?_)
  exact ⟨pins,σ,H',a,C,dx,some T,rfl,inv_notedP I1 x2.p N2 (fun b hb => by cases hb) ha (fun T' z => by cases z; exact fT),x2,ha,fun T' z => by cases z; exact fT,na,hE⟩
theorem passRz:Passes (CXR X.prog X.w) (tryX X X.pn (Rz X E)) E:=by
  intro pins σ H1 s1 e s' I h
  obtain ⟨a,C,dx,T,H',rfl,os,bare,un,hok,x,ha,hT,na,nT,hE⟩:=h
  have ok:X.Ok:=⟨I.ok.mod,I.ok.kind,I.ok.glob,I.ok.blt,I.ok.above,I.ok.inj,I.ok.has,I.ok.cab,I.ok.hd,I.ok.frames,I.ok.stk,I.ok.exf,I.ok.bs,I.ok.bsz,I.ok.noex,I.ok.exfs,I.ok.funs,I.ok.frf⟩
  have I':=I.call' (ch:=[]) os un hok bare fun b z => absurd z (by simp)
  exact ⟨pins,σ,H',a,C,dx,some T,rfl,inv_xe I' ok,.inl x,ha,fun T' z => by cases z; exact ⟨hT,fresh_at I nT⟩,Nat.le_trans I.sz na,hE⟩
end
section
variable {P:Program} {w:World} {K:PySem.W.Frag} {mg:Str → Option Value} {base:Heap} {N:List Str} {qual:Str} {sc:Scope} {f:Addr} {cdv:Value} {A:Around} {outer:List Env} {s:Shared} {H:Hp} {E:XK}
theorem leave_Rz {e:Value} {s':Shared} (h:Rz (cxOf (CXR P w) P w K mg base N qual sc f cdv A outer s H E) E e s'):(cxOf (CXR P w) P w K mg base N qual sc f cdv A outer s H E).xe e s':=by
  obtain ⟨pins,σ,H',a,C,dx,tr,rfl,I,x,ha,ht,na,hE⟩:=h
  show wpAny _ _ (leaving _ (.ref a)) _ _ s'
  unfold leaving
  refine wpAny_bind (note_on (L:=s.heap.objs.size) I.ok.frames I.stack rfl x fun h1 T x1 hT N1 => ?_)
  have I1:=inv_notedP I x1.p N1 (fun b hb => hb) ha ht
  have fT:H' T = none ∧ s.heap.objs.size ≤ T:=by
    rcases hT with hT | hT
    · exact ⟨I.hok.fresh hT,Nat.le_trans I.sz hT⟩
    · exact ⟨(ht T hT).1,(ht T hT).2.1⟩
  refine flight_set (s:={ s' with heap:=h1 }) x1 (.inl rfl) fun h2 x2 xo N2 => ?_
  have xo:=xo rfl
  refine ⟨a,C,dx,T,H',rfl,I.os,I.bare,?_,hok_notedP (fs:=[]) (tr:=some T) I1.hok ha (fun T' z => by cases z; exact fT.1) xo.p N2 (fun b hb => by cases hb),xo,ha,fT.1,na,fT.2,hE⟩
  have n0:s.heap.get? a = none:=Heap.get?_none_of_le na
  have nT0:s.heap.get? T = none:=Heap.get?_none_of_le fT.2
  have u1:Un (frs outer) [] H H' s.heap h1:=un_noted (L:=s.heap.objs.size) I.base N1 rfl (Heap.get?_none_of_le (Nat.le_refl _)) (Heap.get?_none_of_le na) (fun T' z => Heap.get?_none_of_le (ht T' z).2.1)
  refine ⟨fun b o q n hc hx => N2.keep b o (u1.keep b o q n hc hx) (by simp) (fun z => by rw [z,n0] at q; cases q) (fun z => by cases z; rw [nT0] at q; cases q),fun b o q n hc hx => ?_,u1.free,fun b o q hx => ?_,u1.tups,u1.frzs,u1.tbls⟩
  · obtain ⟨sl,e⟩:=u1.slot b o q n hc hx
    obtain ⟨sl',e'⟩:=N2.slot b _ e (fun z => by rw [z,n0] at q; cases q) (fun z => by cases z; rw [nT0] at q; cases q)
    exact ⟨sl',e'⟩
  · obtain ⟨o',e⟩:=u1.there b o q hx
    obtain ⟨sl',e'⟩:=N2.slot b _ e (fun z => by rw [z,n0] at q; cases q) (fun z => by cases z; rw [nT0] at q; cases q)
    exact ⟨_,e'⟩
end
end M
set_option Elab.async false
set_option linter.all false
set_option maxRecDepth 100000
set_option maxHeartbeats 4000000
namespace M
open PySem PySem.Spec PyProof.Rows L2
theorem ps_raiseZ {X:Cx} {E:XK} {C fi:Addr} {fd:FuncData} {nm x self at_:Str} {ki:Nat} {e:Expr} {t:TE} {p cpos pos:Pos} (c:XCl X.K C fi nm) (F:FnOk X.prog X.w X.K X.mg X.base CX0 ki fi fd [self,at_] (spI C nm))
    (hr:Room (ki + 1) X.A) (hg:Gl X x) (hm:X.mg x = some (.ref C)) (hb:Binds X.K fd [self,at_] [])
    (ha:PE (tryX X X.pn (Rz X E)) e t) (hdb:(x == ("__debug__":Str)) = false:=by decide)
    (he:∀ env,starEach [e] env = [(false,eval e env)]:=by intro env; rfl) :
    PS (tryX X X.pn (Rz X E)) (.Raise (some (.Call (.Name x p) [e] [] cpos)) none pos) (fun _ σ H0 => t σ H0 fun v H1 => ∃ i,v = .int i ∧ i.natAbs.log2 < 1920 ∧
      ∀ a dx,H1 a = none → H1 dx = none → dx ≠ a → E (.ref a) (some a) (upd (upd H1 a (.ext (excP a (.ref C) (some dx)))) dx (.xd [(nm,.int i)]))):=by
  intro pins s0 σ H0 D I h
  have hm':(tryX X X.pn (Rz X E)).mg x = some (.ref C):=hm
  have okX:X.Ok:=⟨I.ok.mod,I.ok.kind,I.ok.glob,I.ok.blt,I.ok.above,I.ok.inj,I.ok.has,I.ok.cab,I.ok.hd,I.ok.frames,I.ok.stk,I.ok.exf,I.ok.bs,I.ok.bsz,I.ok.noex,I.ok.exfs,I.ok.funs,I.ok.frf⟩
  rw [arm_exec_Raise]
  refine wpAny_bind (wpAny_standAt (raise_made c.own hr.hd ?_))
  refine wpAny_bind (wpAny_mono (wpAny_Call_Name_kw (ld_glob I (show Gl (tryX X X.pn (Rz X E)) x from hg) hm' ?_ hdb)) (fun v s₃ h₃ => wpAny_bind (wpAny_standAt (wpAny_pure h₃))) fun _ _ x => x)
  let W:V → Hp → Prop:=fun v H1 => ∃ i,v = .int i ∧ i.natAbs.log2 < 1920 ∧ ∀ a dx,H1 a = none → H1 dx = none → dx ≠ a → E (.ref a) (some a) (upd (upd H1 a (.ext (excP a (.ref C) (some dx)))) dx (.xd [(nm,.int i)]))
  refine PySem.W.callWith_K (h₀:=X.base) I.ok.mod.kin c.kp (thn ((pa_cons ha pa_nil (he _)) cpos pins s0 σ H0 (fun vs H1 => match vs with | [v] => W v H1 | _ => False) I h) fun us s1 ⟨vs,H1,I1,r,q⟩ => ⟨I1.kIn,?_⟩) (he _) rfl
  cases r with
  | nil => exact q.elim
  | @cons v u vs' us' rv rs =>
    cases rs with
    | cons _ _ => exact q.elim
    | nil =>
      obtain ⟨i,rfl,hi,q⟩:=q
      obtain ⟨nm',qn,N',bs,bm,hd,sn,sub,ab,col,dd,k0,k1,k2,k3,k5,mN,hC,hn,hi',T⟩:=ownX_at I1.kIn c.own
      have I2:=(I1.kept (h':=s1.heap.push { cls:=.type "tuple",data:=.seq [u].toArray }) (t':=s1.toks) fun b o e => Heap.get?_push_of_some _ e).laid (a:=s1.heap.objs.size + 1) (o:=.ext (rawP (s1.heap.objs.size + 1) (.ref C) none)) (h':=rawHeap s1.heap C [u]) (t':=s1.toks)
        (fun b o e => Heap.get?_push_of_some _ e) (by show _ ≤ _; exact Nat.le_of_eq (Heap.size_push _ _)) (raw_ok ⟨s1.heap.objs.size,Heap.get?_push_at (by rw [Heap.size_push]) rfl⟩)
      have fa:H1 (s1.heap.objs.size + 1) = none:=I1.hok.fresh (Nat.le_succ _)
      obtain ⟨hp,g,d,tk,os⟩:=s1
      have sp:=F.run _ _ _ _ ⟨[.ref (hp.objs.size + 1),u],[]⟩ [.ref (hp.objs.size + 1),u] [.ref (hp.objs.size + 1),.int i] (fun v H3 => v = .non ∧ ∃ dx,upd H1 (hp.objs.size + 1) (.ext (rawP (hp.objs.size + 1) (.ref C) none)) dx = none ∧ H3 = upd (upd (upd H1 (hp.objs.size + 1) (.ext (rawP (hp.objs.size + 1) (.ref C) none))) (hp.objs.size + 1) (.ext (rawP (hp.objs.size + 1) (.ref C) (some dx)))) dx (.xd [(nm,.int i)])) E0
        (hr.make C [u] []) (I2.env0.make C [u] []) (hb _ [.ref (hp.objs.size + 1),u] I2.kIn rfl) (.cons rfl (.cons rv .nil)) ⟨hp.objs.size + 1,i,rfl,hi,upd_same,fun dx hdx => ⟨rfl,dx,hdx,rfl⟩⟩
      refine call_exc_own (us:=[u]) PySem.F.excBase_ValueError T hC hn hi' (by rw [sizeLine_eq]; exact show 1 ≤ 16777216 by decide) (PySem.W.bind_fn I2.kIn _ (beq_iff_eq.mp c.fn)) (wpAny_call (codeAny_mono sp fun r s' hq' => ?_))
      cases r with
      | error e' => exact hq'.elim
      | ok fl =>
        cases fl with
        | next => exact False.elim hq'
        | brk => exact False.elim hq'
        | cont => exact False.elim hq'
        | ret u' =>
          obtain ⟨v',H3,I3,rv',rfl,dx,hdx,rfl⟩:=I2.after hq'
          have ne:dx ≠ hp.objs.size + 1:=fun z => by rw [z,upd_same] at hdx; cases hdx
          have hd1:H1 dx = none:=by rw [upd_ne ne] at hdx; exact hdx
          have e3:upd (upd (upd H1 (hp.objs.size + 1) (.ext (rawP (hp.objs.size + 1) (.ref C) none))) (hp.objs.size + 1) (.ext (rawP (hp.objs.size + 1) (.ref C) (some dx)))) dx (.xd [(nm,.int i)]) (hp.objs.size + 1) = some (.ext (rawP (hp.objs.size + 1) (.ref C) (some dx))):=by
            rw [upd_ne (Ne.symm ne),upd_same]
          obtain ⟨raw,-,-⟩:=I3.hok _ _ e3
          refine ⟨rv',hp.objs.size + 1,some dx,rfl,I3.kIn,raw,?_⟩
          have xo:=raw.x
          have I4:=I3.write (x:=hp.objs.size + 1) (e:=hp.objs.size + 1) (o:=.ext (excP (hp.objs.size + 1) (.ref C) (some dx))) (h':=s'.heap) (t':=s'.toks) (by rw [e3]; trivial) (.inl rfl) (fun b o _ z => z) (let ⟨_,z⟩:=raw; ⟨_,z⟩) (exc_ok xo.p)
          have eH:upd (upd (upd (upd H1 (hp.objs.size + 1) (.ext (rawP (hp.objs.size + 1) (.ref C) none))) (hp.objs.size + 1) (.ext (rawP (hp.objs.size + 1) (.ref C) (some dx)))) dx (.xd [(nm,.int i)])) (hp.objs.size + 1) (.ext (excP (hp.objs.size + 1) (.ref C) (some dx))) =
              upd (upd H1 (hp.objs.size + 1) (.ext (excP (hp.objs.size + 1) (.ref C) (some dx)))) dx (.xd [(nm,.int i)]):=by
            funext b
            by_cases z:b = hp.objs.size + 1
            · subst z; rw [upd_same,upd_ne (Ne.symm ne),upd_same]
            · rw [upd_ne z]
              by_cases z':b = dx
              · subst z'; rw [upd_same,upd_same]
              · rw [upd_ne z',upd_ne z',upd_ne z,upd_ne z,upd_ne z]
          rw [eH] at I4
          exact ⟨pins,σ,_,hp.objs.size + 1,.ref C,some dx,none,rfl,inv_xe I4 okX,.inl xo,by rw [upd_ne (Ne.symm ne),upd_same],(fun T z => by cases z),Nat.le_trans I1.sz (Nat.le_succ _),q _ _ fa hd1 ne⟩
theorem ms_raiseZ {X:Cx} {E:XK} {C fi:Addr} {fd:FuncData} {nm cn x self at_:Str} {ki k:Nat} {e:Expr} {m:MX} {xc:XCs} {p cpos pos:Pos} (hx:xc k = (cn,some nm)) (hcn:cA X.K cn = C) (c:XCl X.K C fi nm) (F:FnOk X.prog X.w X.K X.mg X.base CX0 ki fi fd [self,at_] (spI C nm))
    (hr:Room (ki + 1) X.A) (hg:Gl X x) (hm:X.mg x = some (.ref C)) (hb:Binds X.K fd [self,at_] [])
    (ha:ME (tryX X X.pn (Rz X E)) (exT X.K xc E) e m) (hdb:(x == ("__debug__":Str)) = false:=by decide)
    (he:∀ env,starEach [e] env = [(false,eval e env)]:=by intro env; rfl) :
    MS (tryX X X.pn (Rz X E)) (exT X.K xc E) (.Raise (some (.Call (.Name x p) [e] [] cpos)) none pos) (mRaise k m):=by
  obtain ⟨t,pt,st⟩:=ha
  refine ⟨_,ps_raiseZ c F hr hg hm hb pt hdb he,fun Z α G H σ ρ μ D R g => ?_⟩
  refine st Z α G H σ ρ μ _ R (GE.step (G:=GS X.K (exT X.K xc E) Z α G D) g (fun _ _ h => h) (fun h => h) fun d μ1 v α1 F1 H1 R1 e1 p1 g1 => ?_)
  cases d with
  | int i =>
    dsimp only at g1
    split at g1
    · rename_i hi
      obtain rfl:v = .int i:=p1
      refine ⟨i,rfl,hi,fun a dx ha hd ne => ?_⟩
      have eH:del (upd (upd H1 a (.ext (excP a (.ref C) (some dx)))) dx (.xd [(nm,.int i)])) a dx = H1:=by
        funext b
        unfold del
        split
        · rename_i z
          rcases z with z | z
          · rw [z,ha]
          · rw [z,hd]
        · rename_i z
          rw [upd_ne (fun q => z (.inr q)),upd_ne (fun q => z (.inl q))]
      refine g1 a dx (.int i) α1 F1 _ (by rw [eH]; exact R1) rfl ?_
      rw [hx]
      exact ⟨by rw [upd_ne (Ne.symm ne),upd_same,hcn],upd_same⟩
    · exact g1.elim
  | _ => exact g1.elim
section
variable {P:Program} {w:World} {K:PySem.W.Frag} {mg:Str → Option Value} {base:Heap} {xc:XCs}
theorem ms_rsZ {X:Cx} {E:XK} {nm x:Str} {ki k:Nat} {e:Expr} {m:MX} {p cpos pos:Pos} (R:RsAt X.prog X.w X.K X.mg X.base x nm ki) (hx:xc k = (x,some nm)) (hr:Room (ki + 1) X.A) (hg:Gl X x)
    (ha:ME (tryX X X.pn (Rz X E)) (exT X.K xc E) e m) (hdb:(x == ("__debug__":Str)) = false:=by decide) (he:∀ env,starEach [e] env = [(false,eval e env)]:=by intro env; rfl) :
    MS (tryX X X.pn (Rz X E)) (exT X.K xc E) (.Raise (some (.Call (.Name x p) [e] [] cpos)) none pos) (mRaise k m):=by
  obtain ⟨fi,fd,self,at_,h1,c,hb,F⟩:=R
  exact ms_raiseZ hx rfl c F hr hg h1 (.all hb) ha hdb he
theorem fnOkZ_of {x:Str} {st:Stmt} {N ps:List Str} {k j n:Nat} {b:MSt} {f:Addr} {fd:FuncData} (F:Fun K x x st f fd) (S:FnScope N ps (defScope st)) (hj:N.length - ps.length = j) (hn:ps.length = n)
    (hb:∀ (cdv:Value) (A:Around) (outer:List Env) (s:Shared) (H:Hp) (E:XK),Room k (A.deeper (envOfC x (defScope st) s.heap.objs.size f cdv)) →
      MSs (tryX (cxOf (CXR P w) P w K mg base N x (defScope st) f cdv A outer s H E) [] (Rz (cxOf (CXR P w) P w K mg base N x (defScope st) f cdv A outer s H E) E)) (exT K xc E) (defBody st) b):FnOk P w K mg base (CXR P w) (k + 1) f fd ps (spX K xc n (fnOf j b)):=by
  refine fnOkX_of F S hj hn fun cdv A outer s H E hr => ?_
  obtain ⟨t,p,q⟩:=hb cdv A outer s H E hr
  refine ⟨t,fun pins s' σ H' D I h => ?_,q⟩
  refine wpAny_mono (p pins s' σ H' D (inv_ex I) h) (fun fl s2 z => ?_) fun e s2 z => leave_Rz z
  cases fl with
  | next => obtain ⟨σ2,H2,I2,q2⟩:=z; exact ⟨σ2,H2,inv_xe I2 I.ok,q2⟩
  | brk => obtain ⟨σ2,H2,I2,q2⟩:=z; exact ⟨σ2,H2,inv_xe I2 I.ok,q2⟩
  | cont => obtain ⟨σ2,H2,I2,q2⟩:=z; exact ⟨σ2,H2,inv_xe I2 I.ok,q2⟩
  | ret u => obtain ⟨v,σ2,H2,I2,r,q2⟩:=z; exact ⟨v,σ2,H2,inv_xe I2 I.ok,r,q2⟩
end
end M
set_option Elab.async false
set_option linter.all false
set_option maxRecDepth 100000
set_option maxHeartbeats 4000000
namespace M
open PySem PySem.Spec PyProof.Rows L2
section
variable {X:Cx} {EX:EXT} {o e value:Expr} {m mo mv:MX} {pos pos' tpos:Pos}
end
section
variable {X:Cx} {EX:EXT} {e:Expr} {es:List Expr} {ms:MAs} {p pos:Pos}
end
end M
set_option Elab.async false
set_option linter.all false
set_option maxRecDepth 100000
set_option maxHeartbeats 4000000
namespace M
open PySem PySem.Spec PyProof.Rows L2
section
variable {P:Program} {w:World} {K:PySem.W.Frag} {mg:Str → Option Value} {base:Heap}
end
theorem len_0 {β:Type} {us:List β} (h:us.length = 0):us = []:=List.length_eq_zero_iff.mp h
theorem len_S {β:Type} {us:List β} {n:Nat} (h:us.length = n + 1):∃ a vs,us = a :: vs ∧ vs.length = n:=by
  cases us with
  | nil => cases h
  | cons a vs => exact ⟨a,vs,rfl,Nat.succ.inj h⟩
theorem len_1 {β:Type} {us:List β} (h:us.length = 1):∃ a,us = [a]:=by
  obtain ⟨a,vs,rfl,q⟩:=len_S h
  cases len_0 q
  exact ⟨a,rfl⟩
theorem len_2 {β:Type} {us:List β} (h:us.length = 2):∃ a b,us = [a,b]:=by
  obtain ⟨a,vs,rfl,q⟩:=len_S h
  obtain ⟨b,rfl⟩:=len_1 q
  exact ⟨a,b,rfl⟩
theorem len_3 {β:Type} {us:List β} (h:us.length = 3):∃ a b c,us = [a,b,c]:=by
  obtain ⟨a,vs,rfl,q⟩:=len_S h
  obtain ⟨b,c,rfl⟩:=len_2 q
  exact ⟨a,b,c,rfl⟩
theorem len_4 {β:Type} {us:List β} (h:us.length = 4):∃ a b c d,us = [a,b,c,d]:=by
  obtain ⟨a,vs,rfl,q⟩:=len_S h
  obtain ⟨b,c,d,rfl⟩:=len_3 q
  exact ⟨a,b,c,d,rfl⟩
theorem len_5 {β:Type} {us:List β} (h:us.length = 5):∃ a b c d e,us = [a,b,c,d,e]:=by
  obtain ⟨a,vs,rfl,q⟩:=len_S h
  obtain ⟨b,c,d,e,rfl⟩:=len_4 q
  exact ⟨a,b,c,d,e,rfl⟩
end M
set_option Elab.async false
set_option linter.all false
set_option maxRecDepth 100000
set_option maxHeartbeats 4000000
namespace M
open PySem PySem.Spec PyProof.Rows L2
section
variable {X:Cx} {EX:EXT} {o:Expr} {mo:MX}
end
end M
set_option Elab.async false
set_option linter.all false
set_option maxRecDepth 100000
set_option maxHeartbeats 4000000
namespace M
open PySem PySem.Spec PyProof.Rows L2
section
variable {X:Cx} {EX:EXT} {o a:Expr} {mo m:MX} {ms:MAs}
end
end M
set_option Elab.async false
set_option linter.all false
set_option maxRecDepth 100000
set_option maxHeartbeats 1000000
namespace M
open PySem PySem.Spec PyProof.Rows L2
section
variable {prog:Program} {w:World} {A:Around} {E:Value → Shared → Prop} {s:Shared}
end
section
variable {X:Cx} {EX:EXT} {a:Expr} {ma:MX} {p1 p2 q1 q2:Pos}
end
end M
set_option Elab.async false
set_option linter.all false
set_option maxRecDepth 100000
set_option maxHeartbeats 1000000
namespace M
open PySem PySem.Spec PyProof.Rows L2
theorem fnC {P:Program} {w:World} {K:PySem.W.Frag} {mg:Str → Option Value} {base:Heap} {x:Str} {st:Stmt} {ps:List Str} {k n j:Nat} {b:MSt} (D:DefAt K mg x st ps) (N G:List Str) (S:FnScope N ps (defScope st)) (hl:locB (defScope st) N = true) (hg:glB (defScope st) G = true) (hj:N.length - ps.length = j) (hn:ps.length = n)
    (hb:∀ (f:Addr) (cdv:Value) (A:Around) (outer:List Env) (s:Shared) (H:Hp) (E:XK),Room k (A.deeper (envOfC x (defScope st) s.heap.objs.size f cdv)) → Ct (cxOf CX0 P w K mg base N x (defScope st) f cdv A outer s H E).nox N G → MSs (cxOf CX0 P w K mg base N x (defScope st) f cdv A outer s H E).nox NoX (defBody st) b) :
    FnAt P w K mg base x (k + 1) n (fnOf j b) :=
  fnAt_of D hn fun f fd F => fnOk_of F S hj hn fun cdv A outer s H E hr => hb f cdv A outer s H E hr (ct_of S.nd (loc_of hl) (gl_of hg) hr)
noncomputable def DFact (K:PySem.W.Frag) (x:Str) (st:Stmt):Prop:=∃ (f:Addr) (oc:Value) (od:Option Addr) (kV doc pm:Value) (an:Option Addr) (cdv ct:Value) (osl:Array (Option Value)),PySem.W.nsIn K mainGlobals x = some (some (.ref f)) ∧ K.lookup f = some ⟨oc,od,.func (PySem.W.fnOf x x (defArgs st) (defBody st) (defScope st) .none kV doc pm an cdv ct),osl⟩ ∧ PySem.W.codeIn K cdv x = true ∧ PySem.W.keepIn K (.ref f) = true
theorem def_of {K:PySem.W.Frag} {mg:Str → Option Value} {h:Heap} {x:Str} {st:Stmt} {ps:List Str} (X:K.In h) (G:h.Ns mainGlobals mg) (d:DFact K x st) (hb:∀ (kV doc pm:Value) (an:Option Addr) (cdv ct:Value),BindsS (PySem.W.fnOf x x (defArgs st) (defBody st) (defScope st) .none kV doc pm an cdv ct) ps):DefAt K mg x st ps:=by
  obtain ⟨f,oc,od,kV,doc,pm,an,cdv,ct,osl,a,l,c,k⟩:=d
  exact def_mk X G a l c k (hb kV doc pm an cdv ct)
theorem dfact {K:PySem.W.Frag} {x:Str} {st:Stmt} {f:Addr} {oc:Value} {od an:Option Addr} {osl:Array (Option Value)} {kV doc pm cdv ct:Value} (a:PySem.W.nsIn K mainGlobals x = some (some (.ref f))) (l:K.lookup f = some ⟨oc,od,.func (PySem.W.fnOf x x (defArgs st) (defBody st) (defScope st) .none kV doc pm an cdv ct),osl⟩)
    (c:PySem.W.codeIn K cdv x = true) (k:PySem.W.keepIn K (.ref f) = true):DFact K x st:=⟨f,oc,od,kV,doc,pm,an,cdv,ct,osl,a,l,c,k⟩
end M
set_option Elab.async false
set_option linter.all false
set_option maxRecDepth 100000
set_option maxHeartbeats 1000000
namespace M
open PySem PySem.Spec PyProof.Rows L2
noncomputable def downD (hi lo:Int):List D:=(List.range (hi - lo).toNat).map fun k => .int (hi - (k:Nat))
noncomputable def asDown (ds:List D):Option (List D):=match ds with
  | [.int i,.int j,.int c] => if c = -1 ∧ -1000000 ≤ i ∧ i < 1000000 ∧ -1000000 ≤ j ∧ j < 1000000 then some (downD i j) else none
  | _ => none
section
variable {X:Cx} {EX:EXT}
noncomputable def gTupC:GL:=fun ds => match ds with
  | [.lst xs] => some (.tup xs)
  | _ => none
theorem call_tupR:CallR X (.type "tuple") (fun xs H Q => ∃ (p:Addr) (vs:List V),xs = [.ref p] ∧ SqL X.K H p vs ∧ ∀ q,H q = none → Q (.ref q) (upd H q (.tup vs))):=by
  intro pins s σ H xs us Q I r h
  obtain ⟨p,vs,rfl,hq,q⟩:=h
  obtain ⟨u,rfl,rx⟩:=vals1 r
  cases rx
  obtain ⟨its,r',pl,hz⟩:=I.list hq
  have hlen:=r'.length
  refine call_tuple_list pl.isList (fun h' kp => ?_) (by rw [List.size_toArray,← hlen]; exact hz)
  have I1:Inv X pins σ H { s with heap:=h' }:=I.kept (t':=s.toks) kp
  exact ⟨.ref _,_,I1.laid (o:=.tup vs) (t':=s.toks) (fun b o e => Heap.get?_push_of_some _ e) (Nat.le_refl _) ⟨hz,its,r',⟨_,Heap.get?_push_size _ rfl,rfl,0,rfl⟩⟩,rfl,q _ (I1.hok.fresh (Nat.le_refl _))⟩
theorem cm_tup:CallM X (.type "tuple") gTupC:=by
  refine ⟨_,call_tupR,fun Z α F H μ ds c vs Q R hp hg k => ?_⟩
  match ds,hg with
  | [.lst xs],hg =>
    obtain ⟨v,r,rfl,⟨q,us,rfl,hs,hr⟩,hq⟩:=hp
    have hq:r = []:=hq
    subst hq
    cases hg
    refine ⟨q,us,rfl,hs,fun p hp => ?_⟩
    obtain ⟨a1,a2,a3⟩:=lay_tup R hr hp
    exact k _ _ _ a1 a2 a3
end
end M
set_option Elab.async false
set_option linter.all false
set_option maxRecDepth 100000
set_option maxHeartbeats 1000000
namespace M
open PySem PySem.Spec PyProof.Rows L2
section
variable {K:PySem.W.Frag} {Z:ZS} {F H:Hp} {α:List Addr} {μ:Mu} {k:Nat} {a:Addr} {c:Cell} {d:D} {o:HO}
end
section
variable {X:Cx} {EX:EXT}
variable {a:Expr} {ma:MX} {p1 p2 q1 q2:Pos}
end
end M
set_option Elab.async false
set_option linter.all false
set_option maxRecDepth 100000
set_option maxHeartbeats 1000000
namespace M
open PySem PySem.Spec PyProof.Rows L2 PySem.Builtin PySem.Builtin.ObjectAttr
section
variable {α:Type} {Md:Model} {A:Around} {E:Value → Shared → Prop} {s:Shared}
end
section
variable {prog:Program} {w:World} {A:Around} {E:Value → Shared → Prop} {h:Heap} {g:Array GenState} {d:Drawn} {t:Nat} {os:OsState} {a:Addr} {o:Obj}
end
section
variable {prog:Program} {w:World} {κ:Type} [DecidableEq κ] {knd:KeyKind prog w κ} {A:Around} {E:Value → Shared → Prop} {h h':Heap} {it d l:Addr}
end
section
variable {X:Cx} {EX:EXT}
end
end M
set_option Elab.async false
set_option linter.all false
set_option maxRecDepth 100000
set_option maxHeartbeats 4000000
namespace M
open PySem PySem.Spec PyProof.Rows L2
noncomputable def mCompC (k:Nat) (ix:List Nat) (tg:MG) (it:MIt) (t:MB) (m:MX):MX:=fun ρ μ => (it ρ μ).bind fun ds μ1 => if ds.length ≤ 16777216 then (compGo tg t m ds (blk k ix ρ) μ1 []).bind fun xs μ2 => .ok (.ref μ2.length) (μ2 ++ [.lst xs]) else .bad
section
variable {X:Cx} {EX:EXT} {scope:Scope} {T caps:List Str} {ix:List Nat} {tg iter elt:Expr} {ifs:List Expr} {g:MG} {t:MB} {m:MX} {pos:Pos}
end
end M
set_option Elab.async false
set_option linter.all false
set_option maxRecDepth 100000
set_option maxHeartbeats 4000000
namespace M
open PySem PySem.Spec PyProof.Rows L2
section
variable {prog:Program} {w:World} {A:Around} {E:Value → Shared → Prop} {h:Heap} {g:Array GenState} {d:Drawn} {t:Nat} {os:OsState}
variable {nm q:Str} {C N:Addr} {bs bm bmB:List Value} {hdct:Bool} {sn:List Str} {sub:List Value} {ab:Bool} {col:Option Bool} {dd:Option Addr} {k0 k1 k2 k3 k5:Option Value} {B newId initId:String}
end
end M
set_option Elab.async false
set_option linter.all false
set_option maxRecDepth 100000
set_option maxHeartbeats 4000000
namespace M
open PySem PySem.Spec PyProof.Rows L2
noncomputable def isStr:D → Bool
  | .str _ => true
  | _ => false
noncomputable def mMth (g:D → GL) (mo:MX) (ms:MAs):MX:=fun ρ μ => (mo ρ μ).bind fun d μ1 => if isStr (deref μ1 d) = true then (ms ρ μ1).bind fun ds μ2 => ofO μ2 (g (deref μ2 d) (ds.map (deref μ2))) else .bad
noncomputable def mMth0 (g:D → Option D) (mo:MX):MX:=fun ρ μ => (mo ρ μ).bind fun d μ1 => if isStr (deref μ1 d) = true then ofO μ1 (g (deref μ1 d)) else .bad
noncomputable def ServesM (K:PySem.W.Frag) (r:V → List V → Hp → VK → Prop) (g:D → GL):Prop:=∀ Z α F H μ d ds c x vs Q,RH K Z α F H μ → Pk K α F H d x → Pks K α F H ds vs → g d ds = some c → (∀ v F' H',RH K Z α F' H' μ → Same F F' → Rep K F' α c v → Q v H') → r x vs H Q
section
variable {X:Cx} {EX:EXT} {o e:Expr} {es:List Expr} {mo:MX} {ms:MAs} {name:Str} {id:String} {r:V → List V → Hp → VK → Prop} {apos cpos:Pos}
theorem me_mth {g:D → GL} (slot:Slot "str" name id) (hty:typeOf (.builtin id) = pure (.type "method_descriptor")) (hm:MtR X id r) (hs:ServesM X.K r g) (ho:ME X EX o mo) (ha:MA X EX (e :: es) ms)
    (hbase:attributeBase o name X.env (eval o X.env) = eval o X.env:=by rfl)
    (hfew:((backTo cpos (starEach (e :: es) X.env)).all (fun x => !x.1) && (backToKw cpos (keywordEach [] X.env)).all (fun x => x.1.isSome)
      && decide ((e :: es).length + ([]:List Keyword).length + (if ([]:List Keyword).isEmpty then 0 else 1) < 30)) = true:=by rfl)
    (hline:(apos.endLine == cpos.line) = true:=by rfl) (hst:starEach (e :: es) X.env = (false,eval e X.env) :: starEach es X.env:=by rfl) (hplain:(backTo cpos (starEach es X.env)).any (·.1) = false:=by rfl) :
    ME X EX (.Call (.Attribute o name apos) (e :: es) [] cpos) (mMth g mo ms):=by
  obtain ⟨to,po,so⟩:=ho
  obtain ⟨ta,pa,sa,_⟩:=ha
  refine ⟨_,pe_bm PySem.F.plainAttrs_str slot hty hm po pa hbase hfew hline hst hplain,fun Z α F H σ ρ μ Q R g0 => ?_⟩
  refine so Z α F H σ ρ μ _ R (GE.step (G:=GE X.K EX Z α F Q) g0 (fun _ _ h => h) (fun h => h) fun d μ1 v α1 F1 H1 R1 e1 p1 g1 => ?_)
  by_cases hd:isStr (deref μ1 d) = true
  · rw [if_pos hd] at g1
    refine ⟨?_,?_⟩
    · have k1:=R1.pk p1
      cases hq:deref μ1 d with
      | str z =>
        rw [hq] at k1
        have k1:=pk_str k1
        subst k1
        exact rfl
      | _ => rw [hq] at hd; cases hd
    · refine sa Z α1 F1 H1 σ ρ μ1 _ (R.to R1 e1) ?_
      cases hy:ms ρ μ1 with
      | exc x μ2 => rw [hy] at g1; exact g1
      | bad => rw [hy] at g1; exact g1
      | ok ds μ2 =>
        rw [hy] at g1
        intro vs α2 F2 H2 R2 e2 p2
        have g1:GE X.K EX Z α F Q (ofO μ2 (g (deref μ2 d) (ds.map (deref μ2)))):=g1
        cases hc:g (deref μ2 d) (ds.map (deref μ2)) with
        | none => rw [hc] at g1; exact g1.elim
        | some c =>
          rw [hc] at g1
          exact hs Z α2 F2 H2 μ2 _ _ c v vs Q R2 (R2.pk (p1.mono e2)) (R2.pks p2) hc fun u F' H' R' sf rp => g1 u α2 F' H' R' (e1.trans (e2.trans ⟨sf,fun _ _ h => h⟩)) rp
  · rw [if_neg hd] at g1; exact g1.elim
theorem me_mth0 {g:D → Option D} (slot:Slot "str" name id) (hty:typeOf (.builtin id) = pure (.type "method_descriptor")) (hm:MtR X id r) (hs:ServesM X.K r (fun d ds => match ds with
    | [] => g d
    | _ => none)) (ho:ME X EX o mo)
    (hbase:attributeBase o name X.env (eval o X.env) = eval o X.env:=by rfl) (hline:(apos.endLine == cpos.line) = true:=by rfl) :
    ME X EX (.Call (.Attribute o name apos) [] [] cpos) (mMth0 g mo):=by
  obtain ⟨to,po,so⟩:=ho
  refine ⟨_,pe_bm0 PySem.F.plainAttrs_str slot hty hm po hbase hline,fun Z α F H σ ρ μ Q R g0 => ?_⟩
  refine so Z α F H σ ρ μ _ R (GE.step (G:=GE X.K EX Z α F Q) g0 (fun _ _ h => h) (fun h => h) fun d μ1 v α1 F1 H1 R1 e1 p1 g1 => ?_)
  by_cases hd:isStr (deref μ1 d) = true
  · rw [if_pos hd] at g1
    refine ⟨?_,?_⟩
    · have k1:=R1.pk p1
      cases hq:deref μ1 d with
      | str z =>
        rw [hq] at k1
        have k1:=pk_str k1
        subst k1
        exact rfl
      | _ => rw [hq] at hd; cases hd
    · cases hc:g (deref μ1 d) with
      | none => rw [hc] at g1; exact g1.elim
      | some c =>
        rw [hc] at g1
        exact hs Z α1 F1 H1 μ1 _ [] c v [] Q R1 (R1.pk p1) rfl hc fun u F' H' R' sf rp => g1 u α1 F' H' R' (e1.trans ⟨sf,fun _ _ h => h⟩) rp
  · rw [if_neg hd] at g1; exact g1.elim
noncomputable def gIsdigit:D → Option D
  | .str x => some (.bl (Txt.isdigit ⟨x.toArray⟩))
  | _ => none
theorem mt_isdigit:MtR X "str.isdigit" (fun x vs H Q => ∃ z,x = .str z ∧ vs = [] ∧ Q (.bl (Txt.isdigit z)) H):=by
  intro pins s σ H x xs v us Q I rx rv h
  obtain ⟨z,rfl,rfl,q⟩:=h
  obtain ⟨t,rfl⟩:=rx
  have hus:=rv.zero
  subst hus
  exact SC.isdigit ⟨.bl _,H,I,rfl,q⟩
theorem me_isdigit (ho:ME X EX o mo) (hbase:attributeBase o "isdigit" X.env (eval o X.env) = eval o X.env:=by rfl) (hline:(apos.endLine == cpos.line) = true:=by rfl) :
    ME X EX (.Call (.Attribute o "isdigit" apos) [] [] cpos) (mMth0 gIsdigit mo):=by
  refine me_mth0 PySem.F.slot_str_isdigit PySem.F.type_str_isdigit mt_isdigit (fun Z α F H μ d ds c x vs Q R hp hq hg k => ?_) ho hbase hline
  cases d with
  | str z =>
    cases ds with
    | nil =>
      have hp:=pk_str hp
      subst hp
      cases hg
      have hv:vs = []:=hq
      subst hv
      exact ⟨_,rfl,rfl,k _ F H R (Same.refl _) (rep_bl _)⟩
    | cons a b => cases hg
  | _ => cases ds <;> cases hg
end
end M
set_option Elab.async false
set_option linter.all false
set_option maxRecDepth 100000
set_option maxHeartbeats 4000000
namespace M
open PySem PySem.Spec PyProof.Rows L2
noncomputable abbrev mkS (x:List Nat):Str:=⟨x.toArray⟩
noncomputable def txtsOf:List D → Option (List (List Nat))
  | [] => some []
  | .str x :: ds => (txtsOf ds).map (x :: ·)
  | _ :: _ => none
noncomputable def gJoin:D → GL:=fun d ds => match d,ds with
  | .str x,[.lst ys] => (txtsOf ys).bind fun ts => if JoinOk (mkS x) (ts.map mkS) = true then some (.str (Txt.join (mkS x) (ts.map mkS)).cps.toList) else none
  | _,_ => none
theorem reps_txts {K:PySem.W.Frag} {F:Hp} {α:List Addr}:∀ {ys:List D} {vs:List V} {ts:List (List Nat)},Reps K F α ys vs → txtsOf ys = some ts → vs = (ts.map mkS).map V.str
  | [],vs,ts,h,e => by
    unfold Reps at h
    cases e
    exact h
  | d :: ys,vs,ts,h,e => by
    unfold Reps at h
    obtain ⟨v,r,rfl,h1,h2⟩:=h
    cases d with
    | str x =>
      cases e2:txtsOf ys with
      | none => simp [txtsOf,e2] at e
      | some t2 =>
        simp only [txtsOf,e2,Option.map_some,Option.some.injEq] at e
        subst e
        rw [reps_txts h2 e2]
        unfold Rep at h1
        rw [h1]
        rfl
    | _ => cases e
theorem txts_reps {K:PySem.W.Frag} {F:Hp} {α:List Addr}:∀ ts:List Str,Reps K F α (ts.map fun t => .str t.cps.toList) (ts.map V.str)
  | [] => reps_nil
  | t :: ts => reps_cons (rep_str t.cps.toList) (txts_reps ts)
theorem vals_strs:∀ {ts:List Str} {us:List Value},Vals (ts.map V.str) us → ∃ l:List (Str × Tok),us = strValues l ∧ l.map (·.1) = ts
  | [],us,h => by cases h; exact ⟨[],rfl,rfl⟩
  | t :: ts,us,h => by
    cases h with
    | cons h1 h2 =>
      obtain ⟨k,rfl⟩:=h1
      obtain ⟨l,rfl,e⟩:=vals_strs h2
      exact ⟨(t,k) :: l,rfl,by rw [List.map_cons,e]⟩
theorem strs_vals:∀ l:List (Str × Tok),Vals ((l.map (·.1)).map V.str) (strValues l)
  | [] => .nil
  | (t,k) :: l => .cons ⟨k,rfl⟩ (strs_vals l)
section
variable {X:Cx} {EX:EXT} {o e:Expr} {es:List Expr} {mo:MX} {ms:MAs} {apos cpos:Pos}
theorem mt_join:MtR X "str.join" (fun x vs H Q => ∃ z p ts,x = .str z ∧ vs = [.ref p] ∧ SqL X.K H p (ts.map V.str) ∧ JoinOk z ts = true ∧ Q (.str (Txt.join z ts)) H):=by
  intro pins s σ H x xs v us Q I rx rv h
  obtain ⟨z,p,ts,rfl,rfl,hs,hok,q⟩:=h
  obtain ⟨t,rfl⟩:=rx
  obtain ⟨u,rfl,ru⟩:=rv.one
  cases ru
  obtain ⟨its,r,pl,hz⟩:=I.list hs
  obtain ⟨l,rfl,hl⟩:=vals_strs r
  exact SC.join pl.isList hl hok fun t' k => ⟨.str _,H,I.tok _,⟨_,rfl⟩,q⟩
theorem me_join (ho:ME X EX o mo) (ha:MA X EX [e] ms) (hbase:attributeBase o "join" X.env (eval o X.env) = eval o X.env:=by rfl)
    (hfew:((backTo cpos (starEach [e] X.env)).all (fun x => !x.1) && (backToKw cpos (keywordEach [] X.env)).all (fun x => x.1.isSome)
      && decide ([e].length + ([]:List Keyword).length + (if ([]:List Keyword).isEmpty then 0 else 1) < 30)) = true:=by rfl)
    (hline:(apos.endLine == cpos.line) = true:=by rfl) (hst:starEach [e] X.env = (false,eval e X.env) :: starEach [] X.env:=by rfl) (hplain:(backTo cpos (starEach [] X.env)).any (·.1) = false:=by rfl) :
    ME X EX (.Call (.Attribute o "join" apos) [e] [] cpos) (mMth gJoin mo ms):=by
  refine me_mth PySem.F.slot_str_join PySem.F.type_str_join mt_join (fun Z α F H μ d ds c x vs Q R hp hq hg k => ?_) ho ha hbase hfew hline hst hplain
  cases d with
  | str z =>
    match ds,hg with
    | [.lst ys],hg =>
      have hp:=pk_str hp
      subst hp
      obtain ⟨v,r,rfl,⟨q,us,rfl,hs,hr⟩,hq2⟩:=hq
      have hq2:r = []:=hq2
      subst hq2
      simp only [gJoin,Option.bind_eq_some_iff] at hg
      obtain ⟨ts,e1,hg⟩:=hg
      split at hg
      · rename_i hok
        cases hg
        exact ⟨_,q,ts.map mkS,rfl,rfl,by rw [← reps_txts hr e1]; exact hs,hok,k _ F H R (Same.refl _) (rep_str _)⟩
      · cases hg
  | _ => simp [gJoin] at hg
noncomputable def gSplit:D → GL:=fun d ds => match d,ds with
  | .str x,[.str y] => if (y.length == 0) = false ∧ x.length ≤ 16777215 ∧ (Txt.split (mkS x) (mkS y)).length ≤ 16777215 then some (.lst ((Txt.split (mkS x) (mkS y)).map fun t => .str t.cps.toList)) else none
  | _,_ => none
theorem mt_split:MtR X "str.split" (fun x vs H Q => ∃ z y,x = .str z ∧ vs = [.str y] ∧ (y.length == 0) = false ∧ z.length ≤ sizeLine ∧ (Txt.split z y).length ≤ sizeLine ∧ ∀ q,H q = none → Q (.ref q) (upd H q (.lst ((Txt.split z y).map V.str)))):=by
  intro pins s σ H x xs v us Q I rx rv h
  obtain ⟨z,y,rfl,rfl,hy,h1,h2,q⟩:=h
  obtain ⟨t,rfl⟩:=rx
  obtain ⟨u,rfl,ru⟩:=rv.one
  obtain ⟨t2,rfl⟩:=ru
  have fin:∀ (l:List (Str × Tok)) (k:Nat),l.map (·.1) = Txt.split z y → EP X pins σ Q (.ref s.heap.objs.size) { s with toks:=k,heap:=s.heap.push { cls:=.type "list",data:=.seq (strValues l).toArray } }:=fun l k e => by
    refine ⟨.ref _,_,I.laid (a:=s.heap.objs.size) (o:=.lst ((Txt.split z y).map V.str)) (t':=k) (fun _ _ e => Heap.get?_push_of_some _ e) (Nat.le_refl _) ⟨?_,_,_,?_,Heap.get?_push_size _ rfl⟩,rfl,q _ (I.hok.fresh (Nat.le_refl _))⟩
    · rw [List.length_map]; exact h2
    · rw [← e]; exact strs_vals l
  cases c1:(decide (z.length < y.length) || decide (Builtin.Str.strKind z < Builtin.Str.strKind y))
  · cases c2:(Builtin.Str.occurrences z y 0 z.length (z.length + 1)).isEmpty
    · have e:Txt.split z y = Builtin.Str.partsBetween z (Builtin.Str.occurrences z y 0 z.length (z.length + 1)) y.length:=(if_neg (ne_true_of_eq_false c1)).trans (if_neg (ne_true_of_eq_false c2))
      refine call_meets F.slot_str_split (typeIs_str _ _ _) F.entry_str_split (F.args_str_split_2 _ _) (meets_str_split_sep z y t t2 c1 hy c2 h1 (by rw [← e]; exact h2)) ?_
      show EP X pins σ Q (.ref s.heap.objs.size) { s with toks:=_,heap:=s.heap.push { cls:=.type "list",data:=.seq (strsFrom s.toks (Builtin.Str.partsBetween z (Builtin.Str.occurrences z y 0 z.length (z.length + 1)) y.length)).toArray } }
      rw [strsFrom_eq]
      exact fin (numbered s.toks _) _ ((numbered_texts _ _).trans e.symm)
    · exact call_meets F.slot_str_split (typeIs_str _ _ _) F.entry_str_split (F.args_str_split_2 _ _) (meets_str_split_not_found z y t t2 c1 hy c2) (fin [(z,t)] s.toks ((if_neg (ne_true_of_eq_false c1)).trans (if_pos c2)).symm)
  · exact call_meets F.slot_str_split (typeIs_str _ _ _) F.entry_str_split (F.args_str_split_2 _ _) (meets_str_split_cannot_occur z y t t2 c1) (fin [(z,t)] s.toks (if_pos c1).symm)
theorem me_split (ho:ME X EX o mo) (ha:MA X EX [e] ms) (hbase:attributeBase o "split" X.env (eval o X.env) = eval o X.env:=by rfl)
    (hfew:((backTo cpos (starEach [e] X.env)).all (fun x => !x.1) && (backToKw cpos (keywordEach [] X.env)).all (fun x => x.1.isSome)
      && decide ([e].length + ([]:List Keyword).length + (if ([]:List Keyword).isEmpty then 0 else 1) < 30)) = true:=by rfl)
    (hline:(apos.endLine == cpos.line) = true:=by rfl) (hst:starEach [e] X.env = (false,eval e X.env) :: starEach [] X.env:=by rfl) (hplain:(backTo cpos (starEach [] X.env)).any (·.1) = false:=by rfl) :
    ME X EX (.Call (.Attribute o "split" apos) [e] [] cpos) (mMth gSplit mo ms):=by
  refine me_mth PySem.F.slot_str_split PySem.F.type_str_split mt_split (fun Z α F H μ d ds c x vs Q R hp hq hg k => ?_) ho ha hbase hfew hline hst hplain
  cases d with
  | str z =>
    match ds,hg with
    | [.str y],hg =>
      have hp:=pk_str hp
      subst hp
      obtain ⟨v,rfl,h1⟩:=pks1 hq
      rw [pk_str h1]
      simp only [gSplit] at hg
      split at hg
      · rename_i hh
        cases hg
        refine ⟨_,_,rfl,rfl,by simpa [Str.length] using hh.1,?_,?_,fun q hq => ?_⟩
        · rw [sizeLine_eq]; have:=hh.2.1; simp only [Str.length,List.size_toArray]; omega
        · rw [sizeLine_eq]; exact Nat.le_trans hh.2.2 (by decide)
        · obtain ⟨a1,a2,a3⟩:=lay_lst R (txts_reps (Txt.split (mkS z) (mkS y))) hq
          exact k _ _ _ a1 a2 a3
      · cases hg
  | _ => simp [gSplit] at hg
noncomputable def gIntT:GL:=fun ds => match ds with
  | [.str x] => if x.length ≤ 640 then (PySem.intText? (mkS x)).map .int else none
  | _ => none
theorem call_intT:CallR X (.type "int") (fun xs H Q => ∃ z n,xs = [.str z] ∧ z.length ≤ 640 ∧ PySem.intText? z = some n ∧ Q (.int n) H):=by
  intro pins s σ H xs us Q I r h
  obtain ⟨z,n,rfl,hl,hn,q⟩:=h
  obtain ⟨u,rfl,rx⟩:=vals1 r
  obtain ⟨t,rfl⟩:=rx
  exact PySem.W.KIN.call_text hn hl ⟨.int n,H,I.tok _,⟨_,rfl⟩,q⟩
theorem cm_intT:CallM X (.type "int") gIntT:=by
  refine ⟨_,call_intT,fun Z α F H μ ds c vs Q R hp hg k => ?_⟩
  match ds,hg with
  | [.str x],hg =>
    obtain ⟨v,rfl,h1⟩:=pks1 hp
    rw [pk_str h1]
    simp only [gIntT] at hg
    split at hg
    · rename_i hl
      obtain ⟨n,hn,rfl⟩:=Option.map_eq_some_iff.mp hg
      exact ⟨_,n,rfl,by simpa [Str.length] using hl,hn,k _ F H R (Same.refl _) (rep_int _)⟩
    · cases hg
noncomputable def gStrC:GL:=fun ds => match ds with
  | [.int i] => if i.natAbs.log2 < 1920 then some (.str (Str.ofString (toString i)).cps.toList) else none
  | [.str x] => some (.str x)
  | _ => none
theorem call_strC:CallR X (.type "str") (fun xs H Q => (∃ i,xs = [.int i] ∧ i.natAbs.log2 < 1920 ∧ Q (.str (toString i)) H) ∨ ∃ z,xs = [.str z] ∧ Q (.str z) H):=by
  intro pins s σ H xs us Q I r h
  rcases h with ⟨i,rfl,hi,q⟩ | ⟨z,rfl,q⟩
  · exact call_str_int pins s σ H _ us Q I r ⟨i,rfl,hi,q⟩
  · obtain ⟨u,rfl,rx⟩:=vals1 r
    obtain ⟨t,rfl⟩:=rx
    exact PySem.P.str_of_str ⟨.str z,H,I,⟨_,rfl⟩,q⟩
theorem cm_str:CallM X (.type "str") gStrC:=by
  refine ⟨_,call_strC,fun Z α F H μ ds c vs Q R hp hg k => ?_⟩
  match ds,hg with
  | [.int i],hg =>
    obtain ⟨v,rfl,h1⟩:=pks1 hp
    rw [pk_int h1]
    simp only [gStrC] at hg
    split at hg
    · rename_i hl
      cases hg
      exact .inl ⟨i,rfl,hl,k _ F H R (Same.refl _) (rep_str _)⟩
    · cases hg
  | [.str x],hg =>
    obtain ⟨v,rfl,h1⟩:=pks1 hp
    rw [pk_str h1]
    cases hg
    exact .inr ⟨_,rfl,k _ F H R (Same.refl _) (rep_str _)⟩
end
end M
set_option Elab.async false
set_option linter.all false
set_option maxRecDepth 100000
set_option maxHeartbeats 4000000
namespace M
open PySem PySem.Spec PyProof.Rows L2
section
variable {X:Cx} {EX:EXT} {o a:Expr} {mo m:MX} {ms:MAs}
theorem in_fun2 {pins:List (Addr × Obj)} {σ:L2.St} {H F:Hp} {s:Shared} {α:List Addr} {A:Around} (hu:A.units + 150 < cLine) (I:Inv X pins σ H s) (sub:Same F H) {x:D} {v:V} {u:Value} (hx:plainD x = true) (hd:dpt x ≤ 100)
    (h:Pk X.K α F H x v) (r:RelV v u) (ds:List D) (vs:List V) (us:List Value) (hp:plainDs ds = true) (hr:Reps X.K F α ds vs) (rv:Vals vs us) :
    ∃ e:Value → Bool,(∀ w ∈ us,SeqAt.EqAt A s w u (e w)) ∧ us.map e = ds.map fun d => eqD d x:=by
  obtain ⟨bs,rx⟩:=reads_pk I sub hx h r
  have hone:∀ (d:D) (w:Value) (as:List Addr),plainD d = true → Reads s.heap w (toPy d) as → SeqAt.EqAt A s w u (eqD d x):=fun d w as hd' q => by
    have:=PySem.SeqAt.eqAt_reads (toPy d) (toPy x) A s w u as bs q rx (canLay_toPy _ hd') (canLay_toPy _ hx) (by rw [depth_toPy,depth_toPy]; omega)
    rw [eqv_toPy _ _ hd' hx] at this
    exact this
  classical
  let e:Value → Bool:=fun w => decide (∃ d as,plainD d = true ∧ Reads s.heap w (toPy d) as ∧ eqD d x = true)
  have he:∀ (d:D) (w:Value) (as:List Addr),plainD d = true → Reads s.heap w (toPy d) as → e w = eqD d x:=fun d w as hd' q => by
    cases hq:eqD d x with
    | true => exact decide_eq_true ⟨d,as,hd',q,hq⟩
    | false =>
      refine decide_eq_false ?_
      rintro ⟨d2,as2,hp2,q2,e2⟩
      have e3:=PySem.SeqAt.Reads.unique (toPy d) (toPy d2) w as as2 (canLay_toPy _ hd') q q2
      rw [← eqv_toPy _ _ hp2 hx,← e3,eqv_toPy _ _ hd' hx,hq] at e2
      cases e2
  have all:∀ (ds:List D) (vs:List V) (us:List Value),plainDs ds = true → Reps X.K F α ds vs → Vals vs us → (∀ w ∈ us,SeqAt.EqAt A s w u (e w)) ∧ us.map e = ds.map fun d => eqD d x:=by
    intro ds
    induction ds with
    | nil =>
      intro vs us _ hr rv
      unfold Reps at hr
      subst hr
      cases rv
      exact ⟨fun w hw => (nomatch hw),rfl⟩
    | cons d ds ih =>
      intro vs us hp hr rv
      unfold Reps at hr
      obtain ⟨v1,vr,rfl,h1,h2⟩:=hr
      simp only [plainDs,Bool.and_eq_true] at hp
      cases rv with
      | cons r1 r2 =>
        obtain ⟨as,q1⟩:=reads_of I sub d v1 _ hp.1 h1 r1
        obtain ⟨a1,a2⟩:=ih vr _ hp.2 h2 r2
        refine ⟨fun w hw => ?_,?_⟩
        · rcases List.mem_cons.mp hw with rfl | hw
          · rw [he d _ as hp.1 q1]; exact hone d _ as hp.1 q1
          · exact a1 w hw
        · rw [List.map_cons,List.map_cons,he d _ as hp.1 q1,a2]
  exact ⟨e,(all ds vs us hp hr rv).1,(all ds vs us hp hr rv).2⟩
noncomputable def ixD (x:D) (ds:List D):Option Nat:=(ds.map fun d => eqD d x).findIdx? id
noncomputable def gIndex:D → D → Option D:=fun d x => match d with
  | .lst ds => if inOk x ds && decide (ds.length ≤ 16777216) then (ixD x ds).map fun j => .int j else none
  | _ => none
noncomputable def mIndex (mo m:MX):MX:=fun ρ μ => (mo ρ μ).bind fun d μ1 => if isLst (deref μ1 d) = true then (m ρ μ1).bind fun y μ2 => ofO μ2 (gIndex (deref μ2 d) (deref μ2 y)) else .bad
noncomputable def rIndex (K:PySem.W.Frag):V → List V → Hp → VK → Prop:=fun x vs H Q => ∃ F α b ds p us v j,Same F H ∧ Pk K α F H b v ∧ x = .ref p ∧ vs = [v] ∧ SqL K H p us ∧ Reps K F α ds us ∧ inOk b ds = true ∧ ds.length ≤ 16777216 ∧ ixD b ds = some j ∧ Q (.int (j:Nat)) H
theorem mt_index (hu:X.A.units + 200 < cLine):MtR X "list.index" (rIndex X.K):=by
  intro pins s σ H x xs v us Q I rx rv h
  obtain ⟨F,α,b,ds,p,ws,v1,j,sub,hb,rfl,rfl,hq,hr,hc,hl,hj,q⟩:=h
  unfold inOk at hc
  simp only [Bool.and_eq_true,decide_eq_true_eq] at hc
  cases rx
  obtain ⟨u,rfl,ru⟩:=rv.one
  obtain ⟨its,r,pl,hz⟩:=I.list hq
  obtain ⟨e,e1,e2⟩:=in_fun2 (A:=X.A.in1) (by show X.A.units + 1 + 150 < cLine; omega) I sub hc.1.1 hc.2 hb ru ds ws its hc.1.2 hr r
  obtain ⟨ob,n,e3,c1,c2,c3⟩:=pl
  unfold ixD at hj
  rw [← e2,List.findIdx?_eq_some_iff_getElem] at hj
  obtain ⟨h1,h2,h3⟩:=hj
  rw [List.length_map] at h1
  have hlen:its.length = ds.length:=by have:=congrArg List.length e2; simpa using this
  obtain ⟨cls,dd,dat,sl⟩:=ob
  simp only at c1 c2 c3
  subst c1 c3
  refine call_meets PySem.F.slot_list_index ⟨_,e3,rfl⟩ PySem.F.entry_list_index (PySem.F.args_list_index_2 _ _) (SeqAt.list_indexAt p its.toArray n dd sl u e j (by simpa using h1) (by omega) (by simpa using h2) (fun m hm h4 => ?_)) ⟨e3,fun y hy => ?_,?_⟩
  · have:=h3 m h4
    simpa using this
  · exact e1 y (by simpa using hy)
  · exact ⟨.int j,H,I.tok _,⟨_,rfl⟩,q⟩
theorem me_index {apos cpos:Pos} (hu:X.A.units + 200 < cLine) (ho:ME X EX o mo) (ha:MA X EX [a] ms) (hm:∀ ρ μ,ms ρ μ = (m ρ μ).bind fun d μ1 => .ok [d] μ1)
    (hbase:attributeBase o "index" X.env (eval o X.env) = eval o X.env:=by rfl)
    (hfew:((backTo cpos (starEach [a] X.env)).all (fun x => !x.1) && (backToKw cpos (keywordEach [] X.env)).all (fun x => x.1.isSome)
      && decide ([a].length + ([]:List Keyword).length + (if ([]:List Keyword).isEmpty then 0 else 1) < 30)) = true:=by rfl)
    (hline:(apos.endLine == cpos.line) = true:=by rfl) (hs:starEach [a] X.env = (false,eval a X.env) :: starEach [] X.env:=by rfl) (hplain:(backTo cpos (starEach [] X.env)).any (·.1) = false:=by rfl) :
    ME X EX (.Call (.Attribute o "index" apos) [a] [] cpos) (mIndex mo m):=by
  obtain ⟨to,po,so⟩:=ho
  obtain ⟨ta,pa,sa,_⟩:=ha
  refine ⟨_,pe_bm PySem.F.plainAttrs_list PySem.F.slot_list_index PySem.F.type_list_index (mt_index hu) po pa hbase hfew hline hs hplain,fun Z α F H σ ρ μ Q R g => ?_⟩
  refine so Z α F H σ ρ μ _ R (GE.step (G:=GE X.K EX Z α F Q) g (fun _ _ h => h) (fun h => h) fun d μ1 v α1 F1 H1 R1 e1 p1 g1 => ?_)
  by_cases hd:isLst (deref μ1 d) = true
  · rw [if_pos hd] at g1
    refine ⟨?_,?_⟩
    · have k1:=R1.pk p1
      cases hq:deref μ1 d with
      | lst xs =>
        rw [hq] at k1
        obtain ⟨q,us,rfl,hsq,hr⟩:=k1
        exact .inl ⟨rfl,us,hsq⟩
      | _ => rw [hq] at hd; cases hd
    · refine sa Z α1 F1 H1 σ ρ μ1 _ (R.to R1 e1) ?_
      rw [hm]
      cases hy:m ρ μ1 with
      | exc x μ2 => rw [hy] at g1; exact g1
      | bad => rw [hy] at g1; exact g1
      | ok y μ2 =>
        rw [hy] at g1
        intro vs α2 F2 H2 R2 e2 p2
        unfold Reps at p2
        obtain ⟨vy,r,rfl,p2,hr⟩:=p2
        have hr:r = []:=hr
        subst hr
        have g1:GE X.K EX Z α F Q (ofO μ2 (gIndex (deref μ2 d) (deref μ2 y))):=g1
        have k1:=R2.pk (p1.mono e2)
        cases hq:deref μ2 d with
        | lst ds =>
          rw [hq] at k1 g1
          obtain ⟨q,us,rfl,hsq,hr⟩:=k1
          unfold gIndex at g1
          dsimp only at g1
          split at g1
          · rename_i hc
            rw [Bool.and_eq_true,decide_eq_true_eq] at hc
            cases hj:ixD (deref μ2 y) ds with
            | none => rw [hj] at g1; exact g1.elim
            | some j =>
              rw [hj] at g1
              exact ⟨F2,α2,deref μ2 y,ds,q,us,vy,j,R2.sub,R2.pk p2,rfl,rfl,hsq,hr,hc.1,hc.2,hj,g1 _ α2 F2 H2 R2 (e1.trans e2) (rep_int _)⟩
          · exact g1.elim
        | _ => rw [hq] at g1; exact g1.elim
  · rw [if_neg hd] at g1; exact g1.elim
end
end M
set_option Elab.async false
set_option linter.all false
set_option maxRecDepth 100000
set_option maxHeartbeats 4000000
namespace M
open PySem PySem.Spec PyProof.Rows L2
theorem xi_upd {K:PySem.W.Frag} {H:Hp} {a q:Addr} {C:Str} {o:HO} (h:XI K H a C) (hq:H q = none):XI K (upd H q o) a C:=by
  rcases h with ⟨dx,fs,h1,h2⟩ | h1
  · exact .inl ⟨dx,fs,by rw [upd_ne (ne_of_none h1 hq)]; exact h1,by rw [upd_ne (ne_of_none h2 hq)]; exact h2⟩
  · exact .inr (by rw [upd_ne (ne_of_none h1 hq)]; exact h1)
section
variable {X:Cx} {EX:EXT} {e:Expr} {m:MX} {pos:Pos}
noncomputable def PCs (X:Cx) (es:List Expr) (Ts:List Addr):Prop:=∀ (pos:Pos) (pins:List (Addr × Obj)) (s:Shared) (σ:L2.St) (H:Hp),Inv X pins σ H s → wpAny (model X.prog X.w) X.A (spliced (backTo pos (starEach es X.env))) (AP X pins σ fun vs H1 => H1 = H ∧ vs = Ts.map .ref) X.xe s
theorem pcs_nil:PCs X [] []:=fun _ _ _ _ H I => Calls.spliced_nil ⟨[],H,I,.nil,rfl,rfl⟩
theorem pcs_cons {x:Str} {T:Addr} {p:Pos} {es:List Expr} {Ts:List Addr} (hg:Gl X x) (hm:X.mg x = some (.ref T)) (h:PCs X es Ts) (hd:(x == ("__debug__":Str)) = false:=by decide)
    (hs:starEach (.Name x p :: es) X.env = (false,eval (.Name x p) X.env) :: starEach es X.env:=by rfl):PCs X (.Name x p :: es) (T :: Ts):=by
  intro pos pins s σ H I
  rw [hs]
  show wpAny _ _ (spliced ((false,eval (.Name x p) X.env) :: backTo pos (starEach es X.env))) _ _ s
  refine Calls.spliced_cons (ld_glob I hg hm ?_ hd)
  exact thn (h pos pins s σ H I) fun us s2 ⟨xs,H2,I2,r2,e1,e2⟩ => ⟨.ref T :: xs,H2,I2,.cons rfl r2,e1,by rw [e2]; rfl⟩
theorem call_isxT {g:Str → Option Bool} {Ts:List Addr} (hg:∀ C b,g C = some b → XGet X.K (cA X.K C) ∧ PySem.W.kitAny X.K (.ref (cA X.K C)) (Ts.map .ref) = some b) :
    CallR X (.builtin "isinstance") (fun xs H Q => ∃ a C b tp,xs = [.ref a,.ref tp] ∧ g C = some b ∧ XI X.K H a C ∧ H tp = some (.tup (Ts.map .ref)) ∧ Q (.bl b) H):=by
  intro pins s σ H xs us Q I r h
  obtain ⟨a,C,b,tp,rfl,hb,h1,h3,q⟩:=h
  obtain ⟨u,w',rfl,r1,r2⟩:=vals2 r
  obtain rfl:u = .ref a:=r1
  obtain rfl:w' = .ref tp:=r2
  obtain ⟨ox,od,J⟩:=h1.inst I.hok
  obtain ⟨c',kit⟩:=hg C b hb
  obtain ⟨-,its,rv,o,ho,hcl,n,hd⟩:=I.hok tp _ h3
  have ei:its = Ts.map .ref:=by
    clear hd h3 hg kit h1
    generalize hv:Ts.map V.ref = vs at rv
    induction rv generalizing Ts with
    | nil => cases Ts with
      | nil => rfl
      | cons _ _ => cases hv
    | cons r rs ih => cases Ts with
      | nil => cases hv
      | cons T Ts' =>
        cases hv
        rw [ih rfl]
        cases (show _ = Value.ref T from r)
        rfl
  subst ei
  obtain ⟨oc,odd,odt,osl⟩:=o
  cases hcl
  cases hd
  exact PySem.W.kia_tup (kitx_exc (ox:=ox) (od:=od) c') I.kIn J ho kit (fun z => nomatch z) fun tk => ⟨.bl b,H,I.tok _,rfl,q⟩
theorem me_isxT {g:Str → Option Bool} {es:List Expr} {Ts:List Addr} {x1} {p p2:Pos} (hT:PCs X es Ts) (hl:Ts.length ≤ 1000) (hg:∀ C b,g C = some b → XGet X.K (cA X.K C) ∧ PySem.W.kitAny X.K (.ref (cA X.K C)) (Ts.map .ref) = some b)
    (hG:Gl X "isinstance") (hm:X.mg "isinstance" = none) (ha:ME X EX e m) (hs:starEach [e,.Tuple es x1 p2] X.env = (false,eval e X.env) :: starEach [.Tuple es x1 p2] X.env:=by rfl) (hs2:starEach [.Tuple es x1 p2] X.env = [(false,eval (.Tuple es x1 p2) X.env)]:=by rfl) :
    ME X EX (.Call (.Name "isinstance" p) [e,.Tuple es x1 p2] [] pos) (mIsX g m):=by
  obtain ⟨t,pt,st⟩:=ha
  have hc:PE X (.Tuple es x1 p2) (fun σ H Q => ∀ q,H q = none → Q (.ref q) (upd H q (.tup (Ts.map .ref)))):=by
    intro pins s σ H Q I h
    refine wpAny_Tuple_spliced (thn (hT p2 pins s σ H I) fun us s1 ⟨xs,H1,I1,r,e1,e2⟩ => ?_)
    subst e1 e2
    have z:(Ts.map V.ref).length ≤ sizeLine:=by rw [List.length_map,sizeLine_eq]; omega
    refine ⟨by rw [← r.length]; exact z,?_⟩
    have hf:H1 s1.heap.objs.size = none:=I1.hok.fresh (Nat.le_refl _)
    refine ⟨.ref s1.heap.objs.size,upd H1 s1.heap.objs.size (.tup (Ts.map .ref)),I1.laid (t':=s1.toks) (fun b u e => Heap.get?_push_of_some _ e) (Nat.le_refl _) ?_,rfl,h _ hf⟩
    exact ⟨z,us,r,⟨_,Heap.get?_push_size _ rfl,rfl,_,rfl⟩⟩
  refine ⟨_,pe_callB (call_isxT hg) hG hm PyProof.Rows.boot_isinstance (pa_cons pt (pa_cons hc pa_nil hs2) hs) (by decide) (by decide) hs (by rw [hs2]; rfl),fun Z α F H σ ρ μ Q R g => ?_⟩
  refine st Z α F H σ ρ μ _ R (GE.step (G:=GE X.K EX Z α F Q) g (fun _ _ h => h) (fun h => h) fun d μ1 v α1 F1 H1 R1 e1 p1 g1 => ?_)
  obtain ⟨a,C,b,rfl,hb,h1,q⟩:=isx_good R1 e1 p1 g1
  refine fun q' hq => ⟨a,C,b,q',rfl,hb,xi_upd h1 hq,upd_same,q _ α1 _ _ (R1.lay _ hq) (e1.trans (R1.layExt _ hq)) (rep_bl _)⟩
end
end M
set_option Elab.async false
set_option linter.all false
set_option maxRecDepth 100000
set_option maxHeartbeats 4000000
namespace M
open PySem PySem.Spec PyProof.Rows L2
section
variable {K:PySem.W.Frag} {Z:ZS} {F H:Hp} {α:List Addr} {μ:Mu} {j:Nat} {a:Addr} {ds:List D} {vs:List V}
theorem RH.lend (r:RH K Z α F H μ) (ha:α[j]? = some a) (hc:μ[j]? = some (.lst ds)) (ho:H a = some (.lst vs)):RH K (Z.up a (.lst vs)) α F H (μ.set j .dead):=by
  have hd:Cell.lst ds ≠ .dead:=by simp
  have hF:F a = none:=((r.cell j a _ ha hc).live hd).1
  have hk:j < μ.length:=(List.getElem?_eq_some_iff.mp hc).1
  have at':∀ (k:Nat) (c':Cell),(μ.set j .dead)[k]? = some c' → c' ≠ .dead → k ≠ j ∧ μ[k]? = some c':=fun k c' h hd' => by
    by_cases e:k = j
    · subst e; rw [List.getElem?_set_self hk] at h; exact absurd (Option.some.inj h).symm hd'
    · rw [List.getElem?_set_ne (Ne.symm e)] at h; exact ⟨e,h⟩
  refine ⟨r.sub,by simp [r.len],fun k b c' hj hc' => ?_,fun b u e => ?_,fun b u e => ?_,fun k b c' hj hc' d' => ?_,fun i k b c1 c2 hi hj ci cj d1 d2 => ?_,r.ext⟩
  · by_cases d':c' = .dead
    · subst d'; trivial
    · exact r.cell k b c' hj (at' k c' hc' d').2
  · by_cases hb:b = a
    · subst hb; rw [up_same] at e; rw [ho]; exact e
    · rw [up_ne hb] at e; exact r.zs b u e
  · by_cases hb:b = a
    · subst hb; exact hF
    · rw [up_ne hb] at e; exact r.zf b u e
  · obtain ⟨e1,e2⟩:=at' k c' hc' d'
    rw [up_ne (fun z => e1 (r.dis k j a c' _ (by rw [← z]; exact hj) ha e2 hc d' hd))]
    exact r.zc k b c' hj e2 d'
  · exact r.dis i k b c1 c2 hi hj (at' i c1 ci d1).2 (at' k c2 cj d2).2 d1 d2
theorem RH.lent (r:RH K (Z.up a (.lst vs)) α F H μ) (hz:Z.z a = none) (ha:α[j]? = some a) (hr:Reps K F α ds vs):RH K Z α F H (μ.set j (.lst ds)):=by
  have hk:j < μ.length:=by rw [← r.len]; exact (List.getElem?_eq_some_iff.mp ha).1
  have at':∀ (k:Nat) (c':Cell),(μ.set j (.lst ds))[k]? = some c' → (k = j ∧ c' = .lst ds) ∨ (k ≠ j ∧ μ[k]? = some c'):=fun k c' h => by
    by_cases e:k = j
    · subst e; rw [List.getElem?_set_self hk] at h; exact .inl ⟨rfl,(Option.some.inj h).symm⟩
    · rw [List.getElem?_set_ne (Ne.symm e)] at h; exact .inr ⟨e,h⟩
  have nc:∀ (k:Nat) (b:Addr) (c:Cell),α[k]? = some b → μ[k]? = some c → c ≠ .dead → b ≠ a:=fun k b c h1 h2 hd z => by
    have:=r.zc k b c h1 h2 hd
    rw [z,up_same] at this
    cases this
  refine ⟨r.sub,by simp [r.len],fun k b c' hj hc' => ?_,fun b u e => ?_,fun b u e => ?_,fun k b c' hj hc' d' => ?_,fun i k b c1 c2 hi hj ci cj d1 d2 => ?_,r.ext⟩
  · rcases at' k c' hc' with ⟨e1,e2⟩ | ⟨e1,e2⟩
    · subst e1; rw [ha] at hj; cases hj; rw [e2]; exact ⟨r.zf _ _ up_same,vs,r.zs _ _ up_same,hr⟩
    · exact r.cell k b c' hj e2
  · exact r.zs b u (by rw [up_ne (ne_of_none e hz)]; exact e)
  · exact r.zf b u (by rw [up_ne (ne_of_none e hz)]; exact e)
  · rcases at' k c' hc' with ⟨e1,e2⟩ | ⟨e1,e2⟩
    · subst e1; rw [ha] at hj; cases hj; exact hz
    · have:=r.zc k b c' hj e2 d'
      rw [up_ne (nc k b c' hj e2 d')] at this
      exact this
  · rcases at' i c1 ci with ⟨e1,e2⟩ | ⟨e1,e2⟩
    · rcases at' k c2 cj with ⟨g1,g2⟩ | ⟨g1,g2⟩
      · omega
      · subst e1; rw [ha] at hi; cases hi; exact absurd rfl (nc k _ c2 hj g2 d2)
    · rcases at' k c2 cj with ⟨g1,g2⟩ | ⟨g1,g2⟩
      · subst g1; rw [ha] at hj; cases hj; exact absurd rfl (nc i _ c1 hi e2 d1)
      · exact r.dis i k b c1 c2 hi hj e2 g2 d1 d2
end
noncomputable def mCompW (k:Nat) (ix:List Nat) (tg:MG) (mo:MX) (t:MB) (m:MX):MX:=fun ρ μ => (mo ρ μ).bind fun d μ1 => match d with
  | .ref j => match μ1[j]? with
    | some (.lst ds) => if ds.length ≤ 16777216 then (compGo tg t m ds (blk k ix ρ) (μ1.set j .dead) []).bind fun xs μ2 => .ok (.lst xs) (μ2.set j (.lst ds)) else .bad
    | _ => .bad
  | _ => .bad
section
variable {X:Cx} {EX:EXT} {scope:Scope} {T caps:List Str} {ix:List Nat} {tg iter elt:Expr} {ifs:List Expr} {g:MG} {t:MB} {m mo:MX} {pos:Pos}
theorem me_compW (cs:CompScope scope X.env) (cp:Caps X scope T caps ix) (hcalm:X.calm = true) (hi:ME X EX iter mo) (hb:Blk X scope (T ++ caps) tg ifs elt g t m) (hs:∀ x,foldedSetIterable iter X.env x = pure x:=by intro _; rfl) :
    ME X EX (.ListComp elt [⟨tg,iter,ifs,0⟩] scope pos) (mCompW T.length ix g mo t m):=by
  obtain ⟨ti,pt,st⟩:=hi
  refine ⟨fun σ H Q => ∀ pins s,Inv X pins σ H s → wpAny (model X.prog X.w) X.A (eval (.ListComp elt [⟨tg,iter,ifs,0⟩] scope pos) X.env) (EP X pins σ Q) X.xe s,fun pins s σ H Q I h => h pins s I,fun Z α F H σ ρ μ Q R gd pins s I => ?_⟩
  rw [eval_ListComp]
  refine wpAny_comprehension_free (use:=none) rfl hs (closure_eq (cs.had I.ok)) cs.kind cs.loc ?_
  have hw:iList X.K ti σ H fun J H1 => ∃ α1 F1 μ1 j a ds vs,RH X.K Z α1 F1 H1 μ1 ∧ Ext α F α1 F1 ∧ J = Itl X.K a ∧ α1[j]? = some a ∧ μ1[j]? = some (.lst ds) ∧ H1 a = some (.lst vs) ∧ Reps X.K F1 α1 ds vs ∧ ds.length ≤ 16777216 ∧
      GE X.K EX Z α F Q ((compGo g t m ds (blk T.length ix ρ) (μ1.set j .dead) []).bind fun xs μ2 => .ok (.lst xs) (μ2.set j (.lst ds))):=by
    unfold mCompW at gd
    refine st Z α F H σ ρ μ _ R ?_
    cases h1:mo ρ μ with
    | exc x μ1 => rw [h1] at gd; exact gd
    | bad => rw [h1] at gd; exact gd
    | ok d μ1 =>
      rw [h1] at gd
      intro v α' F' H' R' e' p
      cases d with
      | ref j =>
        simp only [bind_ok] at gd
        unfold Rep at p
        obtain ⟨a,ha,rfl⟩:=p
        split at gd
        · rename_i ds hc
          split at gd
          · rename_i hds
            obtain ⟨_,vs,h2,h3⟩:=R'.cell j a _ ha hc
            exact ⟨a,rfl,⟨vs,SqL.of h2⟩,α',F',μ1,j,a,ds,vs,R',e',rfl,ha,hc,h2,h3,hds,gd⟩
          · exact gd.elim
        · exact gd.elim
      | _ => exact gd.elim
  refine thn (pi_list (tg:=tg) pt pins s σ H _ I hw) fun v s1 h1 => thn h1 fun itv s2 h2 => ?_
  obtain ⟨it,fp,tn,J,H2,rfl,I2,Tn,t0,f2,α1,F1,μ1,j,a,ds,vs,R1,e1,rfl,ha,hc,ho,hr,hds,gd⟩:=h2
  have hz:Z.z a = none:=R1.zc j a _ ha hc (by simp)
  have R2:=R1.lend ha hc ho
  have wk:WalkZ X.K (Z.up a (.lst vs)).z α1 F1 (Itl X.K a) ds:=by
    intro Z' α' F' H' μ' hzz R e i
    have hl:=hr.length
    have hq:SqL X.K H' a vs:=SqL.of (R.zs _ _ (hzz _ _ up_same))
    refine ⟨fun h => ?_,fun h => ⟨vs,hq,by omega⟩⟩
    obtain ⟨v,h1,h2⟩:=hr.get (List.getElem?_eq_getElem h)
    refine ⟨⟨vs,v,hq,h1⟩,fun x H2 y => ?_⟩
    obtain ⟨rfl,y⟩:=y
    have hx:=y vs hq
    rw [h1] at hx
    cases hx
    exact ⟨_,F',List.getElem?_eq_getElem h,R,Same.refl _,h2.mono e⟩
  refine comp_core (Z:=Z.up a (.lst vs)) (ρ:=ρ) (G:=fun r => GE X.K EX Z α F Q (r.bind fun xs μ2 => .ok (.lst xs) (μ2.set j (.lst ds)))) cs cp hcalm hb I2 Tn t0 f2 ⟨R2,R.len,fun i d hd => let ⟨v,h1,h2⟩:=R.sl i d hd; ⟨v,h1,h2.mono e1⟩⟩ wk hds gd (fun z => z) fun D' C H' s' α' F' xs μ' mm I' fC hn R' e' rp gg => ?_
  refine ⟨mm,hn,fun h' hs' => ⟨.ref D',H',inv_but I' fC hs',rfl,?_⟩⟩
  exact gg _ α' F' H' (R'.lent hz (e'.al j a ha) (hr.mono e')) (e1.trans e') rp
theorem sacC {N G:List Str} (C:Ct X N G) (i:Nat) {x:Str} {pos':Pos} {mi:MIt} {spos:Pos} (h:N[i]? = some x) (cs:CompScope scope X.env) (cp:Caps X scope T caps ix) (hcalm:X.calm = true) (hi:MI X EX tg iter mi)
    (hb:Blk X scope (T ++ caps) tg ifs elt g t m) (hsw:swapsWith (.ListComp elt [⟨tg,iter,ifs,0⟩] scope pos) (some (.Name x pos')) spos.line X.env = pure true:=by rfl) (hs:∀ x,foldedSetIterable iter X.env x = pure x:=by intro _; rfl) (hk:X.kn = none:=by rfl) :
    MS X EX (.Assign [.Name x pos'] (.ListComp elt [⟨tg,iter,ifs,0⟩] scope pos) spos) (mSet i (mCompC T.length ix g mi t m)):=by
  have hN:X.nd:=⟨C.ndX,hk⟩
  have hi':=C.at h
  have hx:=(C.loc x (mem_at h)).1
  have hf:X.fn x = true ∨ X.env.scope.names.lookup x = some .local:=.inl (C.fn x)
  obtain ⟨wi,pi,si⟩:=hi
  refine ⟨fun N σ H => ∀ pins s,Inv X pins σ H s → wpAny (model X.prog X.w) X.A (exec (.Assign [.Name x pos'] (.ListComp elt [⟨tg,iter,ifs,0⟩] scope pos) spos) X.env) (SP X pins N) X.xe s,fun pins s σ H N I h => h pins s I,fun Z α F H σ ρ μ N R gd pins s I => ?_⟩
  rw [exec_Assign_Name_used _ _ _ _ hsw]
  refine wpAny_bind (wpAny_standAt (wpAny_bind ?_))
  show wpAny _ X.A (do let _ ← comprehension (.ListComp elt [⟨tg,iter,ifs,0⟩] scope pos) scope X.env _ (newList []) false (eval iter X.env) (some (assign (.Name x pos') X.env))) _ _ s
  refine wpAny_bind (wpAny_mono (wpAny_comprehension_free (use:=some (assign (.Name x pos') X.env)) (Q:=fun _ s' => SP X pins N .next s') rfl hs (closure_eq (cs.had I.ok)) cs.kind cs.loc ?_) (fun _ s' hq => wpAny_pure (wpAny_pure hq)) fun _ _ e => e)
  unfold mSet mCompC at gd
  cases hm:mi ρ μ with
  | exc y μ1 =>
    rw [hm] at gd
    have hw:wi σ H fun _ _ => False:=si Z α F H σ ρ μ _ R (by rw [hm]; exact gd)
    refine thn (pi pins s σ H _ I hw) fun v s1 h1 => thn h1 fun itv s2 h2 => ?_
    obtain ⟨_,_,_,_,_,_,_,_,_,_,z⟩:=h2
    exact z.elim
  | bad => rw [hm] at gd; exact gd.elim
  | ok ds μ1 =>
    rw [hm] at gd
    simp only [bind_ok] at gd
    by_cases hds:ds.length ≤ 16777216
    · rw [if_pos hds] at gd
      have hw:wi σ H fun J H1 => ∃ α1 F1,RH X.K Z α1 F1 H1 μ1 ∧ Ext α F α1 F1 ∧ WalkOk X.K α1 F1 J ds:=si Z α F H σ ρ μ _ R (by rw [hm]; exact fun J α' F' H' R' e' w' => ⟨α',F',R',e',w'⟩)
      refine thn (pi pins s σ H _ I hw) fun v s1 h1 => thn h1 fun itv s2 h2 => ?_
      obtain ⟨it,fp,tn,J,H2,rfl,I2,Tn,t0,f2,α1,F1,R1,e1,wk⟩:=h2
      refine comp_core0 (G:=fun r => GS X.K EX Z α F N ((r.bind fun xs μ2 => .ok (.ref μ2.length) (μ2 ++ [.lst xs])).bind fun d μ1 => .ok (.nx (ρ.set i (some d))) μ1)) cs cp hcalm hb I2 Tn t0 f2 (R.to R1 e1) wk.z hds gd (fun z => z) fun D' C H' s' α' F' xs vs μ' mm I' fC hn R' hZ e' r' gg => ?_
      have hHD:H' D' = some (.lst vs):=R'.zs _ _ up_same
      have R2:=R'.unholdC (o':=.lst vs) (c:=.lst xs) hZ ⟨R'.zf _ _ up_same,vs,upd_same,r'.mono (ext_snoc _ _ _)⟩
      rw [upd_id hHD] at R2
      have rp:Rep X.K F' (α' ++ [D']) (.ref μ'.length) (.ref D'):=by
        unfold Rep
        exact ⟨D',by rw [← R'.len,List.getElem?_append_right (Nat.le_refl _)]; simp,rfl⟩
      have e2:=(e1.trans e').trans (ext_snoc α' F' D')
      show wpAny _ X.A (assign (.Name x pos') X.env (.ref D')) _ _ _
      refine wpAny_assign_Name (store_ok2 (v:=.ref D') I' hN hi' hx rfl (fun s'' I'' hsb => ?_) hf)
      obtain ⟨a,hsb,ha⟩:=hsb
      have hCa:C ≠ a:=by
        rcases ha with rfl | ha
        · exact fC.2.1
        · exact fun z => fC.2.2.2.2.1 x a ha z.symm
      refine ⟨mm,hn.sameBut hsb hCa,fun h' hs' => ⟨_,H',inv_but I'' fC hs',?_⟩⟩
      exact gg _ _ F' H' ((R.to R2 e2).set i rp) e2
    · rw [if_neg hds] at gd; exact gd.elim
end
end M
set_option Elab.async false
set_option linter.all false
set_option maxRecDepth 100000
set_option maxHeartbeats 4000000
local macro_rules | `(tactic| walk_at "bs") => `(tactic| (rename_i us hl; first | (have e := M.len_0 hl; subst e; rfl) | (obtain ⟨_, e⟩ := M.len_1 hl; subst e; rfl) | (obtain ⟨_, _, e⟩ := M.len_2 hl; subst e; rfl) | (obtain ⟨_, _, _, e⟩ := M.len_3 hl; subst e; rfl) | (obtain ⟨_, _, _, _, e⟩ := M.len_4 hl; subst e; rfl) | (obtain ⟨_, _, _, _, _, e⟩ := M.len_5 hl; subst e; rfl)))
local macro_rules | `(tactic| walk_at "dm") => `(tactic| (refine' M.dfact ?a ?l ?c ?k; (case a => k_is); (case l => k_is); (case c => k_is); (case k => k_is)))
namespace K40
open PySem PySem.Spec PyProof.Rows L2 M
noncomputable def top (i:Nat):Stmt:=PySem.Challenge.pw_netsieve_k40_lines.main.body.getD i (.Pass ⟨0,0,0,0⟩)
noncomputable abbrev s_cell:Stmt:=top 33
noncomputable abbrev s_mix:Stmt:=top 34
noncomputable abbrev s_k:Stmt:=top 37
noncomputable abbrev s_op:Stmt:=top 38
noncomputable abbrev s_step:Stmt:=top 39
noncomputable abbrev s_p_line_of:Stmt:=top 28
noncomputable abbrev s_p_written:Stmt:=top 27
noncomputable abbrev s_p_is_whole:Stmt:=top 11
noncomputable abbrev s_p_is_number:Stmt:=top 12
noncomputable abbrev s_p_number_of:Stmt:=top 25
noncomputable abbrev s_p_part_of:Stmt:=top 31
noncomputable abbrev s_p_is_part:Stmt:=top 21
noncomputable abbrev s_p_can_be_done_by:Stmt:=top 22
noncomputable abbrev s_p_is_step:Stmt:=top 20
noncomputable abbrev s_p_step_of:Stmt:=top 30
noncomputable abbrev s_p_read_code:Stmt:=top 29
noncomputable abbrev s_read:Stmt:=top 42
noncomputable abbrev s_law:Stmt:=top 43
noncomputable abbrev si_BadLine:Stmt:=(clsBody (top 4)).getD 0 (.Pass ⟨0,0,0,0⟩)
noncomputable def xc:XCs:=fun k => match k with
  | 0 => ("BadLine",some "line")
  | _ => ("",none)
noncomputable def w_load:List Nat:=[108,111,97,100]
theorem w_load_eq:(Str.ofString "load") = ⟨w_load.toArray⟩:=by decide +kernel
noncomputable def w_at:List Nat:=[97,116]
theorem w_at_eq:(Str.ofString "at") = ⟨w_at.toArray⟩:=by decide +kernel
noncomputable def w_x:List Nat:=[120]
theorem w_x_eq:(Str.ofString "x") = ⟨w_x.toArray⟩:=by decide +kernel
noncomputable def w_len:List Nat:=[108,101,110]
theorem w_len_eq:(Str.ofString "len") = ⟨w_len.toArray⟩:=by decide +kernel
noncomputable def w_tax:List Nat:=[116,97,120]
theorem w_tax_eq:(Str.ofString "tax") = ⟨w_tax.toArray⟩:=by decide +kernel
noncomputable def w_txa:List Nat:=[116,120,97]
theorem w_txa_eq:(Str.ofString "txa") = ⟨w_txa.toArray⟩:=by decide +kernel
noncomputable def w_tella:List Nat:=[116,101,108,108,97]
theorem w_tella_eq:(Str.ofString "tella") = ⟨w_tella.toArray⟩:=by decide +kernel
noncomputable def w_set:List Nat:=[115,101,116]
theorem w_set_eq:(Str.ofString "set") = ⟨w_set.toArray⟩:=by decide +kernel
noncomputable def w_setx:List Nat:=[115,101,116,120]
theorem w_setx_eq:(Str.ofString "setx") = ⟨w_setx.toArray⟩:=by decide +kernel
noncomputable def w_keep:List Nat:=[107,101,101,112]
theorem w_keep_eq:(Str.ofString "keep") = ⟨w_keep.toArray⟩:=by decide +kernel
noncomputable def w_fetch:List Nat:=[102,101,116,99,104]
theorem w_fetch_eq:(Str.ofString "fetch") = ⟨w_fetch.toArray⟩:=by decide +kernel
noncomputable def w_plus:List Nat:=[112,108,117,115]
theorem w_plus_eq:(Str.ofString "plus") = ⟨w_plus.toArray⟩:=by decide +kernel
noncomputable def w_minus:List Nat:=[109,105,110,117,115]
theorem w_minus_eq:(Str.ofString "minus") = ⟨w_minus.toArray⟩:=by decide +kernel
noncomputable def w_times:List Nat:=[116,105,109,101,115]
theorem w_times_eq:(Str.ofString "times") = ⟨w_times.toArray⟩:=by decide +kernel
noncomputable def w_over:List Nat:=[111,118,101,114]
theorem w_over_eq:(Str.ofString "over") = ⟨w_over.toArray⟩:=by decide +kernel
noncomputable def w_rest:List Nat:=[114,101,115,116]
theorem w_rest_eq:(Str.ofString "rest") = ⟨w_rest.toArray⟩:=by decide +kernel
noncomputable def w_and:List Nat:=[97,110,100]
theorem w_and_eq:(Str.ofString "and") = ⟨w_and.toArray⟩:=by decide +kernel
noncomputable def w_or:List Nat:=[111,114]
theorem w_or_eq:(Str.ofString "or") = ⟨w_or.toArray⟩:=by decide +kernel
noncomputable def w_xor:List Nat:=[120,111,114]
theorem w_xor_eq:(Str.ofString "xor") = ⟨w_xor.toArray⟩:=by decide +kernel
noncomputable def w_left:List Nat:=[108,101,102,116]
theorem w_left_eq:(Str.ofString "left") = ⟨w_left.toArray⟩:=by decide +kernel
noncomputable def w_right:List Nat:=[114,105,103,104,116]
theorem w_right_eq:(Str.ofString "right") = ⟨w_right.toArray⟩:=by decide +kernel
noncomputable def w_do:List Nat:=[100,111]
theorem w_do_eq:(Str.ofString "do") = ⟨w_do.toArray⟩:=by decide +kernel
noncomputable def w_dox:List Nat:=[100,111,120]
theorem w_dox_eq:(Str.ofString "dox") = ⟨w_dox.toArray⟩:=by decide +kernel
noncomputable def w_jump:List Nat:=[106,117,109,112]
theorem w_jump_eq:(Str.ofString "jump") = ⟨w_jump.toArray⟩:=by decide +kernel
noncomputable def w_equal:List Nat:=[101,113,117,97,108]
theorem w_equal_eq:(Str.ofString "equal") = ⟨w_equal.toArray⟩:=by decide +kernel
noncomputable def w_above:List Nat:=[97,98,111,118,101]
theorem w_above_eq:(Str.ofString "above") = ⟨w_above.toArray⟩:=by decide +kernel
noncomputable def w_least:List Nat:=[108,101,97,115,116]
theorem w_least_eq:(Str.ofString "least") = ⟨w_least.toArray⟩:=by decide +kernel
noncomputable def w_any:List Nat:=[97,110,121]
theorem w_any_eq:(Str.ofString "any") = ⟨w_any.toArray⟩:=by decide +kernel
noncomputable def w_if:List Nat:=[105,102]
theorem w_if_eq:(Str.ofString "if") = ⟨w_if.toArray⟩:=by decide +kernel
noncomputable def w_ifx:List Nat:=[105,102,120]
theorem w_ifx_eq:(Str.ofString "ifx") = ⟨w_ifx.toArray⟩:=by decide +kernel
noncomputable def w_tell:List Nat:=[116,101,108,108]
theorem w_tell_eq:(Str.ofString "tell") = ⟨w_tell.toArray⟩:=by decide +kernel
noncomputable def w31:List Nat:=[32]
theorem w31_eq:(Str.ofString " ") = ⟨w31.toArray⟩:=by decide +kernel
noncomputable def w32:List Nat:=[]
theorem w32_eq:(Str.ofString "") = ⟨w32.toArray⟩:=by decide +kernel
noncomputable def w33:List Nat:=[10]
theorem w33_eq:(Str.ofString "\n") = ⟨w33.toArray⟩:=by decide +kernel
noncomputable def w_0:List Nat:=[48]
theorem w_0_eq:(Str.ofString "0") = ⟨w_0.toArray⟩:=by decide +kernel
noncomputable def w_size:List Nat:=[115,105,122,101]
theorem w_size_eq:(Str.ofString "size") = ⟨w_size.toArray⟩:=by decide +kernel
noncomputable def w_base:List Nat:=[98,97,115,101]
theorem w_base_eq:(Str.ofString "base") = ⟨w_base.toArray⟩:=by decide +kernel
noncomputable def w_number:List Nat:=[110,117,109,98,101,114]
theorem w_number_eq:(Str.ofString "number") = ⟨w_number.toArray⟩:=by decide +kernel
noncomputable def w_slot:List Nat:=[115,108,111,116]
theorem w_slot_eq:(Str.ofString "slot") = ⟨w_slot.toArray⟩:=by decide +kernel
noncomputable def w_op:List Nat:=[111,112]
theorem w_op_eq:(Str.ofString "op") = ⟨w_op.toArray⟩:=by decide +kernel
noncomputable def w_distance:List Nat:=[100,105,115,116,97,110,99,101]
theorem w_distance_eq:(Str.ofString "distance") = ⟨w_distance.toArray⟩:=by decide +kernel
noncomputable def w_test:List Nat:=[116,101,115,116]
noncomputable def w_01:List Nat:=[48,49]
theorem w_01_eq:(Str.ofString "01") = ⟨w_01.toArray⟩:=by decide +kernel
noncomputable def w_4294967296:List Nat:=[52,50,57,52,57,54,55,50,57,54]
theorem w_4294967296_eq:(Str.ofString "4294967296") = ⟨w_4294967296.toArray⟩:=by decide +kernel
noncomputable def w44:List Nat:=[45,49]
theorem w44_eq:(Str.ofString "-1") = ⟨w44.toArray⟩:=by decide +kernel
noncomputable def w_2001:List Nat:=[50,48,48,49]
theorem w_2001_eq:(Str.ofString "2001") = ⟨w_2001.toArray⟩:=by decide +kernel
noncomputable def c_MOST_FIGURES:D:=(.int 10)
noncomputable def c_ROUND:D:=(.int 4294967296)
noncomputable def ks_PARTS:List DK:=[.inr w_load,.inr w_len,.inr w_set,.inr w_setx,.inr w_tax,.inr w_txa,.inr w_keep,.inr w_fetch,.inr w_do,.inr w_dox,.inr w_jump,.inr w_if,.inr w_ifx,.inr w_tell,.inr w_tella]
noncomputable def ds_PARTS:List D:=[(.tup [(.str w_size),(.str w_base),(.str w_number)]),(.tup []),(.tup [(.str w_number)]),(.tup [(.str w_number)]),(.tup []),(.tup []),(.tup [(.str w_slot)]),(.tup [(.str w_slot)]),(.tup [(.str w_op),(.str w_number)]),(.tup [(.str w_op)]),(.tup [(.str w_distance)]),(.tup [(.str w_test),(.str w_number),(.str w_distance),(.str w_distance)]),(.tup [(.str w_test),(.str w_distance),(.str w_distance)]),(.tup [(.str w_number)]),(.tup [])]
noncomputable def c_SIZES:D:=(.tup [(.int 1),(.int 2),(.int 4)])
noncomputable def c_SLOTS:D:=(.int 8)
noncomputable def c_FARTHEST:D:=(.int 2000)
noncomputable def c_BASES:D:=(.tup [(.str w_at),(.str w_x)])
noncomputable def c_OPS:D:=(.tup [(.str w_plus),(.str w_minus),(.str w_times),(.str w_over),(.str w_rest),(.str w_and),(.str w_or),(.str w_xor),(.str w_left),(.str w_right)])
noncomputable def c_TESTS:D:=(.tup [(.str w_equal),(.str w_above),(.str w_least),(.str w_any)])
noncomputable def c_DIVIDING:D:=(.tup [(.str w_over),(.str w_rest)])
noncomputable def c_SHIFTING:D:=(.tup [(.str w_left),(.str w_right)])
noncomputable def c_WIDTH:D:=(.int 32)
noncomputable def b_cell:MSt:=(mSeq (mIte (mTru (mVar 0))
    (mRet (mBin gIdx (mVar 0) (mBin gMod (mVar 1) (mCallB gLen (mCons (mVar 0) mNil)))))
    mSkip)
    (mRet (mC (.int 0))))
noncomputable def f_cell:Fn:=fnOf 0 b_cell
noncomputable def b_mix:MSt:=(mSeq (mSet 2 (mBin gMod (mBin gAdd (mCall f_cell (mCons (mVar 0) (mCons (mVar 1) mNil))) (mBin gMul (mC (.int 104729)) (mBin gAdd (mVar 1) (mC (.int 1))))) (mC (.int 4294967291))))
    (mSeq (mSet 2 (mBin gMod (mBin gMul (mVar 2) (mC (.int 48271))) (mC (.int 4294967279))))
    (mRet (mBin gMod (mBin gAdd (mBin gMul (mBin gDiv (mVar 2) (mC (.int 64))) (mC (.int 69621))) (mVar 2)) (mC (.int 4294967231))))))
noncomputable def f_mix:Fn:=fnOf 1 b_mix
noncomputable def b_k:MSt:=(mSeq (mSet 1 (mLst (mCons (mC (.int 0)) (mCons (mC (.int 1)) (mCons (mC (.int 2)) (mCons (mC (.int 7)) (mCons (mC (.int 31)) (mCons (mC (.int 32)) (mCons (mC (.int 255)) (mCons (mC (.int 256)) (mCons (mC (.int 65535)) (mCons (mC (.int 2147483648)) (mCons (mC (.int 4294967295)) (mCons (mC (.int 12)) mNil))))))))))))))
    (mRet (mIf (mTest (mBin gGt (mBin gMod (mVar 0) (mC (.int 4))) (mC (.int 0)))) (mBin gIdx (mVar 1) (mBin gMod (mBin gDiv (mVar 0) (mC (.int 4))) (mC (.int 12)))) (mBin gMod (mBin gDiv (mVar 0) (mC (.int 4))) (mC (.int 4294967296))))))
noncomputable def f_k:Fn:=fnOf 1 b_k
noncomputable def b_op:MSt:=(mRet (mBin gIdx (mLst (mCons (mC (.str w_plus)) (mCons (mC (.str w_minus)) (mCons (mC (.str w_times)) (mCons (mC (.str w_over)) (mCons (mC (.str w_rest)) (mCons (mC (.str w_and)) (mCons (mC (.str w_or)) (mCons (mC (.str w_xor)) (mCons (mC (.str w_left)) (mCons (mC (.str w_right)) mNil))))))))))) (mBin gMod (mVar 0) (mC (.int 10)))))
noncomputable def f_op:Fn:=fnOf 0 b_op
noncomputable def b_step:MSt:=(mSeq (mSet 3 (mCall f_mix (mCons (mVar 0) (mCons (mVar 1) mNil))))
    (mSeq (mSet 4 (mCall f_k (mCons (mCall f_mix (mCons (mVar 0) (mCons (mBin gAdd (mVar 1) (mC (.int 1))) mNil))) mNil)))
    (mSeq (mSet 5 (mBin gMod (mVar 3) (mC (.int 18))))
    (mSeq (mSet 6 (mBin gIdx (mLst (mCons (mC (.int 0)) (mCons (mC (.int 1)) (mCons (mC (.int 2)) (mCons (mC (.int 5)) (mCons (mC (.int 13)) (mCons (mC (.int 19)) mNil))))))) (mBin gMod (mBin gDiv (mVar 3) (mC (.int 18))) (mC (.int 6)))))
    (mSeq (mSet 7 (mBin gMod (mCall f_mix (mCons (mVar 0) (mCons (mBin gAdd (mVar 1) (mC (.int 2))) mNil))) (mCallB gMax (mCons (mC (.int 1)) (mCons (mVar 2) mNil)))))
    (mSeq (mSet 8 (mBin gMod (mCall f_mix (mCons (mVar 0) (mCons (mBin gAdd (mVar 1) (mC (.int 3))) mNil))) (mCallB gMax (mCons (mC (.int 1)) (mCons (mVar 2) mNil)))))
    (mSeq (mIte (mTest (mBin gLt (mVar 5) (mC (.int 3))))
    (mRet (mTup (mCons (mC (.str w_load)) (mCons (mBin gIdx (mLst (mCons (mC (.int 1)) (mCons (mC (.int 2)) (mCons (mC (.int 4)) mNil)))) (mBin gMod (mBin gDiv (mVar 3) (mC (.int 18))) (mC (.int 3)))) (mCons (mBin gIdx (mLst (mCons (mC (.str w_at)) (mCons (mC (.str w_x)) mNil))) (mBin gMod (mBin gDiv (mVar 3) (mC (.int 54))) (mC (.int 2)))) (mCons (mIf (mTru (mBin gMod (mBin gDiv (mVar 3) (mC (.int 108))) (mC (.int 5)))) (mVar 6) (mVar 4)) mNil))))))
    mSkip)
    (mSeq (mIte (mTest (mBin gLt (mVar 5) (mC (.int 5))))
    (mRet (mBin gIdx (mLst (mCons (mTup (mCons (mC (.str w_len)) mNil)) (mCons (mTup (mCons (mC (.str w_tax)) mNil)) (mCons (mTup (mCons (mC (.str w_txa)) mNil)) (mCons (mTup (mCons (mC (.str w_tella)) mNil)) mNil))))) (mBin gMod (mBin gDiv (mVar 3) (mC (.int 18))) (mC (.int 4)))))
    mSkip)
    (mSeq (mIte (mTest (mBin gLt (mVar 5) (mC (.int 7))))
    (mRet (mTup (mCons (mBin gIdx (mLst (mCons (mC (.str w_set)) (mCons (mC (.str w_setx)) mNil))) (mBin gSub (mVar 5) (mC (.int 5)))) (mCons (mVar 4) mNil))))
    mSkip)
    (mSeq (mIte (mTest (mBin gLt (mVar 5) (mC (.int 9))))
    (mRet (mTup (mCons (mBin gIdx (mLst (mCons (mC (.str w_keep)) (mCons (mC (.str w_fetch)) mNil))) (mBin gSub (mVar 5) (mC (.int 7)))) (mCons (mBin gMod (mBin gDiv (mVar 3) (mC (.int 18))) (mC (.int 3))) mNil))))
    mSkip)
    (mSeq (mIte (mTest (mBin gLt (mVar 5) (mC (.int 11))))
    (mSeq (mSet 9 (mCall f_op (mCons (mBin gDiv (mVar 3) (mC (.int 18))) mNil)))
    (mSeq (mIte (mTest (mBin gIn (mVar 9) (mTup (mCons (mC (.str w_over)) (mCons (mC (.str w_rest)) (mCons (mC (.str w_left)) (mCons (mC (.str w_right)) mNil)))))))
    (mSet 4 (mBin gAdd (mC (.int 1)) (mBin gMod (mVar 4) (mC (.int 31)))))
    mSkip)
    (mRet (mTup (mCons (mC (.str w_do)) (mCons (mVar 9) (mCons (mVar 4) mNil)))))))
    mSkip)
    (mSeq (mIte (mTest (mBin gEq (mVar 5) (mC (.int 11))))
    (mRet (mTup (mCons (mC (.str w_dox)) (mCons (mCall f_op (mCons (mBin gDiv (mVar 3) (mC (.int 18))) mNil)) mNil))))
    mSkip)
    (mSeq (mIte (mTest (mBin gEq (mVar 5) (mC (.int 12))))
    (mRet (mTup (mCons (mC (.str w_jump)) (mCons (mVar 7) mNil))))
    mSkip)
    (mSeq (mSet 10 (mBin gIdx (mLst (mCons (mC (.str w_equal)) (mCons (mC (.str w_above)) (mCons (mC (.str w_least)) (mCons (mC (.str w_any)) mNil))))) (mBin gMod (mBin gDiv (mVar 3) (mC (.int 18))) (mC (.int 4)))))
    (mSeq (mIte (mTest (mBin gLt (mVar 5) (mC (.int 15))))
    (mRet (mTup (mCons (mC (.str w_if)) (mCons (mVar 10) (mCons (mIf (mTru (mBin gMod (mBin gDiv (mVar 3) (mC (.int 72))) (mC (.int 2)))) (mVar 4) (mVar 6)) (mCons (mVar 7) (mCons (mVar 8) mNil)))))))
    mSkip)
    (mSeq (mIte (mTest (mBin gEq (mVar 5) (mC (.int 15))))
    (mRet (mTup (mCons (mC (.str w_ifx)) (mCons (mVar 10) (mCons (mVar 7) (mCons (mVar 8) mNil))))))
    mSkip)
    (mRet (mIf (mTest (mBin gEq (mVar 5) (mC (.int 16)))) (mTup (mCons (mC (.str w_tell)) (mCons (mVar 4) mNil))) (mTup (mCons (mC (.str w_keep)) (mCons (mBin gMod (mBin gDiv (mVar 3) (mC (.int 18))) (mC (.int 3))) mNil)))))))))))))))))))))
noncomputable def f_step:Fn:=fnOf 8 b_step
noncomputable def b_p_line_of:MSt:=(mRet (mBin gAdd (mMth gJoin (mC (.str w31)) (mCons (mComp 1 [] (gN 0) (mOverT (mVar 0)) mTT (mCallB gStrC (mCons (mVar 0) mNil))) mNil)) (mC (.str w33))))
noncomputable def f_p_line_of:Fn:=fnOf 0 b_p_line_of
noncomputable def b_p_written:MSt:=(mRet (mMth gJoin (mC (.str w32)) (mCons (mComp 1 [] (gN 0) (mOverL (mVar 0)) mTT (mCall f_p_line_of (mCons (mVar 0) mNil))) mNil)))
noncomputable def f_p_written:Fn:=fnOf 0 b_p_written
noncomputable def b_p_is_whole:MSt:=(mRet (mAndV (mIsI .int (mVar 0)) (mNotV (mIsI .bool (mVar 0)))))
noncomputable def f_p_is_whole:Fn:=fnOf 0 b_p_is_whole
noncomputable def b_p_is_number:MSt:=(mRet (mAndV (mCall f_p_is_whole (mCons (mVar 0) mNil)) (mChain gLe gLt (mC (.int 0)) (mVar 0) (mC c_ROUND))))
noncomputable def f_p_is_number:Fn:=fnOf 0 b_p_is_number
noncomputable def b_p_number_of:MSt:=(mSeq (mIte (mTest (mBin gGt (mCallB gLen (mCons (mVar 0) mNil)) (mC c_MOST_FIGURES)))
    (mRet (mC .non))
    mSkip)
    (mSeq (mSet 1 (mCallB gIntT (mCons (mVar 0) mNil)))
    (mRet (mIf (mTru (mCall f_p_is_number (mCons (mVar 1) mNil))) (mVar 1) (mC .non)))))
noncomputable def f_p_number_of:Fn:=fnOf 1 b_p_number_of
noncomputable def b_p_part_of:MSt:=(mSeq (mIte (mNot (mTru (mMth0 gIsdigit (mVar 0))))
    (mRet (mVar 0))
    mSkip)
    (mSeq (mIte (mAnd (mTest (mBin gEq (mBin gIdx (mVar 0) (mC (.int 0))) (mC (.str w_0)))) (mTest (mBin gNe (mVar 0) (mC (.str w_0)))))
    (mRet (mC .non))
    mSkip)
    (mRet (mCall f_p_number_of (mCons (mVar 0) mNil)))))
noncomputable def f_p_part_of:Fn:=fnOf 0 b_p_part_of
noncomputable def b_p_is_part:MSt:=(mSeq (mIte (mTest (mBin gEq (mVar 0) (mC (.str w_number))))
    (mRet (mCall f_p_is_number (mCons (mVar 1) mNil)))
    mSkip)
    (mSeq (mIte (mTest (mBin gEq (mVar 0) (mC (.str w_size))))
    (mRet (mAndV (mCall f_p_is_whole (mCons (mVar 1) mNil)) (mBin gIn (mVar 1) (mC c_SIZES))))
    mSkip)
    (mSeq (mIte (mTest (mBin gEq (mVar 0) (mC (.str w_slot))))
    (mRet (mAndV (mCall f_p_is_whole (mCons (mVar 1) mNil)) (mChain gLe gLt (mC (.int 0)) (mVar 1) (mC c_SLOTS))))
    mSkip)
    (mSeq (mIte (mTest (mBin gEq (mVar 0) (mC (.str w_distance))))
    (mRet (mAndV (mCall f_p_is_whole (mCons (mVar 1) mNil)) (mChain gLe gLe (mC (.int 0)) (mVar 1) (mC c_FARTHEST))))
    mSkip)
    (mSeq (mIte (mTest (mBin gEq (mVar 0) (mC (.str w_base))))
    (mRet (mBin gIn (mVar 1) (mC c_BASES)))
    mSkip)
    (mSeq (mIte (mTest (mBin gEq (mVar 0) (mC (.str w_op))))
    (mRet (mBin gIn (mVar 1) (mC c_OPS)))
    mSkip)
    (mRet (mBin gIn (mVar 1) (mC c_TESTS)))))))))
noncomputable def f_p_is_part:Fn:=fnOf 0 b_p_is_part
noncomputable def b_p_can_be_done_by:MSt:=(mSeq (mIte (mTest (mBin gIn (mVar 0) (mC c_DIVIDING)))
    (mRet (mBin gNe (mVar 1) (mC (.int 0))))
    mSkip)
    (mSeq (mIte (mTest (mBin gIn (mVar 0) (mC c_SHIFTING)))
    (mRet (mBin gLt (mVar 1) (mC c_WIDTH)))
    mSkip)
    (mRet (mC (.bl true)))))
noncomputable def f_p_can_be_done_by:Fn:=fnOf 0 b_p_can_be_done_by
noncomputable def b_p_is_step:MSt:=(mSeq (mIte (mOr (mNot (mTru (mIsI .tuple (mVar 0)))) (mTest (mBin gEq (mCallB gLen (mCons (mVar 0) mNil)) (mC (.int 0)))))
    (mRet (mC (.bl false)))
    mSkip)
    (mSeq (mIte (mOr (mNot (mTru (mIsI .str (mBin gIdx (mVar 0) (mC (.int 0)))))) (mTest (mBin (gDIn true) (mBin gIdx (mVar 0) (mC (.int 0))) (mC (.dic ks_PARTS ds_PARTS)))))
    (mRet (mC (.bl false)))
    mSkip)
    (mSeq (mSet 1 (mBin gDGet (mC (.dic ks_PARTS ds_PARTS)) (mBin gIdx (mVar 0) (mC (.int 0)))))
    (mSeq (mIte (mTest (mBin gNe (mCallB gLen (mCons (mVar 0) mNil)) (mBin gAdd (mC (.int 1)) (mCallB gLen (mCons (mVar 1) mNil)))))
    (mRet (mC (.bl false)))
    mSkip)
    (mSeq (mIte (mNot (mTru (mCallB gAll (mCons (mComp 2 [] (gTupT (gsCons (gN 0) (gsCons (gN 1) gsNil))) (mZip true true (mVar 1) (mSl (mVar 0) (mPart (mC (.int 1))) mNoP)) mTT (mCall f_p_is_part (mCons (mVar 0) (mCons (mVar 1) mNil)))) mNil))))
    (mRet (mC (.bl false)))
    mSkip)
    (mRet (mOrV (mBin gNe (mBin gIdx (mVar 0) (mC (.int 0))) (mC (.str w_do))) (mCall f_p_can_be_done_by (mCons (mBin gIdx (mVar 0) (mC (.int 1))) (mCons (mBin gIdx (mVar 0) (mC (.int 2))) mNil))))))))))
noncomputable def f_p_is_step:Fn:=fnOf 1 b_p_is_step
noncomputable def b_p_step_of:MSt:=(mSeq (mSet 1 (mCallB gTupC (mCons (mComp 1 [] (gN 0) (mOverL (mMth gSplit (mVar 0) (mCons (mC (.str w31)) mNil))) mTT (mCall f_p_part_of (mCons (mVar 0) mNil))) mNil)))
    (mRet (mIf (mTru (mCall f_p_is_step (mCons (mVar 1) mNil))) (mVar 1) (mC .non))))
noncomputable def f_p_step_of:Fn:=fnOf 1 b_p_step_of
noncomputable def b_p_read_code:MSt:=(mSeq (mSet 1 (mMth gSplit (mVar 0) (mCons (mC (.str w33)) mNil)))
    (mSeq (mSet 2 (mComp 1 [] (gN 0) (mOverL (mSl (mVar 1) mNoP (mPart (mNeg (mC (.int 1)))))) mTT (mCall f_p_step_of (mCons (mVar 0) mNil))))
    (mSeq (mIte (mTest (mBin gIn (mC .non) (mVar 2)))
    (mRaise 0 (mBin gAdd (mIndex (mVar 2) (mC .non)) (mC (.int 1))))
    mSkip)
    (mSeq (mIte (mTest (mBin gNe (mBin gIdx (mVar 1) (mNeg (mC (.int 1)))) (mC (.str w32))))
    (mRaise 0 (mCallB gLen (mCons (mVar 1) mNil)))
    mSkip)
    (mRet (mVar 2))))))
noncomputable def f_p_read_code:Fn:=fnOf 2 b_p_read_code
noncomputable def t_read_1:MSt:=(mSeq (mSet 2 (mIf (mAnd (mTru (mIsX (fun c => ([("BadLine",true)]:List (Str × Bool)).lookup c) (mVar 3))) (mTru (mIsX (fun c => ([("BadLine",true)]:List (Str × Bool)).lookup c) (mVar 3)))) (mXat (fun c => (["BadLine"]:List Str).contains c) "line" (mVar 3)) (mNeg (mC (.int 1)))))
    (mIte (mTru (mIsX (fun c => ([("BadLine",false)]:List (Str × Bool)).lookup c) (mVar 3)))
    (mSet 2 (mNeg (mC (.int 1))))
    mSkip))
noncomputable def b_read:MSt:=(mSeq (mSet 1 (mC .non))
    (mSeq (mSet 2 (mC (.int 0)))
    (mSeq (mTryK 1 3 (fun k => k == 0) xc (mCallX f_p_read_code (mCons (mVar 0) mNil)) t_read_1)
    (mRet (mTup (mCons (mVar 1) (mCons (mVar 2) mNil)))))))
noncomputable def f_read:Fn:=fnOf 3 b_read
noncomputable def b_law:MSt:=(mSeq (mSet 1 (mComp 1 [0] (gN 0) (mRange1 (mBin gMod (mCall f_mix (mCons (mVar 0) (mCons (mC (.int 60)) mNil))) (mC (.int 11)))) mTT (mCall f_step (mCons (mVar 1) (mCons (mBin gMul (mC (.int 4)) (mVar 0)) (mCons (mC (.int 2000)) mNil))))))
    (mSeq (mSet 2 (mCompC 1 [] (gN 0) (mOverL (mVar 1)) mTT (mMth gJoin (mC (.str w31)) (mCons (mComp 1 [] (gN 0) (mOverT (mVar 0)) mTT (mCallB gStrC (mCons (mVar 0) mNil))) mNil))))
    (mSeq (mSet 3 (mCall f_p_written (mCons (mCallB gListC (mCons (mVar 1) mNil)) mNil)))
    (mSeq (mIte (mOr (mNot (mTru (mIsI .str (mVar 3)))) (mTest (mBin gNe (mVar 3) (mMth gJoin (mC (.str w32)) (mCons (mCompW 1 [] (gN 0) (mVar 2) mTT (mBin gAdd (mVar 0) (mC (.str w33)))) mNil)))))
    (mRet (mC (.bl false)))
    mSkip)
    (mSeq (mIte (mTest (mBin gNe (mCall f_read (mCons (mVar 3) mNil)) (mTup (mCons (mVar 1) (mCons (mC (.int 0)) mNil)))))
    (mRet (mC (.bl false)))
    mSkip)
    (mSeq (mIte (mNot (mTru (mVar 2)))
    (mRet (mBin gEq (mCall f_read (mCons (mC (.str w_x)) mNil)) (mTup (mCons (mC .non) (mCons (mC (.int 1)) mNil)))))
    mSkip)
    (mSeq (mSet 4 (mBin gMod (mCall f_mix (mCons (mVar 0) (mCons (mC (.int 61)) mNil))) (mCallB gLen (mCons (mVar 2) mNil))))
    (mSeq (mSet 5 (mMth gSplit (mBin gIdx (mVar 2) (mVar 4)) (mCons (mC (.str w31)) mNil)))
    (mSeq (mSet 6 (mBin gMod (mCall f_mix (mCons (mVar 0) (mCons (mC (.int 62)) mNil))) (mCallB gLen (mCons (mVar 5) mNil))))
    (mSeq (mSet 7 (mBin gIdx (mLst (mCons (mC (.str w32)) (mCons (mC (.str w_0)) (mCons (mC (.str w_01)) (mCons (mC (.str w_x)) (mCons (mC (.str w_len)) (mCons (mC (.str w_4294967296)) (mCons (mC (.str w44)) (mCons (mC (.str w_jump)) (mCons (mC (.str w_keep)) (mCons (mC (.str w_2001)) mNil))))))))))) (mBin gMod (mCall f_mix (mCons (mVar 0) (mCons (mC (.int 59)) mNil))) (mC (.int 10)))))
    (mSeq (mSet 8 (mLst (mCons (mBin gAdd (mBin gAdd (mSl (mVar 5) mNoP (mPart (mVar 6))) (mLst (mCons (mVar 7) mNil))) (mSl (mVar 5) (mPart (mBin gAdd (mVar 6) (mC (.int 1)))) mNoP)) (mCons (mBin gAdd (mVar 5) (mLst (mCons (mVar 7) mNil))) (mCons (mSl (mVar 5) mNoP (mPart (mVar 6))) (mCons (mBin gAdd (mSl (mVar 5) mNoP (mPart (mVar 6))) (mLst (mCons (mBin gAdd (mC (.str w_0)) (mBin gIdx (mVar 5) (mVar 6))) mNil))) mNil))))))
    (mSeq (mSet 5 (mBin gIdx (mVar 8) (mBin gMod (mCall f_mix (mCons (mVar 0) (mCons (mC (.int 58)) mNil))) (mC (.int 4)))))
    (mSeq (mStore (mVar 2) (mVar 4) (mMth gJoin (mC (.str w31)) (mCons (mVar 5) mNil)))
    (mSeq (mSet 9 (mCall f_read (mCons (mMth gJoin (mC (.str w32)) (mCons (mCompW 1 [] (gN 0) (mVar 2) mTT (mBin gAdd (mVar 0) (mC (.str w33)))) mNil)) mNil)))
    (mSeq (mIte (mTest (mIsN (mBin gIdx (mVar 9) (mC (.int 0)))))
    (mRet (mBin gEq (mBin gIdx (mVar 9) (mC (.int 1))) (mBin gAdd (mVar 4) (mC (.int 1)))))
    mSkip)
    (mSeq (mIte (mOr (mNot (mTru (mCallB gAll (mCons (mComp 1 [] (gN 0) (mOverL (mBin gIdx (mVar 9) (mC (.int 0)))) mTT (mCall f_p_is_step (mCons (mVar 0) mNil))) mNil)))) (mTest (mBin gNe (mCall f_p_written (mCons (mBin gIdx (mVar 9) (mC (.int 0))) mNil)) (mMth gJoin (mC (.str w32)) (mCons (mCompW 1 [] (gN 0) (mVar 2) mTT (mBin gAdd (mVar 0) (mC (.str w33)))) mNil)))))
    (mRet (mC (.bl false)))
    mSkip)
    (mRet (mBin gEq (mCall f_read (mCons (mMth gJoin (mC (.str w33)) (mCons (mVar 2) mNil)) mNil)) (mTup (mCons (mC .non) (mCons (mCallB gLen (mCons (mVar 2) mNil)) mNil)))))))))))))))))))))
noncomputable def f_law:Fn:=fnOf 9 b_law
structure Tx (w:World) (K:PySem.W.Frag) (mg:Str → Option Value):Prop where
  n_len:mg "len" = none
  n_range:mg "range" = none
  n_max:mg "max" = none
  n_str:mg "str" = none
  n_list:mg "list" = none
  n_isinstance:mg "isinstance" = none
  n_int:mg "int" = none
  n_bool:mg "bool" = none
  n_tuple:mg "tuple" = none
  n_zip:mg "zip" = none
  n_all:mg "all" = none
  n_ValueError:mg "ValueError" = none
  c_MOST_FIGURES:ConstAt K mg "MOST_FIGURES" c_MOST_FIGURES
  c_ROUND:ConstAt K mg "ROUND" c_ROUND
  c_PARTS:DictAt w K mg "PARTS" ks_PARTS ds_PARTS
  c_SIZES:ConstAt K mg "SIZES" c_SIZES
  c_SLOTS:ConstAt K mg "SLOTS" c_SLOTS
  c_FARTHEST:ConstAt K mg "FARTHEST" c_FARTHEST
  c_BASES:ConstAt K mg "BASES" c_BASES
  c_OPS:ConstAt K mg "OPS" c_OPS
  c_TESTS:ConstAt K mg "TESTS" c_TESTS
  c_DIVIDING:ConstAt K mg "DIVIDING" c_DIVIDING
  c_SHIFTING:ConstAt K mg "SHIFTING" c_SHIFTING
  c_WIDTH:ConstAt K mg "WIDTH" c_WIDTH
  m_SieveError:ClsAt K mg "SieveError"
  m_BadLine:ClsAt K mg "BadLine"
  m_NotLetIn:ClsAt K mg "NotLetIn"
  m_BadFilter:ClsAt K mg "BadFilter"
  x_BadLine:ExAt K mg "BadLine" "line" "BadLine.__init__" "self" "line" si_BadLine
  u_SieveError:XUp K (cA K "SieveError")
  h_SieveError:HndAt K mg "SieveError"
  s_BadLine_SieveError:PySem.W.subIn K (.ref (cA K "BadLine")) (.ref (cA K "SieveError")) = some true
  g_BadLine:XGet K (cA K "BadLine")
  a_BadLine:PySem.W.findIn K (.ref (cA K "BadLine")) "line" = some none
  k_BadLine_BadLine:PySem.W.kitOne K (.ref (cA K "BadLine")) (.ref (cA K "BadLine")) = some true
  k_BadLine_ValueError:PySem.W.kitOne K (.ref (cA K "BadLine")) (.type "ValueError") = some true
  k_BadLine_BadFilter_NotLetIn:PySem.W.kitAny K (.ref (cA K "BadLine")) ([(cA K "BadFilter"),(cA K "NotLetIn")].map .ref) = some false
  d_cell:DefAt K mg "_law_cell" s_cell ["_law_script","_law_k_here"]
  d_mix:DefAt K mg "_law_mix" s_mix ["_law_script","_law_k_here"]
  d_k:DefAt K mg "_law_k" s_k ["_law_number"]
  d_op:DefAt K mg "_law_op" s_op ["_law_number"]
  d_step:DefAt K mg "_law_step" s_step ["_law_script","_law_base","_law_left"]
  d_p_line_of:DefAt K mg "line_of" s_p_line_of ["step"]
  d_p_written:DefAt K mg "written" s_p_written ["code"]
  d_p_is_whole:DefAt K mg "is_whole" s_p_is_whole ["thing"]
  d_p_is_number:DefAt K mg "is_number" s_p_is_number ["thing"]
  d_p_number_of:DefAt K mg "number_of" s_p_number_of ["figures"]
  d_p_part_of:DefAt K mg "part_of" s_p_part_of ["piece"]
  d_p_is_part:DefAt K mg "is_part" s_p_is_part ["kind","part"]
  d_p_can_be_done_by:DefAt K mg "can_be_done_by" s_p_can_be_done_by ["op","k"]
  d_p_is_step:DefAt K mg "is_step" s_p_is_step ["thing"]
  d_p_step_of:DefAt K mg "step_of" s_p_step_of ["line"]
  d_p_read_code:DefAt K mg "read_code" s_p_read_code ["text"]
  d_read:DefAt K mg "_law_read" s_read ["_law_text"]
  d_law:DefAt K mg "law" s_law ["_law_script"]
section
variable {P:Program} {w:World} {K:PySem.W.Frag} {mg:Str → Option Value} {base:Heap}
theorem rs_BadLine (T:Tx w K mg):RsAt P w K mg base "BadLine" "line" 1:=by
  obtain ⟨fi,fd,h1,c,F,hb⟩:=T.x_BadLine
  exact ⟨fi,fd,_,_,h1,c,hb,init_ok F ⟨rfl,rfl,rfl,by decide +kernel,rfl,by decide +kernel,by decide +kernel⟩ c T.u_SieveError T.m_SieveError (by decide +kernel) rfl (by decide +kernel) (.inl (by decide +kernel)) (.inl (by decide +kernel)) (fun _ => ⟨_,rfl⟩) (fun _ => rfl) (fun _ => rfl)⟩
theorem ok_cell (T:Tx w K mg):FnAt P w K mg base "_law_cell" 1 2 f_cell:=fnC T.d_cell ["_law_script","_law_k_here"] ["len"] ⟨rfl,rfl,rfl,by decide +kernel,rfl,by decide +kernel,by decide +kernel⟩ (by decide +kernel) (by decide +kernel) rfl rfl fun _ _ _ _ _ _ _ hr C => (mss_cons (ms_if (mt_truth (sv C 0 rfl) (fun _ => rfl))
    (mss_one (ms_ret (me_idx (sv C 0 rfl) (me_bin om_mod (sv C 1 rfl) (me_callB cm_len (C.g 0 rfl) T.n_len PySem.boot_len (ma_cons (sv C 0 rfl) ma_nil rfl))) (fun _ _ => rfl))))
    mss_nil)
    (mss_one (ms_ret me_int)))
theorem ok_mix (T:Tx w K mg):FnAt P w K mg base "_law_mix" 2 2 f_mix:=fnC T.d_mix ["_law_script","_law_k_here","_law_number"] ["_law_cell"] ⟨rfl,rfl,rfl,by decide +kernel,rfl,by decide +kernel,by decide +kernel⟩ (by decide +kernel) (by decide +kernel) rfl rfl fun _ _ _ _ _ _ _ hr C => (mss_cons (sa C 2 rfl (me_bin om_mod (me_bin om_add (me_fn (ok_cell T) (hr.mono (by decide)) (C.g 0 rfl) (ma_cons (sv C 0 rfl) (ma_cons (sv C 1 rfl) ma_nil rfl) rfl) rfl) (me_bin om_mul me_int (me_bin om_add (sv C 1 rfl) me_int))) me_int))
    (mss_cons (sa C 2 rfl (me_bin om_mod (me_bin om_mul (sv C 2 rfl) me_int) me_int))
    (mss_one (ms_ret (me_bin om_mod (me_bin om_add (me_bin om_mul (me_bin om_div (sv C 2 rfl) me_int) me_int) (sv C 2 rfl)) me_int)))))
theorem ok_k (T:Tx w K mg):FnAt P w K mg base "_law_k" 1 1 f_k:=fnC T.d_k ["_law_number","_law_some"] [] ⟨rfl,rfl,rfl,by decide +kernel,rfl,by decide +kernel,by decide +kernel⟩ (by decide +kernel) (by decide +kernel) rfl rfl fun _ _ _ _ _ _ _ hr C => (mss_cons (sa C 1 rfl (me_lst (ma_cons me_int (ma_cons me_int (ma_cons me_int (ma_cons me_int (ma_cons me_int (ma_cons me_int (ma_cons me_int (ma_cons me_int (ma_cons me_int (ma_cons me_int (ma_cons me_int (ma_cons me_int ma_nil rfl) rfl) rfl) rfl) rfl) rfl) rfl) rfl) rfl) rfl) rfl) rfl)))
    (mss_one (ms_ret (me_if (mt_cmp om_gt (me_bin om_mod (sv C 0 rfl) me_int) me_int (nomark _)) (me_idx (sv C 1 rfl) (me_bin om_mod (me_bin om_div (sv C 0 rfl) me_int) me_int) (fun _ _ => rfl)) (me_bin om_mod (me_bin om_div (sv C 0 rfl) me_int) me_int)))))
theorem ok_op (T:Tx w K mg):FnAt P w K mg base "_law_op" 1 1 f_op:=fnC T.d_op ["_law_number"] [] ⟨rfl,rfl,rfl,by decide +kernel,rfl,by decide +kernel,by decide +kernel⟩ (by decide +kernel) (by decide +kernel) rfl rfl fun _ _ _ _ _ _ _ hr C => (mss_one (ms_ret (me_idx (me_lst (ma_cons (me_str w_plus_eq) (ma_cons (me_str w_minus_eq) (ma_cons (me_str w_times_eq) (ma_cons (me_str w_over_eq) (ma_cons (me_str w_rest_eq) (ma_cons (me_str w_and_eq) (ma_cons (me_str w_or_eq) (ma_cons (me_str w_xor_eq) (ma_cons (me_str w_left_eq) (ma_cons (me_str w_right_eq) ma_nil rfl) rfl) rfl) rfl) rfl) rfl) rfl) rfl) rfl) rfl)) (me_bin om_mod (sv C 0 rfl) me_int) (fun _ _ => rfl))))
theorem ok_step (T:Tx w K mg):FnAt P w K mg base "_law_step" 3 3 f_step:=fnC T.d_step ["_law_script","_law_base","_law_left","_law_number","_law_k_here","_law_way","_law_small","_law_one","_law_other","_law_op_here","_law_test"] ["_law_mix","_law_k","max","_law_op"] ⟨rfl,rfl,rfl,by decide +kernel,rfl,by decide +kernel,by decide +kernel⟩ (by decide +kernel) (by decide +kernel) rfl rfl fun _ _ _ _ _ _ _ hr C => (mss_cons (sa C 3 rfl (me_fn (ok_mix T) (hr.mono (by decide)) (C.g 0 rfl) (ma_cons (sv C 0 rfl) (ma_cons (sv C 1 rfl) ma_nil rfl) rfl) rfl))
    (mss_cons (sa C 4 rfl (me_fn (ok_k T) (hr.mono (by decide)) (C.g 1 rfl) (ma_cons (me_fn (ok_mix T) (hr.mono (by decide)) (C.g 0 rfl) (ma_cons (sv C 0 rfl) (ma_cons (me_bin om_add (sv C 1 rfl) me_int) ma_nil rfl) rfl) rfl) ma_nil rfl) rfl))
    (mss_cons (sa C 5 rfl (me_bin om_mod (sv C 3 rfl) me_int))
    (mss_cons (sa C 6 rfl (me_idx (me_lst (ma_cons me_int (ma_cons me_int (ma_cons me_int (ma_cons me_int (ma_cons me_int (ma_cons me_int ma_nil rfl) rfl) rfl) rfl) rfl) rfl)) (me_bin om_mod (me_bin om_div (sv C 3 rfl) me_int) me_int) (fun _ _ => rfl)))
    (mss_cons (sa C 7 rfl (me_bin om_mod (me_fn (ok_mix T) (hr.mono (by decide)) (C.g 0 rfl) (ma_cons (sv C 0 rfl) (ma_cons (me_bin om_add (sv C 1 rfl) me_int) ma_nil rfl) rfl) rfl) (me_callB (cm_max C.calm) (C.g 2 rfl) T.n_max PyProof.Rows.boot_max (ma_cons me_int (ma_cons (sv C 2 rfl) ma_nil rfl) rfl))))
    (mss_cons (sa C 8 rfl (me_bin om_mod (me_fn (ok_mix T) (hr.mono (by decide)) (C.g 0 rfl) (ma_cons (sv C 0 rfl) (ma_cons (me_bin om_add (sv C 1 rfl) me_int) ma_nil rfl) rfl) rfl) (me_callB (cm_max C.calm) (C.g 2 rfl) T.n_max PyProof.Rows.boot_max (ma_cons me_int (ma_cons (sv C 2 rfl) ma_nil rfl) rfl))))
    (mss_cons (ms_if (mt_cmp om_lt (sv C 5 rfl) me_int (nomark _))
    (mss_one (ms_ret (me_tup (ma_cons (me_str w_load_eq) (ma_cons (me_idx (me_lst (ma_cons me_int (ma_cons me_int (ma_cons me_int ma_nil rfl) rfl) rfl)) (me_bin om_mod (me_bin om_div (sv C 3 rfl) me_int) me_int) (fun _ _ => rfl)) (ma_cons (me_idx (me_lst (ma_cons (me_str w_at_eq) (ma_cons (me_str w_x_eq) ma_nil rfl) rfl)) (me_bin om_mod (me_bin om_div (sv C 3 rfl) me_int) me_int) (fun _ _ => rfl)) (ma_cons (me_if (mt_truth (me_bin om_mod (me_bin om_div (sv C 3 rfl) me_int) me_int) (fun _ => rfl)) (sv C 6 rfl) (sv C 4 rfl)) ma_nil rfl) rfl) rfl) rfl))))
    mss_nil)
    (mss_cons (ms_if (mt_cmp om_lt (sv C 5 rfl) me_int (nomark _))
    (mss_one (ms_ret (me_idx (me_lst (ma_cons (me_tup (ma_cons (me_str w_len_eq) ma_nil rfl)) (ma_cons (me_tup (ma_cons (me_str w_tax_eq) ma_nil rfl)) (ma_cons (me_tup (ma_cons (me_str w_txa_eq) ma_nil rfl)) (ma_cons (me_tup (ma_cons (me_str w_tella_eq) ma_nil rfl)) ma_nil rfl) rfl) rfl) rfl)) (me_bin om_mod (me_bin om_div (sv C 3 rfl) me_int) me_int) (fun _ _ => rfl))))
    mss_nil)
    (mss_cons (ms_if (mt_cmp om_lt (sv C 5 rfl) me_int (nomark _))
    (mss_one (ms_ret (me_tup (ma_cons (me_idx (me_lst (ma_cons (me_str w_set_eq) (ma_cons (me_str w_setx_eq) ma_nil rfl) rfl)) (me_bin om_sub (sv C 5 rfl) me_int) (fun _ _ => rfl)) (ma_cons (sv C 4 rfl) ma_nil rfl) rfl))))
    mss_nil)
    (mss_cons (ms_if (mt_cmp om_lt (sv C 5 rfl) me_int (nomark _))
    (mss_one (ms_ret (me_tup (ma_cons (me_idx (me_lst (ma_cons (me_str w_keep_eq) (ma_cons (me_str w_fetch_eq) ma_nil rfl) rfl)) (me_bin om_sub (sv C 5 rfl) me_int) (fun _ _ => rfl)) (ma_cons (me_bin om_mod (me_bin om_div (sv C 3 rfl) me_int) me_int) ma_nil rfl) rfl))))
    mss_nil)
    (mss_cons (ms_if (mt_cmp om_lt (sv C 5 rfl) me_int (nomark _))
    (mss_cons (sa C 9 rfl (me_fn (ok_op T) (hr.mono (by decide)) (C.g 3 rfl) (ma_cons (me_bin om_div (sv C 3 rfl) me_int) ma_nil rfl) rfl))
    (mss_cons (ms_if (mt_cmp (om_in C.un) (sv C 9 rfl) (me_tup (ma_cons (me_str w_over_eq) (ma_cons (me_str w_rest_eq) (ma_cons (me_str w_left_eq) (ma_cons (me_str w_right_eq) ma_nil rfl) rfl) rfl) rfl)) rfl)
    (mss_one (sa C 4 rfl (me_bin om_add me_int (me_bin om_mod (sv C 4 rfl) me_int))))
    mss_nil)
    (mss_one (ms_ret (me_tup (ma_cons (me_str w_do_eq) (ma_cons (sv C 9 rfl) (ma_cons (sv C 4 rfl) ma_nil rfl) rfl) rfl))))))
    mss_nil)
    (mss_cons (ms_if (mt_cmp (om_eq C.un) (sv C 5 rfl) me_int (nomark _))
    (mss_one (ms_ret (me_tup (ma_cons (me_str w_dox_eq) (ma_cons (me_fn (ok_op T) (hr.mono (by decide)) (C.g 3 rfl) (ma_cons (me_bin om_div (sv C 3 rfl) me_int) ma_nil rfl) rfl) ma_nil rfl) rfl))))
    mss_nil)
    (mss_cons (ms_if (mt_cmp (om_eq C.un) (sv C 5 rfl) me_int (nomark _))
    (mss_one (ms_ret (me_tup (ma_cons (me_str w_jump_eq) (ma_cons (sv C 7 rfl) ma_nil rfl) rfl))))
    mss_nil)
    (mss_cons (sa C 10 rfl (me_idx (me_lst (ma_cons (me_str w_equal_eq) (ma_cons (me_str w_above_eq) (ma_cons (me_str w_least_eq) (ma_cons (me_str w_any_eq) ma_nil rfl) rfl) rfl) rfl)) (me_bin om_mod (me_bin om_div (sv C 3 rfl) me_int) me_int) (fun _ _ => rfl)))
    (mss_cons (ms_if (mt_cmp om_lt (sv C 5 rfl) me_int (nomark _))
    (mss_one (ms_ret (me_tup (ma_cons (me_str w_if_eq) (ma_cons (sv C 10 rfl) (ma_cons (me_if (mt_truth (me_bin om_mod (me_bin om_div (sv C 3 rfl) me_int) me_int) (fun _ => rfl)) (sv C 4 rfl) (sv C 6 rfl)) (ma_cons (sv C 7 rfl) (ma_cons (sv C 8 rfl) ma_nil rfl) rfl) rfl) rfl) rfl))))
    mss_nil)
    (mss_cons (ms_if (mt_cmp (om_eq C.un) (sv C 5 rfl) me_int (nomark _))
    (mss_one (ms_ret (me_tup (ma_cons (me_str w_ifx_eq) (ma_cons (sv C 10 rfl) (ma_cons (sv C 7 rfl) (ma_cons (sv C 8 rfl) ma_nil rfl) rfl) rfl) rfl))))
    mss_nil)
    (mss_one (ms_ret (me_if (mt_cmp (om_eq C.un) (sv C 5 rfl) me_int (nomark _)) (me_tup (ma_cons (me_str w_tell_eq) (ma_cons (sv C 4 rfl) ma_nil rfl) rfl)) (me_tup (ma_cons (me_str w_keep_eq) (ma_cons (me_bin om_mod (me_bin om_div (sv C 3 rfl) me_int) me_int) ma_nil rfl) rfl)))))))))))))))))))))
theorem ok_p_line_of (T:Tx w K mg):FnAt P w K mg base "line_of" 1 1 f_p_line_of:=fnC T.d_p_line_of ["step"] [] ⟨rfl,rfl,rfl,by decide +kernel,rfl,by decide +kernel,by decide +kernel⟩ (by decide +kernel) (by decide +kernel) rfl rfl fun _ _ _ _ _ _ _ hr C => (mss_one (ms_ret (me_bin om_add (me_join (me_str w31_eq) (ma_cons (me_comp (T:=["part"]) (caps:=[]) (ix:=[]) (compScope_of (show compB _ (defScope s_p_line_of) = true by decide +kernel)) (caps_of C.hN (by decide +kernel)) C.calm (mi_tup (sv C 0 rfl)) (fun C2 s2 H2 ex2 => have B:blkB _ ["part"] [] ["str"] = true:=(by decide +kernel); have C:=cb_of (C:=C2) (s:=s2) (H:=H2) (ex:=ex2) C.calm C.un (by decide +kernel) B; And.intro (stb C 0 rfl (blk_loc B (j:=0) rfl)) (And.intro mifs_nil (me_callTy cm_str (C.g 0 rfl) T.n_str M.boot_str (ma_cons (svb C 0 rfl) ma_nil rfl))))) ma_nil rfl)) (me_str w33_eq))))
theorem ok_p_written (T:Tx w K mg):FnAt P w K mg base "written" 2 1 f_p_written:=fnC T.d_p_written ["code"] [] ⟨rfl,rfl,rfl,by decide +kernel,rfl,by decide +kernel,by decide +kernel⟩ (by decide +kernel) (by decide +kernel) rfl rfl fun _ _ _ _ _ _ _ hr C => (mss_one (ms_ret (me_join (me_str w32_eq) (ma_cons (me_comp (T:=["step"]) (caps:=[]) (ix:=[]) (compScope_of (show compB _ (defScope s_p_written) = true by decide +kernel)) (caps_of C.hN (by decide +kernel)) C.calm (mi_list (sv C 0 rfl)) (fun C2 s2 H2 ex2 => have B:blkB _ ["step"] [] ["line_of"] = true:=(by decide +kernel); have C:=cb_of (C:=C2) (s:=s2) (H:=H2) (ex:=ex2) C.calm C.un (by decide +kernel) B; And.intro (stb C 0 rfl (blk_loc B (j:=0) rfl)) (And.intro mifs_nil (me_fn (ok_p_line_of T) (hr.mono (by decide)) (C.g 0 rfl) (ma_cons (svb C 0 rfl) ma_nil rfl) rfl)))) ma_nil rfl))))
theorem ok_p_is_whole (T:Tx w K mg):FnAt P w K mg base "is_whole" 1 1 f_p_is_whole:=fnC T.d_p_is_whole ["thing"] ["isinstance","int","bool"] ⟨rfl,rfl,rfl,by decide +kernel,rfl,by decide +kernel,by decide +kernel⟩ (by decide +kernel) (by decide +kernel) rfl rfl fun _ _ _ _ _ _ _ hr C => (mss_one (ms_ret (me_and (me_isI .int PyProof.Rows.boot_int (C.g 0 rfl) T.n_isinstance (C.g 1 rfl) T.n_int (sv C 0 rfl)) (me_one (me_not (me_isI .bool M.boot_bool (C.g 0 rfl) T.n_isinstance (C.g 2 rfl) T.n_bool (sv C 0 rfl)))))))
theorem ok_p_is_number (T:Tx w K mg):FnAt P w K mg base "is_number" 2 1 f_p_is_number:=fnC T.d_p_is_number ["thing"] ["is_whole","ROUND"] ⟨rfl,rfl,rfl,by decide +kernel,rfl,by decide +kernel,by decide +kernel⟩ (by decide +kernel) (by decide +kernel) rfl rfl fun _ _ _ _ _ _ _ hr C => (mss_one (ms_ret (me_and (me_fn (ok_p_is_whole T) (hr.mono (by decide)) (C.g 0 rfl) (ma_cons (sv C 0 rfl) ma_nil rfl) rfl) (me_one (me_chain om_le om_lt me_int (sv C 0 rfl) (me_const T.c_ROUND (C.g 1 rfl)) rfl)))))
theorem ok_p_number_of (T:Tx w K mg):FnAt P w K mg base "number_of" 3 1 f_p_number_of:=fnC T.d_p_number_of ["figures","number"] ["len","MOST_FIGURES","int","is_number"] ⟨rfl,rfl,rfl,by decide +kernel,rfl,by decide +kernel,by decide +kernel⟩ (by decide +kernel) (by decide +kernel) rfl rfl fun _ _ _ _ _ _ _ hr C => (mss_cons (ms_if (mt_cmp om_gt (me_callB cm_len (C.g 0 rfl) T.n_len PySem.boot_len (ma_cons (sv C 0 rfl) ma_nil rfl)) (me_const T.c_MOST_FIGURES (C.g 1 rfl)) (nomark _))
    (mss_one (ms_ret me_non))
    mss_nil)
    (mss_cons (sa C 1 rfl (me_callTy cm_intT (C.g 2 rfl) T.n_int PyProof.Rows.boot_int (ma_cons (sv C 0 rfl) ma_nil rfl)))
    (mss_one (ms_ret (me_if (mt_truth (me_fn (ok_p_is_number T) (hr.mono (by decide)) (C.g 3 rfl) (ma_cons (sv C 1 rfl) ma_nil rfl) rfl) (fun _ => rfl)) (sv C 1 rfl) me_non)))))
theorem ok_p_part_of (T:Tx w K mg):FnAt P w K mg base "part_of" 4 1 f_p_part_of:=fnC T.d_p_part_of ["piece"] ["number_of"] ⟨rfl,rfl,rfl,by decide +kernel,rfl,by decide +kernel,by decide +kernel⟩ (by decide +kernel) (by decide +kernel) rfl rfl fun _ _ _ _ _ _ _ hr C => (mss_cons (ms_if (mt_not (mt_truth (me_isdigit (sv C 0 rfl)) (fun _ => rfl)))
    (mss_one (ms_ret (sv C 0 rfl)))
    mss_nil)
    (mss_cons (ms_if (mw_and (mt_cmp (om_eq C.un) (me_idx (sv C 0 rfl) me_int (fun _ _ => rfl)) (me_str w_0_eq) (nomark _)) (mw_and1 (mt_cmp (om_ne C.un) (sv C 0 rfl) (me_str w_0_eq) (nomark _)))).t
    (mss_one (ms_ret me_non))
    mss_nil)
    (mss_one (ms_ret (me_fn (ok_p_number_of T) (hr.mono (by decide)) (C.g 0 rfl) (ma_cons (sv C 0 rfl) ma_nil rfl) rfl)))))
theorem ok_p_is_part (T:Tx w K mg):FnAt P w K mg base "is_part" 3 2 f_p_is_part:=fnC T.d_p_is_part ["kind","part"] ["is_number","is_whole","SIZES","SLOTS","FARTHEST","BASES","OPS","TESTS"] ⟨rfl,rfl,rfl,by decide +kernel,rfl,by decide +kernel,by decide +kernel⟩ (by decide +kernel) (by decide +kernel) rfl rfl fun _ _ _ _ _ _ _ hr C => (mss_cons (ms_if (mt_cmp (om_eq C.un) (sv C 0 rfl) (me_str w_number_eq) (nomark _))
    (mss_one (ms_ret (me_fn (ok_p_is_number T) (hr.mono (by decide)) (C.g 0 rfl) (ma_cons (sv C 1 rfl) ma_nil rfl) rfl)))
    mss_nil)
    (mss_cons (ms_if (mt_cmp (om_eq C.un) (sv C 0 rfl) (me_str w_size_eq) (nomark _))
    (mss_one (ms_ret (me_and (me_fn (ok_p_is_whole T) (hr.mono (by decide)) (C.g 1 rfl) (ma_cons (sv C 1 rfl) ma_nil rfl) rfl) (me_one (me_cmp (om_in C.un) (sv C 1 rfl) (me_const T.c_SIZES (C.g 2 rfl)) rfl)))))
    mss_nil)
    (mss_cons (ms_if (mt_cmp (om_eq C.un) (sv C 0 rfl) (me_str w_slot_eq) (nomark _))
    (mss_one (ms_ret (me_and (me_fn (ok_p_is_whole T) (hr.mono (by decide)) (C.g 1 rfl) (ma_cons (sv C 1 rfl) ma_nil rfl) rfl) (me_one (me_chain om_le om_lt me_int (sv C 1 rfl) (me_const T.c_SLOTS (C.g 3 rfl)) rfl)))))
    mss_nil)
    (mss_cons (ms_if (mt_cmp (om_eq C.un) (sv C 0 rfl) (me_str w_distance_eq) (nomark _))
    (mss_one (ms_ret (me_and (me_fn (ok_p_is_whole T) (hr.mono (by decide)) (C.g 1 rfl) (ma_cons (sv C 1 rfl) ma_nil rfl) rfl) (me_one (me_chain om_le om_le me_int (sv C 1 rfl) (me_const T.c_FARTHEST (C.g 4 rfl)) rfl)))))
    mss_nil)
    (mss_cons (ms_if (mt_cmp (om_eq C.un) (sv C 0 rfl) (me_str w_base_eq) (nomark _))
    (mss_one (ms_ret (me_cmp (om_in C.un) (sv C 1 rfl) (me_const T.c_BASES (C.g 5 rfl)) rfl)))
    mss_nil)
    (mss_cons (ms_if (mt_cmp (om_eq C.un) (sv C 0 rfl) (me_str w_op_eq) (nomark _))
    (mss_one (ms_ret (me_cmp (om_in C.un) (sv C 1 rfl) (me_const T.c_OPS (C.g 6 rfl)) rfl)))
    mss_nil)
    (mss_one (ms_ret (me_cmp (om_in C.un) (sv C 1 rfl) (me_const T.c_TESTS (C.g 7 rfl)) rfl)))))))))
theorem ok_p_can_be_done_by (T:Tx w K mg):FnAt P w K mg base "can_be_done_by" 1 2 f_p_can_be_done_by:=fnC T.d_p_can_be_done_by ["op","k"] ["DIVIDING","SHIFTING","WIDTH"] ⟨rfl,rfl,rfl,by decide +kernel,rfl,by decide +kernel,by decide +kernel⟩ (by decide +kernel) (by decide +kernel) rfl rfl fun _ _ _ _ _ _ _ hr C => (mss_cons (ms_if (mt_cmp (om_in C.un) (sv C 0 rfl) (me_const T.c_DIVIDING (C.g 0 rfl)) rfl)
    (mss_one (ms_ret (me_cmp (om_ne C.un) (sv C 1 rfl) me_int (nomark _))))
    mss_nil)
    (mss_cons (ms_if (mt_cmp (om_in C.un) (sv C 0 rfl) (me_const T.c_SHIFTING (C.g 1 rfl)) rfl)
    (mss_one (ms_ret (me_cmp om_lt (sv C 1 rfl) (me_const T.c_WIDTH (C.g 2 rfl)) (nomark _))))
    mss_nil)
    (mss_one (ms_ret me_bl))))
theorem ok_p_is_step (T:Tx w K mg):FnAt P w K mg base "is_step" 4 1 f_p_is_step:=fnC T.d_p_is_step ["thing","kinds"] ["isinstance","tuple","len","str","PARTS","zip","all","can_be_done_by"] ⟨rfl,rfl,rfl,by decide +kernel,rfl,by decide +kernel,by decide +kernel⟩ (by decide +kernel) (by decide +kernel) rfl rfl fun _ _ _ _ _ _ _ hr C => (mss_cons (ms_if (mw_or (mt_not (mt_truth (me_isI .tuple M.boot_tuple (C.g 0 rfl) T.n_isinstance (C.g 1 rfl) T.n_tuple (sv C 0 rfl)) (fun _ => rfl))) (mw_or1 (mt_cmp (om_eq C.un) (me_callB cm_len (C.g 2 rfl) T.n_len PySem.boot_len (ma_cons (sv C 0 rfl) ma_nil rfl)) me_int (nomark _)))).t
    (mss_one (ms_ret me_bl))
    mss_nil)
    (mss_cons (ms_if (mw_or (mt_not (mt_truth (me_isI .str M.boot_str (C.g 0 rfl) T.n_isinstance (C.g 3 rfl) T.n_str (me_idx (sv C 0 rfl) me_int (fun _ _ => rfl))) (fun _ => rfl))) (mw_or1 (mt_cdnotin T.c_PARTS (C.g 4 rfl) (me_idx (sv C 0 rfl) me_int (fun _ _ => rfl))))).t
    (mss_one (ms_ret me_bl))
    mss_nil)
    (mss_cons (sa C 1 rfl (me_cdget T.c_PARTS (C.g 4 rfl) (me_idx (sv C 0 rfl) me_int (fun _ _ => rfl)) (fun _ _ => rfl)))
    (mss_cons (ms_if (mt_cmp (om_ne C.un) (me_callB cm_len (C.g 2 rfl) T.n_len PySem.boot_len (ma_cons (sv C 0 rfl) ma_nil rfl)) (me_bin om_add me_int (me_callB cm_len (C.g 2 rfl) T.n_len PySem.boot_len (ma_cons (sv C 1 rfl) ma_nil rfl))) (nomark _))
    (mss_one (ms_ret me_bl))
    mss_nil)
    (mss_cons (ms_if (mt_not (mt_truth (me_callB (cm_all C.calm) (C.g 6 rfl) T.n_all PyProof.Rows.boot_all (ma_cons (me_comp (T:=["kind","part"]) (caps:=[]) (ix:=[]) (compScope_of (show compB _ (defScope s_p_is_step) = true by decide +kernel)) (caps_of C.hN (by decide +kernel)) C.calm (mi_zip true true (C.g 5 rfl) T.n_zip (sv C 1 rfl) (me_slice (sv C 0 rfl) (mp_some me_int) mp_none)) (fun C2 s2 H2 ex2 => have B:blkB _ ["kind","part"] [] ["is_part"] = true:=(by decide +kernel); have C:=cb_of (C:=C2) (s:=s2) (H:=H2) (ex:=ex2) C.calm C.un (by decide +kernel) B; And.intro (mt_tup C.calm (mts_cons (stb C 0 rfl (blk_loc B (j:=0) rfl)) (mts_cons (stb C 1 rfl (blk_loc B (j:=1) rfl)) mts_nil))) (And.intro mifs_nil (me_fn (ok_p_is_part T) (hr.mono (by decide)) (C.g 0 rfl) (ma_cons (svb C 0 rfl) (ma_cons (svb C 1 rfl) ma_nil rfl) rfl) rfl)))) ma_nil rfl)) (fun _ => rfl)))
    (mss_one (ms_ret me_bl))
    mss_nil)
    (mss_one (ms_ret (me_or (me_cmp (om_ne C.un) (me_idx (sv C 0 rfl) me_int (fun _ _ => rfl)) (me_str w_do_eq) (nomark _)) (me_one (me_fn (ok_p_can_be_done_by T) (hr.mono (by decide)) (C.g 7 rfl) (ma_cons (me_idx (sv C 0 rfl) me_int (fun _ _ => rfl)) (ma_cons (me_idx (sv C 0 rfl) me_int (fun _ _ => rfl)) ma_nil rfl) rfl) rfl))))))))))
theorem ok_p_step_of (T:Tx w K mg):FnAt P w K mg base "step_of" 5 1 f_p_step_of:=fnC T.d_p_step_of ["line","step"] ["tuple","is_step"] ⟨rfl,rfl,rfl,by decide +kernel,rfl,by decide +kernel,by decide +kernel⟩ (by decide +kernel) (by decide +kernel) rfl rfl fun _ _ _ _ _ _ _ hr C => (mss_cons (sa C 1 rfl (me_callTy cm_tup (C.g 0 rfl) T.n_tuple M.boot_tuple (ma_cons (me_comp (T:=["piece"]) (caps:=[]) (ix:=[]) (compScope_of (show compB _ (defScope s_p_step_of) = true by decide +kernel)) (caps_of C.hN (by decide +kernel)) C.calm (mi_list (me_split (sv C 0 rfl) (ma_cons (me_str w31_eq) ma_nil rfl))) (fun C2 s2 H2 ex2 => have B:blkB _ ["piece"] [] ["part_of"] = true:=(by decide +kernel); have C:=cb_of (C:=C2) (s:=s2) (H:=H2) (ex:=ex2) C.calm C.un (by decide +kernel) B; And.intro (stb C 0 rfl (blk_loc B (j:=0) rfl)) (And.intro mifs_nil (me_fn (ok_p_part_of T) (hr.mono (by decide)) (C.g 0 rfl) (ma_cons (svb C 0 rfl) ma_nil rfl) rfl)))) ma_nil rfl)))
    (mss_one (ms_ret (me_if (mt_truth (me_fn (ok_p_is_step T) (hr.mono (by decide)) (C.g 1 rfl) (ma_cons (sv C 1 rfl) ma_nil rfl) rfl) (fun _ => rfl)) (sv C 1 rfl) me_non))))
theorem sc_p_read_code:FnScope ["text","lines","steps"] ["text"] (defScope s_p_read_code):=⟨rfl,rfl,rfl,by decide +kernel,rfl,by decide +kernel,by decide +kernel⟩
theorem lo_p_read_code:locB (defScope s_p_read_code) ["text","lines","steps"] = true:=by decide +kernel
theorem gl_p_read_code:glB (defScope s_p_read_code) ["BadLine","len"] = true:=by decide +kernel
theorem okd_p_read_code (T:Tx w K mg) {f:Addr} {fd:FuncData} (F:Fun K "read_code" "read_code" s_p_read_code f fd):FnOk P w K mg base (CXR P w) 6 f fd ["text"] (spX K xc 1 f_p_read_code):=by
  refine fnOkZ_of F sc_p_read_code rfl rfl fun cdv A outer s H E hr => ?_
  have C0:=ct_ofX (CX:=CXR P w) (P:=P) (w:=w) (K:=K) (mg:=mg) (base:=base) (outer:=outer) (H:=H) (E:=E) sc_p_read_code.nd (loc_of lo_p_read_code) (gl_of gl_p_read_code) hr
  have C:=ct_try (pn:=[]) (xe:=Rz (cxOf (CXR P w) P w K mg base ["text","lines","steps"] "read_code" (defScope s_p_read_code) f cdv A outer s H E) E) C0
  have hx:=passRz (X:=(cxOf (CXR P w) P w K mg base ["text","lines","steps"] "read_code" (defScope s_p_read_code) f cdv A outer s H E)) (E:=E)
  have ho:=own_Rz (X:=(cxOf (CXR P w) P w K mg base ["text","lines","steps"] "read_code" (defScope s_p_read_code) f cdv A outer s H E)) (E:=E) rfl rfl
  exact ((mss_cons (sa C 1 rfl (me_split (sv C 0 rfl) (ma_cons (me_str w33_eq) ma_nil rfl)))
    (mss_cons (sac C 2 rfl (T:=["line"]) (caps:=[]) (ix:=[]) (compScope_of (show compB _ (defScope s_p_read_code) = true by decide +kernel)) (caps_of C.hN (by decide +kernel)) C.calm (mi_list (me_slice (sv C 1 rfl) mp_none (mp_some (me_neg me_int)))) (fun C2 s2 H2 ex2 => have B:blkB _ ["line"] [] ["step_of"] = true:=(by decide +kernel); have C:=cb_of (C:=C2) (s:=s2) (H:=H2) (ex:=ex2) C.calm C.un (by decide +kernel) B; And.intro (stb C 0 rfl (blk_loc B (j:=0) rfl)) (And.intro mifs_nil (me_fn (ok_p_step_of T) (hr.mono (by decide)) (C.g 0 rfl) (ma_cons (svb C 0 rfl) ma_nil rfl) rfl))))
    (mss_cons (ms_if (mt_cmp (om_in C.un) me_non (sv C 2 rfl) rfl)
    (mss_one (ms_rsZ (rs_BadLine T) rfl (hr.mono (by decide)) (C0.g 0 rfl) (me_bin om_add (me_index C.un (sv C 2 rfl) (ma_cons me_non ma_nil rfl) (fun _ _ => rfl)) me_int)))
    mss_nil)
    (mss_cons (ms_if (mt_cmp (om_ne C.un) (me_idx (sv C 1 rfl) (me_neg me_int) (fun _ _ => rfl)) (me_str w32_eq) (nomark _))
    (mss_one (ms_rsZ (rs_BadLine T) rfl (hr.mono (by decide)) (C0.g 0 rfl) (me_callB cm_len (C.g 1 rfl) T.n_len PySem.boot_len (ma_cons (sv C 1 rfl) ma_nil rfl))))
    mss_nil)
    (mss_one (ms_ret (sv C 2 rfl))))))))
theorem ok_p_read_code (T:Tx w K mg):FnAtX P w K mg base xc "read_code" 6 1 f_p_read_code:=fnAtX_of T.d_p_read_code rfl fun f fd F => okd_p_read_code T F
theorem ok_read (T:Tx w K mg):FnAt P w K mg base "_law_read" 7 1 f_read:=fnC T.d_read ["_law_text","_law_found","_law_line","e"] ["SieveError","read_code","isinstance","BadLine","ValueError","NotLetIn","BadFilter"] ⟨rfl,rfl,rfl,by decide +kernel,rfl,by decide +kernel,by decide +kernel⟩ (by decide +kernel) (by decide +kernel) rfl rfl fun _ _ _ _ _ _ _ hr C => (mss_cons (sa C 1 rfl me_non)
    (mss_cons (sa C 2 rfl me_int)
    (mss_cons (ms_tryKT C T.h_SieveError (C.g 0 rfl) (show allLoc ["_law_text","_law_found","_law_line","e"] (defScope s_read) = true from (by decide +kernel)) rfl (ie:=3) rfl (by intro k hk; rcases (show k = 0 by simpa using hk) with rfl <;> first | exact T.s_BadLine_SieveError) (fun pn xe f E hx C => (me_fnX (ok_p_read_code T) hx (hr.mono (by decide)) (C.g 1 rfl) (ma_cons (sv C 0 rfl) ma_nil rfl) rfl))
    (fun a pn C => (mss_cons (sah C 2 rfl (me_if (mw_and (mt_truth (me_isx (C.g 3 rfl) T.m_BadLine (of_look (by simp only [List.forall_mem_cons,List.not_mem_nil,false_implies,implies_true,and_true]; exact ⟨T.g_BadLine,T.k_BadLine_BadLine⟩)) (C.g 2 rfl) T.n_isinstance (svh C 3 rfl)) (fun _ => rfl)) (mw_and1 (mt_truth (me_isxB (C.g 4 rfl) T.n_ValueError M.boot_ValueError (of_look (by simp only [List.forall_mem_cons,List.not_mem_nil,false_implies,implies_true,and_true]; exact ⟨T.g_BadLine,T.k_BadLine_ValueError⟩)) (C.g 2 rfl) T.n_isinstance (svh C 3 rfl)) (fun _ => rfl)))).t (me_xat (of_mem (by simp only [List.forall_mem_cons,List.not_mem_nil,false_implies,implies_true,and_true]; exact ⟨T.g_BadLine,T.a_BadLine⟩)) (svh C 3 rfl)) (me_neg me_int)))
    (mss_one (ms_if (mt_truth (me_isxT (pcs_cons (C.g 6 rfl) T.m_BadFilter (pcs_cons (C.g 5 rfl) T.m_NotLetIn pcs_nil)) (show 2 ≤ 1000 by decide) (of_look (by simp only [List.forall_mem_cons,List.not_mem_nil,false_implies,implies_true,and_true]; exact ⟨T.g_BadLine,T.k_BadLine_BadFilter_NotLetIn⟩)) (C.g 2 rfl) T.n_isinstance (svh C 3 rfl)) (fun _ => rfl))
    (mss_one (sah C 2 rfl (me_neg me_int)))
    mss_nil)))))
    (mss_one (ms_ret (me_tup (ma_cons (sv C 1 rfl) (ma_cons (sv C 2 rfl) ma_nil rfl) rfl)))))))
theorem sc_law:FnScope ["_law_script","_law_steps","_law_lines","_law_found","_law_at","_law_words","_law_k_here","_law_some","_law_ways","_law_told"] ["_law_script"] (defScope s_law):=⟨rfl,rfl,rfl,by decide +kernel,rfl,by decide +kernel,by decide +kernel⟩
theorem okd_law (T:Tx w K mg) {f:Addr} {fd:FuncData} (F:Fun K "law" "law" s_law f fd):FnOk P w K mg base CX0 8 f fd ["_law_script"] (spM K 1 f_law):=by
  refine fnOk_of F sc_law rfl rfl fun cdv A outer s H E hr => ?_
  have C:=ct_of (CX:=CX0) (P:=P) (w:=w) (K:=K) (mg:=mg) (base:=base) (outer:=outer) (H:=H) (E:=E) sc_law.nd (loc_of (by decide +kernel)) (gl_of (show glB _ ["_law_mix","range","list","written","isinstance","str","_law_read","len","all"] = true from (by decide +kernel))) hr
  exact ((mss_cons (sac C 1 rfl (T:=["_law_k_here"]) (caps:=["_law_script"]) (ix:=[0]) (compScope_of (show compB _ (defScope s_law) = true by decide +kernel)) (caps_of C.hN (by decide +kernel)) C.calm (mi_range1 (C.g 1 rfl) T.n_range (me_bin om_mod (me_fn (ok_mix T) (hr.mono (by decide)) (C.g 0 rfl) (ma_cons (sv C 0 rfl) (ma_cons me_int ma_nil rfl) rfl) rfl) me_int)) (fun C2 s2 H2 ex2 => have B:blkB _ ["_law_k_here"] ["_law_script"] ["_law_step"] = true:=(by decide +kernel); have C:=cb_of (C:=C2) (s:=s2) (H:=H2) (ex:=ex2) C.calm C.un (by decide +kernel) B; And.intro (stb C 0 rfl (blk_loc B (j:=0) rfl)) (And.intro mifs_nil (me_fn (ok_step T) (hr.mono (by decide)) (C.g 0 rfl) (ma_cons (svb C 1 rfl) (ma_cons (me_bin om_mul me_int (svb C 0 rfl)) (ma_cons me_int ma_nil rfl) rfl) rfl) rfl))))
    (mss_cons (sacC C 2 rfl (T:=["_law_step_here"]) (caps:=[]) (ix:=[]) (compScope_of (show compB _ (defScope s_law) = true by decide +kernel)) (caps_of C.hN (by decide +kernel)) C.calm (mi_list (sv C 1 rfl)) (fun C2 s2 H2 ex2 => have B:blkB _ ["_law_step_here"] [] [] = true:=(by decide +kernel); have C:=cb_of (C:=C2) (s:=s2) (H:=H2) (ex:=ex2) C.calm C.un (by decide +kernel) B; And.intro (stb C 0 rfl (blk_loc B (j:=0) rfl)) (And.intro mifs_nil (me_join (me_str w31_eq) (ma_cons (me_comp (T:=["_law_part"]) (caps:=[]) (ix:=[]) (compScope_of (by rfl)) (caps_of C.hN (by decide +kernel)) C.calm (mi_tup (svb C 0 rfl)) (fun C2 s2 H2 ex2 => have B:blkB _ ["_law_part"] [] ["str"] = true:=(by decide +kernel); have C:=cb_of (C:=C2) (s:=s2) (H:=H2) (ex:=ex2) C.calm C.un (by decide +kernel) B; And.intro (stb C 0 rfl (blk_loc B (j:=0) rfl)) (And.intro mifs_nil (me_callTy cm_str (C.g 0 rfl) T.n_str M.boot_str (ma_cons (svb C 0 rfl) ma_nil rfl))))) ma_nil rfl)))))
    (mss_cons (sa C 3 rfl (me_fn (ok_p_written T) (hr.mono (by decide)) (C.g 3 rfl) (ma_cons (me_callTy cm_list (C.g 2 rfl) T.n_list M.boot_list (ma_cons (sv C 1 rfl) ma_nil rfl)) ma_nil rfl) rfl))
    (mss_cons (ms_if (mw_or (mt_not (mt_truth (me_isI .str M.boot_str (C.g 4 rfl) T.n_isinstance (C.g 5 rfl) T.n_str (sv C 3 rfl)) (fun _ => rfl))) (mw_or1 (mt_cmp (om_ne C.un) (sv C 3 rfl) (me_join (me_str w32_eq) (ma_cons (me_compW (T:=["_law_line"]) (caps:=[]) (ix:=[]) (compScope_of (show compB _ (defScope s_law) = true by decide +kernel)) (caps_of C.hN (by decide +kernel)) C.calm (sv C 2 rfl) (fun C2 s2 H2 ex2 => have B:blkB _ ["_law_line"] [] [] = true:=(by decide +kernel); have C:=cb_of (C:=C2) (s:=s2) (H:=H2) (ex:=ex2) C.calm C.un (by decide +kernel) B; And.intro (stb C 0 rfl (blk_loc B (j:=0) rfl)) (And.intro mifs_nil (me_bin om_add (svb C 0 rfl) (me_str w33_eq))))) ma_nil rfl)) (nomark _)))).t
    (mss_one (ms_ret me_bl))
    mss_nil)
    (mss_cons (ms_if (mt_cmp (om_ne C.un) (me_fn (ok_read T) (hr.mono (by decide)) (C.g 6 rfl) (ma_cons (sv C 3 rfl) ma_nil rfl) rfl) (me_tup (ma_cons (sv C 1 rfl) (ma_cons me_int ma_nil rfl) rfl)) (nomark _))
    (mss_one (ms_ret me_bl))
    mss_nil)
    (mss_cons (ms_if (mt_not (mt_truth (sv C 2 rfl) (fun _ => rfl)))
    (mss_one (ms_ret (me_cmp (om_eq C.un) (me_fn (ok_read T) (hr.mono (by decide)) (C.g 6 rfl) (ma_cons (me_str w_x_eq) ma_nil rfl) rfl) (me_tup (ma_cons me_non (ma_cons me_int ma_nil rfl) rfl)) (nomark _))))
    mss_nil)
    (mss_cons (sa C 4 rfl (me_bin om_mod (me_fn (ok_mix T) (hr.mono (by decide)) (C.g 0 rfl) (ma_cons (sv C 0 rfl) (ma_cons me_int ma_nil rfl) rfl) rfl) (me_callB cm_len (C.g 7 rfl) T.n_len PySem.boot_len (ma_cons (sv C 2 rfl) ma_nil rfl))))
    (mss_cons (sa C 5 rfl (me_split (me_idx (sv C 2 rfl) (sv C 4 rfl) (fun _ _ => rfl)) (ma_cons (me_str w31_eq) ma_nil rfl)))
    (mss_cons (sa C 6 rfl (me_bin om_mod (me_fn (ok_mix T) (hr.mono (by decide)) (C.g 0 rfl) (ma_cons (sv C 0 rfl) (ma_cons me_int ma_nil rfl) rfl) rfl) (me_callB cm_len (C.g 7 rfl) T.n_len PySem.boot_len (ma_cons (sv C 5 rfl) ma_nil rfl))))
    (mss_cons (sa C 7 rfl (me_idx (me_lst (ma_cons (me_str w32_eq) (ma_cons (me_str w_0_eq) (ma_cons (me_str w_01_eq) (ma_cons (me_str w_x_eq) (ma_cons (me_str w_len_eq) (ma_cons (me_str w_4294967296_eq) (ma_cons (me_str w44_eq) (ma_cons (me_str w_jump_eq) (ma_cons (me_str w_keep_eq) (ma_cons (me_str w_2001_eq) ma_nil rfl) rfl) rfl) rfl) rfl) rfl) rfl) rfl) rfl) rfl)) (me_bin om_mod (me_fn (ok_mix T) (hr.mono (by decide)) (C.g 0 rfl) (ma_cons (sv C 0 rfl) (ma_cons me_int ma_nil rfl) rfl) rfl) me_int) (fun _ _ => rfl)))
    (mss_cons (sa C 8 rfl (me_lst (ma_cons (me_bin om_add (me_bin om_add (me_slice (sv C 5 rfl) mp_none (mp_some (sv C 6 rfl))) (me_lst (ma_cons (sv C 7 rfl) ma_nil rfl))) (me_slice (sv C 5 rfl) (mp_some (me_bin om_add (sv C 6 rfl) me_int)) mp_none)) (ma_cons (me_bin om_add (sv C 5 rfl) (me_lst (ma_cons (sv C 7 rfl) ma_nil rfl))) (ma_cons (me_slice (sv C 5 rfl) mp_none (mp_some (sv C 6 rfl))) (ma_cons (me_bin om_add (me_slice (sv C 5 rfl) mp_none (mp_some (sv C 6 rfl))) (me_lst (ma_cons (me_bin om_add (me_str w_0_eq) (me_idx (sv C 5 rfl) (sv C 6 rfl) (fun _ _ => rfl))) ma_nil rfl))) ma_nil rfl) rfl) rfl) rfl)))
    (mss_cons (sa C 5 rfl (me_idx (sv C 8 rfl) (me_bin om_mod (me_fn (ok_mix T) (hr.mono (by decide)) (C.g 0 rfl) (ma_cons (sv C 0 rfl) (ma_cons me_int ma_nil rfl) rfl) rfl) me_int) (fun _ _ => rfl)))
    (mss_cons (ms_store (sv C 2 rfl) (sv C 4 rfl) (me_join (me_str w31_eq) (ma_cons (sv C 5 rfl) ma_nil rfl)))
    (mss_cons (sa C 9 rfl (me_fn (ok_read T) (hr.mono (by decide)) (C.g 6 rfl) (ma_cons (me_join (me_str w32_eq) (ma_cons (me_compW (T:=["_law_line"]) (caps:=[]) (ix:=[]) (compScope_of (show compB _ (defScope s_law) = true by decide +kernel)) (caps_of C.hN (by decide +kernel)) C.calm (sv C 2 rfl) (fun C2 s2 H2 ex2 => have B:blkB _ ["_law_line"] [] [] = true:=(by decide +kernel); have C:=cb_of (C:=C2) (s:=s2) (H:=H2) (ex:=ex2) C.calm C.un (by decide +kernel) B; And.intro (stb C 0 rfl (blk_loc B (j:=0) rfl)) (And.intro mifs_nil (me_bin om_add (svb C 0 rfl) (me_str w33_eq))))) ma_nil rfl)) ma_nil rfl) rfl))
    (mss_cons (ms_if (mt_isN (me_idx (sv C 9 rfl) me_int (fun _ _ => rfl)))
    (mss_one (ms_ret (me_cmp (om_eq C.un) (me_idx (sv C 9 rfl) me_int (fun _ _ => rfl)) (me_bin om_add (sv C 4 rfl) me_int) (nomark _))))
    mss_nil)
    (mss_cons (ms_if (mw_or (mt_not (mt_truth (me_callB (cm_all C.calm) (C.g 8 rfl) T.n_all PyProof.Rows.boot_all (ma_cons (me_comp (T:=["_law_step_here"]) (caps:=[]) (ix:=[]) (compScope_of (show compB _ (defScope s_law) = true by decide +kernel)) (caps_of C.hN (by decide +kernel)) C.calm (mi_list (me_idx (sv C 9 rfl) me_int (fun _ _ => rfl))) (fun C2 s2 H2 ex2 => have B:blkB _ ["_law_step_here"] [] ["is_step"] = true:=(by decide +kernel); have C:=cb_of (C:=C2) (s:=s2) (H:=H2) (ex:=ex2) C.calm C.un (by decide +kernel) B; And.intro (stb C 0 rfl (blk_loc B (j:=0) rfl)) (And.intro mifs_nil (me_fn (ok_p_is_step T) (hr.mono (by decide)) (C.g 0 rfl) (ma_cons (svb C 0 rfl) ma_nil rfl) rfl)))) ma_nil rfl)) (fun _ => rfl))) (mw_or1 (mt_cmp (om_ne C.un) (me_fn (ok_p_written T) (hr.mono (by decide)) (C.g 3 rfl) (ma_cons (me_idx (sv C 9 rfl) me_int (fun _ _ => rfl)) ma_nil rfl) rfl) (me_join (me_str w32_eq) (ma_cons (me_compW (T:=["_law_line"]) (caps:=[]) (ix:=[]) (compScope_of (show compB _ (defScope s_law) = true by decide +kernel)) (caps_of C.hN (by decide +kernel)) C.calm (sv C 2 rfl) (fun C2 s2 H2 ex2 => have B:blkB _ ["_law_line"] [] [] = true:=(by decide +kernel); have C:=cb_of (C:=C2) (s:=s2) (H:=H2) (ex:=ex2) C.calm C.un (by decide +kernel) B; And.intro (stb C 0 rfl (blk_loc B (j:=0) rfl)) (And.intro mifs_nil (me_bin om_add (svb C 0 rfl) (me_str w33_eq))))) ma_nil rfl)) (nomark _)))).t
    (mss_one (ms_ret me_bl))
    mss_nil)
    (mss_one (ms_ret (me_cmp (om_eq C.un) (me_fn (ok_read T) (hr.mono (by decide)) (C.g 6 rfl) (ma_cons (me_join (me_str w33_eq) (ma_cons (sv C 2 rfl) ma_nil rfl)) ma_nil rfl) rfl) (me_tup (ma_cons me_non (ma_cons (me_callB cm_len (C.g 7 rfl) T.n_len PySem.boot_len (ma_cons (sv C 2 rfl) ma_nil rfl)) ma_nil rfl) rfl)) (nomark _)))))))))))))))))))))
theorem finish {fa:Addr} (hmg:mg "law" = some (.ref fa)) (T:Tx w K mg):∃ fd:FuncData,BindsS fd ["_law_script"] ∧ ∀ base:Heap,FnOk P w K mg base CX0 8 fa fd ["_law_script"] (spM K 1 f_law):=by
  obtain ⟨f,fd,h1,h2,h3⟩:=T.d_law
  have e:=hmg.symm.trans h1
  cases e
  exact ⟨fd,h3,fun base => okd_law T h2⟩
theorem mkT {h:Heap} (KX:K.In h) (G:h.Ns mainGlobals mg)
    (n_len:PySem.W.nsIn K mainGlobals "len" = some none)
    (n_range:PySem.W.nsIn K mainGlobals "range" = some none)
    (n_max:PySem.W.nsIn K mainGlobals "max" = some none)
    (n_str:PySem.W.nsIn K mainGlobals "str" = some none)
    (n_list:PySem.W.nsIn K mainGlobals "list" = some none)
    (n_isinstance:PySem.W.nsIn K mainGlobals "isinstance" = some none)
    (n_int:PySem.W.nsIn K mainGlobals "int" = some none)
    (n_bool:PySem.W.nsIn K mainGlobals "bool" = some none)
    (n_tuple:PySem.W.nsIn K mainGlobals "tuple" = some none)
    (n_zip:PySem.W.nsIn K mainGlobals "zip" = some none)
    (n_all:PySem.W.nsIn K mainGlobals "all" = some none)
    (n_ValueError:PySem.W.nsIn K mainGlobals "ValueError" = some none)
    {t_MOST_FIGURES:Tok}
    (a_MOST_FIGURES:PySem.W.nsIn K mainGlobals "MOST_FIGURES" = some (some (.int 10 t_MOST_FIGURES)))
    {t_ROUND:Tok}
    (a_ROUND:PySem.W.nsIn K mainGlobals "ROUND" = some (some (.int 4294967296 t_ROUND)))
    {p_PARTS:Addr} {ep_PARTS:Nat} {k0_PARTS k1_PARTS k2_PARTS k3_PARTS k4_PARTS k5_PARTS k6_PARTS k7_PARTS k8_PARTS k9_PARTS k10_PARTS k11_PARTS k12_PARTS k13_PARTS k14_PARTS:Tok} {v0_PARTS v1_PARTS v2_PARTS v3_PARTS v4_PARTS v5_PARTS v6_PARTS v7_PARTS v8_PARTS v9_PARTS v10_PARTS v11_PARTS v12_PARTS v13_PARTS v14_PARTS:Addr}
    (a_PARTS:PySem.W.nsIn K mainGlobals "PARTS" = some (some (.ref p_PARTS)))
    (l_PARTS:K.lookup p_PARTS = some ⟨.type "dict",none,.dict #[⟨PyData.keyHash w.params ⟨w_load.toArray⟩,.str ⟨w_load.toArray⟩ k0_PARTS,.ref v0_PARTS⟩,⟨PyData.keyHash w.params ⟨w_len.toArray⟩,.str ⟨w_len.toArray⟩ k1_PARTS,.ref v1_PARTS⟩,⟨PyData.keyHash w.params ⟨w_set.toArray⟩,.str ⟨w_set.toArray⟩ k2_PARTS,.ref v2_PARTS⟩,⟨PyData.keyHash w.params ⟨w_setx.toArray⟩,.str ⟨w_setx.toArray⟩ k3_PARTS,.ref v3_PARTS⟩,⟨PyData.keyHash w.params ⟨w_tax.toArray⟩,.str ⟨w_tax.toArray⟩ k4_PARTS,.ref v4_PARTS⟩,⟨PyData.keyHash w.params ⟨w_txa.toArray⟩,.str ⟨w_txa.toArray⟩ k5_PARTS,.ref v5_PARTS⟩,⟨PyData.keyHash w.params ⟨w_keep.toArray⟩,.str ⟨w_keep.toArray⟩ k6_PARTS,.ref v6_PARTS⟩,⟨PyData.keyHash w.params ⟨w_fetch.toArray⟩,.str ⟨w_fetch.toArray⟩ k7_PARTS,.ref v7_PARTS⟩,⟨PyData.keyHash w.params ⟨w_do.toArray⟩,.str ⟨w_do.toArray⟩ k8_PARTS,.ref v8_PARTS⟩,⟨PyData.keyHash w.params ⟨w_dox.toArray⟩,.str ⟨w_dox.toArray⟩ k9_PARTS,.ref v9_PARTS⟩,⟨PyData.keyHash w.params ⟨w_jump.toArray⟩,.str ⟨w_jump.toArray⟩ k10_PARTS,.ref v10_PARTS⟩,⟨PyData.keyHash w.params ⟨w_if.toArray⟩,.str ⟨w_if.toArray⟩ k11_PARTS,.ref v11_PARTS⟩,⟨PyData.keyHash w.params ⟨w_ifx.toArray⟩,.str ⟨w_ifx.toArray⟩ k12_PARTS,.ref v12_PARTS⟩,⟨PyData.keyHash w.params ⟨w_tell.toArray⟩,.str ⟨w_tell.toArray⟩ k13_PARTS,.ref v13_PARTS⟩,⟨PyData.keyHash w.params ⟨w_tella.toArray⟩,.str ⟨w_tella.toArray⟩ k14_PARTS,.ref v14_PARTS⟩] ep_PARTS,#[]⟩)
    (h_PARTS:(p_PARTS == sysModules) = false)
    {u0_0_PARTS u0_1_PARTS u0_2_PARTS:Tok} {od0_PARTS:Option Addr} {z0_PARTS:Nat} {sl0_PARTS:Array (Option Value)}
    (l0_PARTS:K.lookup v0_PARTS = some ⟨.type "tuple",od0_PARTS,.seq #[.str ⟨w_size.toArray⟩ u0_0_PARTS,.str ⟨w_base.toArray⟩ u0_1_PARTS,.str ⟨w_number.toArray⟩ u0_2_PARTS] z0_PARTS,sl0_PARTS⟩)
    {od1_PARTS:Option Addr} {z1_PARTS:Nat} {sl1_PARTS:Array (Option Value)}
    (l1_PARTS:K.lookup v1_PARTS = some ⟨.type "tuple",od1_PARTS,.seq #[] z1_PARTS,sl1_PARTS⟩)
    {u2_0_PARTS:Tok} {od2_PARTS:Option Addr} {z2_PARTS:Nat} {sl2_PARTS:Array (Option Value)}
    (l2_PARTS:K.lookup v2_PARTS = some ⟨.type "tuple",od2_PARTS,.seq #[.str ⟨w_number.toArray⟩ u2_0_PARTS] z2_PARTS,sl2_PARTS⟩)
    {u3_0_PARTS:Tok} {od3_PARTS:Option Addr} {z3_PARTS:Nat} {sl3_PARTS:Array (Option Value)}
    (l3_PARTS:K.lookup v3_PARTS = some ⟨.type "tuple",od3_PARTS,.seq #[.str ⟨w_number.toArray⟩ u3_0_PARTS] z3_PARTS,sl3_PARTS⟩)
    {od4_PARTS:Option Addr} {z4_PARTS:Nat} {sl4_PARTS:Array (Option Value)}
    (l4_PARTS:K.lookup v4_PARTS = some ⟨.type "tuple",od4_PARTS,.seq #[] z4_PARTS,sl4_PARTS⟩)
    {od5_PARTS:Option Addr} {z5_PARTS:Nat} {sl5_PARTS:Array (Option Value)}
    (l5_PARTS:K.lookup v5_PARTS = some ⟨.type "tuple",od5_PARTS,.seq #[] z5_PARTS,sl5_PARTS⟩)
    {u6_0_PARTS:Tok} {od6_PARTS:Option Addr} {z6_PARTS:Nat} {sl6_PARTS:Array (Option Value)}
    (l6_PARTS:K.lookup v6_PARTS = some ⟨.type "tuple",od6_PARTS,.seq #[.str ⟨w_slot.toArray⟩ u6_0_PARTS] z6_PARTS,sl6_PARTS⟩)
    {u7_0_PARTS:Tok} {od7_PARTS:Option Addr} {z7_PARTS:Nat} {sl7_PARTS:Array (Option Value)}
    (l7_PARTS:K.lookup v7_PARTS = some ⟨.type "tuple",od7_PARTS,.seq #[.str ⟨w_slot.toArray⟩ u7_0_PARTS] z7_PARTS,sl7_PARTS⟩)
    {u8_0_PARTS u8_1_PARTS:Tok} {od8_PARTS:Option Addr} {z8_PARTS:Nat} {sl8_PARTS:Array (Option Value)}
    (l8_PARTS:K.lookup v8_PARTS = some ⟨.type "tuple",od8_PARTS,.seq #[.str ⟨w_op.toArray⟩ u8_0_PARTS,.str ⟨w_number.toArray⟩ u8_1_PARTS] z8_PARTS,sl8_PARTS⟩)
    {u9_0_PARTS:Tok} {od9_PARTS:Option Addr} {z9_PARTS:Nat} {sl9_PARTS:Array (Option Value)}
    (l9_PARTS:K.lookup v9_PARTS = some ⟨.type "tuple",od9_PARTS,.seq #[.str ⟨w_op.toArray⟩ u9_0_PARTS] z9_PARTS,sl9_PARTS⟩)
    {u10_0_PARTS:Tok} {od10_PARTS:Option Addr} {z10_PARTS:Nat} {sl10_PARTS:Array (Option Value)}
    (l10_PARTS:K.lookup v10_PARTS = some ⟨.type "tuple",od10_PARTS,.seq #[.str ⟨w_distance.toArray⟩ u10_0_PARTS] z10_PARTS,sl10_PARTS⟩)
    {u11_0_PARTS u11_1_PARTS u11_2_PARTS u11_3_PARTS:Tok} {od11_PARTS:Option Addr} {z11_PARTS:Nat} {sl11_PARTS:Array (Option Value)}
    (l11_PARTS:K.lookup v11_PARTS = some ⟨.type "tuple",od11_PARTS,.seq #[.str ⟨w_test.toArray⟩ u11_0_PARTS,.str ⟨w_number.toArray⟩ u11_1_PARTS,.str ⟨w_distance.toArray⟩ u11_2_PARTS,.str ⟨w_distance.toArray⟩ u11_3_PARTS] z11_PARTS,sl11_PARTS⟩)
    {u12_0_PARTS u12_1_PARTS u12_2_PARTS:Tok} {od12_PARTS:Option Addr} {z12_PARTS:Nat} {sl12_PARTS:Array (Option Value)}
    (l12_PARTS:K.lookup v12_PARTS = some ⟨.type "tuple",od12_PARTS,.seq #[.str ⟨w_test.toArray⟩ u12_0_PARTS,.str ⟨w_distance.toArray⟩ u12_1_PARTS,.str ⟨w_distance.toArray⟩ u12_2_PARTS] z12_PARTS,sl12_PARTS⟩)
    {u13_0_PARTS:Tok} {od13_PARTS:Option Addr} {z13_PARTS:Nat} {sl13_PARTS:Array (Option Value)}
    (l13_PARTS:K.lookup v13_PARTS = some ⟨.type "tuple",od13_PARTS,.seq #[.str ⟨w_number.toArray⟩ u13_0_PARTS] z13_PARTS,sl13_PARTS⟩)
    {od14_PARTS:Option Addr} {z14_PARTS:Nat} {sl14_PARTS:Array (Option Value)}
    (l14_PARTS:K.lookup v14_PARTS = some ⟨.type "tuple",od14_PARTS,.seq #[] z14_PARTS,sl14_PARTS⟩)
    {p_SIZES:Addr} {t0_SIZES t1_SIZES t2_SIZES:Tok} {od_SIZES:Option Addr} {z_SIZES:Nat} {sl_SIZES:Array (Option Value)}
    (a_SIZES:PySem.W.nsIn K mainGlobals "SIZES" = some (some (.ref p_SIZES)))
    (l_SIZES:K.lookup p_SIZES = some ⟨.type "tuple",od_SIZES,.seq #[.int 1 t0_SIZES,.int 2 t1_SIZES,.int 4 t2_SIZES] z_SIZES,sl_SIZES⟩)
    {t_SLOTS:Tok}
    (a_SLOTS:PySem.W.nsIn K mainGlobals "SLOTS" = some (some (.int 8 t_SLOTS)))
    {t_FARTHEST:Tok}
    (a_FARTHEST:PySem.W.nsIn K mainGlobals "FARTHEST" = some (some (.int 2000 t_FARTHEST)))
    {p_BASES:Addr} {t0_BASES t1_BASES:Tok} {od_BASES:Option Addr} {z_BASES:Nat} {sl_BASES:Array (Option Value)}
    (a_BASES:PySem.W.nsIn K mainGlobals "BASES" = some (some (.ref p_BASES)))
    (l_BASES:K.lookup p_BASES = some ⟨.type "tuple",od_BASES,.seq #[.str ⟨w_at.toArray⟩ t0_BASES,.str ⟨w_x.toArray⟩ t1_BASES] z_BASES,sl_BASES⟩)
    {p_OPS:Addr} {t0_OPS t1_OPS t2_OPS t3_OPS t4_OPS t5_OPS t6_OPS t7_OPS t8_OPS t9_OPS:Tok} {od_OPS:Option Addr} {z_OPS:Nat} {sl_OPS:Array (Option Value)}
    (a_OPS:PySem.W.nsIn K mainGlobals "OPS" = some (some (.ref p_OPS)))
    (l_OPS:K.lookup p_OPS = some ⟨.type "tuple",od_OPS,.seq #[.str ⟨w_plus.toArray⟩ t0_OPS,.str ⟨w_minus.toArray⟩ t1_OPS,.str ⟨w_times.toArray⟩ t2_OPS,.str ⟨w_over.toArray⟩ t3_OPS,.str ⟨w_rest.toArray⟩ t4_OPS,.str ⟨w_and.toArray⟩ t5_OPS,.str ⟨w_or.toArray⟩ t6_OPS,.str ⟨w_xor.toArray⟩ t7_OPS,.str ⟨w_left.toArray⟩ t8_OPS,.str ⟨w_right.toArray⟩ t9_OPS] z_OPS,sl_OPS⟩)
    {p_TESTS:Addr} {t0_TESTS t1_TESTS t2_TESTS t3_TESTS:Tok} {od_TESTS:Option Addr} {z_TESTS:Nat} {sl_TESTS:Array (Option Value)}
    (a_TESTS:PySem.W.nsIn K mainGlobals "TESTS" = some (some (.ref p_TESTS)))
    (l_TESTS:K.lookup p_TESTS = some ⟨.type "tuple",od_TESTS,.seq #[.str ⟨w_equal.toArray⟩ t0_TESTS,.str ⟨w_above.toArray⟩ t1_TESTS,.str ⟨w_least.toArray⟩ t2_TESTS,.str ⟨w_any.toArray⟩ t3_TESTS] z_TESTS,sl_TESTS⟩)
    {p_DIVIDING:Addr} {t0_DIVIDING t1_DIVIDING:Tok} {od_DIVIDING:Option Addr} {z_DIVIDING:Nat} {sl_DIVIDING:Array (Option Value)}
    (a_DIVIDING:PySem.W.nsIn K mainGlobals "DIVIDING" = some (some (.ref p_DIVIDING)))
    (l_DIVIDING:K.lookup p_DIVIDING = some ⟨.type "tuple",od_DIVIDING,.seq #[.str ⟨w_over.toArray⟩ t0_DIVIDING,.str ⟨w_rest.toArray⟩ t1_DIVIDING] z_DIVIDING,sl_DIVIDING⟩)
    {p_SHIFTING:Addr} {t0_SHIFTING t1_SHIFTING:Tok} {od_SHIFTING:Option Addr} {z_SHIFTING:Nat} {sl_SHIFTING:Array (Option Value)}
    (a_SHIFTING:PySem.W.nsIn K mainGlobals "SHIFTING" = some (some (.ref p_SHIFTING)))
    (l_SHIFTING:K.lookup p_SHIFTING = some ⟨.type "tuple",od_SHIFTING,.seq #[.str ⟨w_left.toArray⟩ t0_SHIFTING,.str ⟨w_right.toArray⟩ t1_SHIFTING] z_SHIFTING,sl_SHIFTING⟩)
    {t_WIDTH:Tok}
    (a_WIDTH:PySem.W.nsIn K mainGlobals "WIDTH" = some (some (.int 32 t_WIDTH)))
    {q_SieveError:Addr}
    (a_SieveError:PySem.W.nsIn K mainGlobals "SieveError" = some (some (.ref q_SieveError)))
    {q_BadLine:Addr}
    (a_BadLine:PySem.W.nsIn K mainGlobals "BadLine" = some (some (.ref q_BadLine)))
    {q_NotLetIn:Addr}
    (a_NotLetIn:PySem.W.nsIn K mainGlobals "NotLetIn" = some (some (.ref q_NotLetIn)))
    {q_BadFilter:Addr}
    (a_BadFilter:PySem.W.nsIn K mainGlobals "BadFilter" = some (some (.ref q_BadFilter)))
    {qi_BadLine:Addr} {oc_BadLine kV_BadLine dc_BadLine pm_BadLine cd_BadLine ct_BadLine:Value} {od_BadLine an_BadLine:Option Addr} {os_BadLine:Array (Option Value)}
    (i_BadLine:PySem.W.findIn K (.ref q_BadLine) "__init__" = some (some (.ref qi_BadLine)))
    (l_BadLine:K.lookup qi_BadLine = some ⟨oc_BadLine,od_BadLine,.func (PySem.W.fnOf "__init__" "BadLine.__init__" (defArgs si_BadLine) (defBody si_BadLine) (defScope si_BadLine) .none kV_BadLine dc_BadLine pm_BadLine an_BadLine cd_BadLine ct_BadLine),os_BadLine⟩)
    (c_BadLine:PySem.W.codeIn K cd_BadLine "BadLine.__init__" = true)
    (k_BadLine:PySem.W.keepIn K (.ref qi_BadLine) = true)
    (o_BadLine:ownX K q_BadLine qi_BadLine = true)
    (v_BadLine:overIn K q_BadLine = true)
    (y1_BadLine:PySem.W.findIn K (.ref q_BadLine) "__setattr__" = some (some (.builtin "object.__setattr__")))
    (y2_BadLine:PySem.W.findIn K (.ref q_BadLine) "__getattribute__" = some (some (.builtin "BaseException.__getattribute__")))
    (y3_BadLine:PySem.W.findIn K (.ref q_BadLine) "__getattr__" = some none)
    (y4_BadLine:PySem.W.hasDictIn K q_BadLine = true)
    (y5_BadLine:PySem.W.takerIn K q_BadLine "line" = some none)
    (y6_BadLine:PySem.W.findIn K (.ref q_BadLine) "line" = some none)
    (y7_BadLine:PySem.W.isFn K (.ref qi_BadLine) = true)
    (y8_BadLine:PySem.W.keepIn K (.ref q_BadLine) = true)
    (u1_SieveError:PySem.W.readsIn K q_SieveError (.type "type") = true)
    (u2_SieveError:PySem.W.findCls K (.ref q_SieveError) (.type "type") "__init__" = some (.val (.builtin "ValueError.__init__")))
    (u3_SieveError:PySem.W.specialIn K (.ref q_SieveError) "__getattribute__" = some (some (.builtin "type.__getattribute__")))
    (h1_SieveError:PySem.W.typeIn K (.ref q_SieveError) = some (.type "type"))
    (h2_SieveError:(PySem.W.clsIn K q_SieveError).isSome = true)
    (h3_SieveError:PySem.W.subIn K (.ref q_SieveError) (.type "BaseException") = some true)
    (s_BadLine_SieveError:PySem.W.subIn K (.ref q_BadLine) (.ref q_SieveError) = some true)
    (z1_BadLine:PySem.W.findIn K (.ref q_BadLine) "__class__" = some (some (.builtin "object.__class__")))
    (z2_BadLine:PySem.W.specialIn K (.builtin "object.__class__") "__get__" = some (some (.builtin "getset_descriptor.__get__")))
    (z3_BadLine:PySem.W.takesIn K (.builtin "object.__class__") = some true)
    (z4_BadLine:PySem.W.mroIn K q_BadLine (.type "object") = some true)
    (k_BadLine_BadLine:PySem.W.kitOne K (.ref q_BadLine) (.ref q_BadLine) = some true)
    (k_BadLine_ValueError:PySem.W.kitOne K (.ref q_BadLine) (.type "ValueError") = some true)
    (k_BadLine_BadFilter_NotLetIn:PySem.W.kitAny K (.ref q_BadLine) ([q_BadFilter,q_NotLetIn].map .ref) = some false)
    (d_cell:DFact K "_law_cell" s_cell)
    (d_mix:DFact K "_law_mix" s_mix)
    (d_k:DFact K "_law_k" s_k)
    (d_op:DFact K "_law_op" s_op)
    (d_step:DFact K "_law_step" s_step)
    (d_p_line_of:DFact K "line_of" s_p_line_of)
    (d_p_written:DFact K "written" s_p_written)
    (d_p_is_whole:DFact K "is_whole" s_p_is_whole)
    (d_p_is_number:DFact K "is_number" s_p_is_number)
    (d_p_number_of:DFact K "number_of" s_p_number_of)
    (d_p_part_of:DFact K "part_of" s_p_part_of)
    (d_p_is_part:DFact K "is_part" s_p_is_part)
    (d_p_can_be_done_by:DFact K "can_be_done_by" s_p_can_be_done_by)
    (d_p_is_step:DFact K "is_step" s_p_is_step)
    (d_p_step_of:DFact K "step_of" s_p_step_of)
    (d_p_read_code:DFact K "read_code" s_p_read_code)
    (d_read:DFact K "_law_read" s_read)
    (d_law:DFact K "law" s_law):Tx w K mg :=
  ⟨PySem.W.mg_none_of KX G n_len,
   PySem.W.mg_none_of KX G n_range,
   PySem.W.mg_none_of KX G n_max,
   PySem.W.mg_none_of KX G n_str,
   PySem.W.mg_none_of KX G n_list,
   PySem.W.mg_none_of KX G n_isinstance,
   PySem.W.mg_none_of KX G n_int,
   PySem.W.mg_none_of KX G n_bool,
   PySem.W.mg_none_of KX G n_tuple,
   PySem.W.mg_none_of KX G n_zip,
   PySem.W.mg_none_of KX G n_all,
   PySem.W.mg_none_of KX G n_ValueError,
   const_int KX G a_MOST_FIGURES,
   const_int KX G a_ROUND,
   dict_mk [(w_load,k0_PARTS,v0_PARTS),(w_len,k1_PARTS,v1_PARTS),(w_set,k2_PARTS,v2_PARTS),(w_setx,k3_PARTS,v3_PARTS),(w_tax,k4_PARTS,v4_PARTS),(w_txa,k5_PARTS,v5_PARTS),(w_keep,k6_PARTS,v6_PARTS),(w_fetch,k7_PARTS,v7_PARTS),(w_do,k8_PARTS,v8_PARTS),(w_dox,k9_PARTS,v9_PARTS),(w_jump,k10_PARTS,v10_PARTS),(w_if,k11_PARTS,v11_PARTS),(w_ifx,k12_PARTS,v12_PARTS),(w_tell,k13_PARTS,v13_PARTS),(w_tella,k14_PARTS,v14_PARTS)] KX G a_PARTS l_PARTS h_PARTS (show ([w_load,w_len,w_set,w_setx,w_tax,w_txa,w_keep,w_fetch,w_do,w_dox,w_jump,w_if,w_ifx,w_tell,w_tella]:List (List Nat)).Nodup by decide) rfl (fun F α => (reps_cons (rep_tupK (vs:=[.str ⟨w_size.toArray⟩,.str ⟨w_base.toArray⟩,.str ⟨w_number.toArray⟩]) l0_PARTS (by show 3 ≤ 16777216; decide) (.cons ⟨_,rfl⟩ (.cons ⟨_,rfl⟩ (.cons ⟨_,rfl⟩ .nil))) (reps_cons (by unfold Rep; rfl) (reps_cons (by unfold Rep; rfl) (reps_cons (by unfold Rep; rfl) reps_nil)))) (reps_cons (rep_tupK (vs:=[]) l1_PARTS (by show 0 ≤ 16777216; decide) .nil reps_nil) (reps_cons (rep_tupK (vs:=[.str ⟨w_number.toArray⟩]) l2_PARTS (by show 1 ≤ 16777216; decide) (.cons ⟨_,rfl⟩ .nil) (reps_cons (by unfold Rep; rfl) reps_nil)) (reps_cons (rep_tupK (vs:=[.str ⟨w_number.toArray⟩]) l3_PARTS (by show 1 ≤ 16777216; decide) (.cons ⟨_,rfl⟩ .nil) (reps_cons (by unfold Rep; rfl) reps_nil)) (reps_cons (rep_tupK (vs:=[]) l4_PARTS (by show 0 ≤ 16777216; decide) .nil reps_nil) (reps_cons (rep_tupK (vs:=[]) l5_PARTS (by show 0 ≤ 16777216; decide) .nil reps_nil) (reps_cons (rep_tupK (vs:=[.str ⟨w_slot.toArray⟩]) l6_PARTS (by show 1 ≤ 16777216; decide) (.cons ⟨_,rfl⟩ .nil) (reps_cons (by unfold Rep; rfl) reps_nil)) (reps_cons (rep_tupK (vs:=[.str ⟨w_slot.toArray⟩]) l7_PARTS (by show 1 ≤ 16777216; decide) (.cons ⟨_,rfl⟩ .nil) (reps_cons (by unfold Rep; rfl) reps_nil)) (reps_cons (rep_tupK (vs:=[.str ⟨w_op.toArray⟩,.str ⟨w_number.toArray⟩]) l8_PARTS (by show 2 ≤ 16777216; decide) (.cons ⟨_,rfl⟩ (.cons ⟨_,rfl⟩ .nil)) (reps_cons (by unfold Rep; rfl) (reps_cons (by unfold Rep; rfl) reps_nil))) (reps_cons (rep_tupK (vs:=[.str ⟨w_op.toArray⟩]) l9_PARTS (by show 1 ≤ 16777216; decide) (.cons ⟨_,rfl⟩ .nil) (reps_cons (by unfold Rep; rfl) reps_nil)) (reps_cons (rep_tupK (vs:=[.str ⟨w_distance.toArray⟩]) l10_PARTS (by show 1 ≤ 16777216; decide) (.cons ⟨_,rfl⟩ .nil) (reps_cons (by unfold Rep; rfl) reps_nil)) (reps_cons (rep_tupK (vs:=[.str ⟨w_test.toArray⟩,.str ⟨w_number.toArray⟩,.str ⟨w_distance.toArray⟩,.str ⟨w_distance.toArray⟩]) l11_PARTS (by show 4 ≤ 16777216; decide) (.cons ⟨_,rfl⟩ (.cons ⟨_,rfl⟩ (.cons ⟨_,rfl⟩ (.cons ⟨_,rfl⟩ .nil)))) (reps_cons (by unfold Rep; rfl) (reps_cons (by unfold Rep; rfl) (reps_cons (by unfold Rep; rfl) (reps_cons (by unfold Rep; rfl) reps_nil))))) (reps_cons (rep_tupK (vs:=[.str ⟨w_test.toArray⟩,.str ⟨w_distance.toArray⟩,.str ⟨w_distance.toArray⟩]) l12_PARTS (by show 3 ≤ 16777216; decide) (.cons ⟨_,rfl⟩ (.cons ⟨_,rfl⟩ (.cons ⟨_,rfl⟩ .nil))) (reps_cons (by unfold Rep; rfl) (reps_cons (by unfold Rep; rfl) (reps_cons (by unfold Rep; rfl) reps_nil)))) (reps_cons (rep_tupK (vs:=[.str ⟨w_number.toArray⟩]) l13_PARTS (by show 1 ≤ 16777216; decide) (.cons ⟨_,rfl⟩ .nil) (reps_cons (by unfold Rep; rfl) reps_nil)) (reps_cons (rep_tupK (vs:=[]) l14_PARTS (by show 0 ≤ 16777216; decide) .nil reps_nil) reps_nil)))))))))))))))),
   const_tup (vs:=[.int 1,.int 2,.int 4]) KX G a_SIZES l_SIZES (by show 3 ≤ 16777216; decide) (.cons ⟨_,rfl⟩ (.cons ⟨_,rfl⟩ (.cons ⟨_,rfl⟩ .nil))) (fun F α => (reps_cons (by unfold Rep; rfl) (reps_cons (by unfold Rep; rfl) (reps_cons (by unfold Rep; rfl) reps_nil)))),
   const_int KX G a_SLOTS,
   const_int KX G a_FARTHEST,
   const_tup (vs:=[.str ⟨w_at.toArray⟩,.str ⟨w_x.toArray⟩]) KX G a_BASES l_BASES (by show 2 ≤ 16777216; decide) (.cons ⟨_,rfl⟩ (.cons ⟨_,rfl⟩ .nil)) (fun F α => (reps_cons (by unfold Rep; rfl) (reps_cons (by unfold Rep; rfl) reps_nil))),
   const_tup (vs:=[.str ⟨w_plus.toArray⟩,.str ⟨w_minus.toArray⟩,.str ⟨w_times.toArray⟩,.str ⟨w_over.toArray⟩,.str ⟨w_rest.toArray⟩,.str ⟨w_and.toArray⟩,.str ⟨w_or.toArray⟩,.str ⟨w_xor.toArray⟩,.str ⟨w_left.toArray⟩,.str ⟨w_right.toArray⟩]) KX G a_OPS l_OPS (by show 10 ≤ 16777216; decide) (.cons ⟨_,rfl⟩ (.cons ⟨_,rfl⟩ (.cons ⟨_,rfl⟩ (.cons ⟨_,rfl⟩ (.cons ⟨_,rfl⟩ (.cons ⟨_,rfl⟩ (.cons ⟨_,rfl⟩ (.cons ⟨_,rfl⟩ (.cons ⟨_,rfl⟩ (.cons ⟨_,rfl⟩ .nil)))))))))) (fun F α => (reps_cons (by unfold Rep; rfl) (reps_cons (by unfold Rep; rfl) (reps_cons (by unfold Rep; rfl) (reps_cons (by unfold Rep; rfl) (reps_cons (by unfold Rep; rfl) (reps_cons (by unfold Rep; rfl) (reps_cons (by unfold Rep; rfl) (reps_cons (by unfold Rep; rfl) (reps_cons (by unfold Rep; rfl) (reps_cons (by unfold Rep; rfl) reps_nil))))))))))),
   const_tup (vs:=[.str ⟨w_equal.toArray⟩,.str ⟨w_above.toArray⟩,.str ⟨w_least.toArray⟩,.str ⟨w_any.toArray⟩]) KX G a_TESTS l_TESTS (by show 4 ≤ 16777216; decide) (.cons ⟨_,rfl⟩ (.cons ⟨_,rfl⟩ (.cons ⟨_,rfl⟩ (.cons ⟨_,rfl⟩ .nil)))) (fun F α => (reps_cons (by unfold Rep; rfl) (reps_cons (by unfold Rep; rfl) (reps_cons (by unfold Rep; rfl) (reps_cons (by unfold Rep; rfl) reps_nil))))),
   const_tup (vs:=[.str ⟨w_over.toArray⟩,.str ⟨w_rest.toArray⟩]) KX G a_DIVIDING l_DIVIDING (by show 2 ≤ 16777216; decide) (.cons ⟨_,rfl⟩ (.cons ⟨_,rfl⟩ .nil)) (fun F α => (reps_cons (by unfold Rep; rfl) (reps_cons (by unfold Rep; rfl) reps_nil))),
   const_tup (vs:=[.str ⟨w_left.toArray⟩,.str ⟨w_right.toArray⟩]) KX G a_SHIFTING l_SHIFTING (by show 2 ≤ 16777216; decide) (.cons ⟨_,rfl⟩ (.cons ⟨_,rfl⟩ .nil)) (fun F α => (reps_cons (by unfold Rep; rfl) (reps_cons (by unfold Rep; rfl) reps_nil))),
   const_int KX G a_WIDTH,
   (by show mg _ = _; rw [cA_of a_SieveError]; exact PySem.W.mg_of KX G a_SieveError),
   (by show mg _ = _; rw [cA_of a_BadLine]; exact PySem.W.mg_of KX G a_BadLine),
   (by show mg _ = _; rw [cA_of a_NotLetIn]; exact PySem.W.mg_of KX G a_NotLetIn),
   (by show mg _ = _; rw [cA_of a_BadFilter]; exact PySem.W.mg_of KX G a_BadFilter),
   ⟨qi_BadLine,_,by rw [cA_of a_BadLine]; exact PySem.W.mg_of KX G a_BadLine,by rw [cA_of a_BadLine]; exact ⟨o_BadLine,v_BadLine,y1_BadLine,y2_BadLine,y3_BadLine,y4_BadLine,y5_BadLine,y6_BadLine,y7_BadLine,y8_BadLine⟩,fun_mk (st:=si_BadLine) l_BadLine c_BadLine k_BadLine,fun us hl => by obtain ⟨_,_,rfl⟩:=len_2 hl; rfl⟩,
   (by rw [cA_of a_SieveError]; exact ⟨u1_SieveError,u2_SieveError,u3_SieveError⟩),
   ⟨by rw [cA_of a_SieveError]; exact PySem.W.mg_of KX G a_SieveError,by rw [cA_of a_SieveError]; exact ⟨h1_SieveError,h2_SieveError,h3_SieveError⟩⟩,
   (by rw [cA_of a_BadLine,cA_of a_SieveError]; exact s_BadLine_SieveError),
   (by rw [cA_of a_BadLine]; exact ⟨v_BadLine,y2_BadLine,y3_BadLine,y4_BadLine,z1_BadLine,z2_BadLine,z3_BadLine,z4_BadLine⟩),
   (by rw [cA_of a_BadLine]; exact y6_BadLine),
   (by rw [cA_of a_BadLine]; exact k_BadLine_BadLine),
   (by rw [cA_of a_BadLine]; exact k_BadLine_ValueError),
   (by rw [cA_of a_BadLine,cA_of a_BadFilter,cA_of a_NotLetIn]; exact k_BadLine_BadFilter_NotLetIn),
   def_of KX G d_cell (fun _ _ _ _ _ _ _ _ => by walk_at "bs"),
   def_of KX G d_mix (fun _ _ _ _ _ _ _ _ => by walk_at "bs"),
   def_of KX G d_k (fun _ _ _ _ _ _ _ _ => by walk_at "bs"),
   def_of KX G d_op (fun _ _ _ _ _ _ _ _ => by walk_at "bs"),
   def_of KX G d_step (fun _ _ _ _ _ _ _ _ => by walk_at "bs"),
   def_of KX G d_p_line_of (fun _ _ _ _ _ _ _ _ => by walk_at "bs"),
   def_of KX G d_p_written (fun _ _ _ _ _ _ _ _ => by walk_at "bs"),
   def_of KX G d_p_is_whole (fun _ _ _ _ _ _ _ _ => by walk_at "bs"),
   def_of KX G d_p_is_number (fun _ _ _ _ _ _ _ _ => by walk_at "bs"),
   def_of KX G d_p_number_of (fun _ _ _ _ _ _ _ _ => by walk_at "bs"),
   def_of KX G d_p_part_of (fun _ _ _ _ _ _ _ _ => by walk_at "bs"),
   def_of KX G d_p_is_part (fun _ _ _ _ _ _ _ _ => by walk_at "bs"),
   def_of KX G d_p_can_be_done_by (fun _ _ _ _ _ _ _ _ => by walk_at "bs"),
   def_of KX G d_p_is_step (fun _ _ _ _ _ _ _ _ => by walk_at "bs"),
   def_of KX G d_p_step_of (fun _ _ _ _ _ _ _ _ => by walk_at "bs"),
   def_of KX G d_p_read_code (fun _ _ _ _ _ _ _ _ => by walk_at "bs"),
   def_of KX G d_read (fun _ _ _ _ _ _ _ _ => by walk_at "bs"),
   def_of KX G d_law (fun _ _ _ _ _ _ _ _ => by walk_at "bs")⟩
end
end K40
set_option Elab.async false
set_option linter.all false
set_option maxRecDepth 100000
set_option maxHeartbeats 400000
namespace K40
open PySem PySem.Spec PyProof.Rows L2 M NumText
noncomputable def jn (c:Nat):List (List Nat) → List Nat
  | [] => []
  | [x] => x
  | x :: y :: r => x ++ c :: jn c (y :: r)
theorem join_cps (s:Str):∀ ws:List (List Nat),∀ x,(Str.join s (mkS x :: ws.map mkS)).cps.toList = x ++ (ws.map fun w => s.cps.toList ++ w).flatten
  | [],x => by simp [Str.join]
  | y :: r,x => by
    show (mkS x ++ s ++ Str.join s (mkS y :: r.map mkS)).cps.toList = _
    have:=join_cps s r y
    show ((mkS x).cps ++ s.cps ++ (Str.join s (mkS y :: r.map mkS)).cps).toList = _
    simp [this]
theorem join_eq (s:Str) (ws:List (List Nat)):Txt.join s (ws.map mkS) = Str.join s (ws.map mkS):=StrLaws.glued_eq_join s _
theorem jn_flat (c:Nat):∀ ws:List (List Nat),∀ x,jn c (x :: ws) = x ++ (ws.map fun w => [c] ++ w).flatten
  | [],x => by simp [jn]
  | y :: r,x => by simp [jn,jn_flat c r y]
theorem jn_join (c:Nat) (ws:List (List Nat)):(Txt.join (mkS [c]) (ws.map mkS)).cps.toList = jn c ws:=by
  rw [join_eq]
  cases ws with
  | nil => rfl
  | cons x r => rw [List.map_cons,join_cps,jn_flat]
theorem cat_join (ws:List (List Nat)):(Txt.join (mkS []) (ws.map mkS)).cps.toList = ws.flatten:=by
  rw [join_eq]
  cases ws with
  | nil => rfl
  | cons x r => rw [List.map_cons,join_cps]; simp
theorem app_inj {c:Nat}:∀ {x y R S:List Nat},c ∉ x → c ∉ y → x ++ c :: R = y ++ c :: S → x = y ∧ R = S
  | [],[],R,S,_,_,e => ⟨rfl,by simpa using e⟩
  | [],b :: y,R,S,_,h,e => by
    simp only [List.nil_append,List.cons_append,List.cons.injEq] at e
    exact absurd (e.1 ▸ List.mem_cons_self) h
  | a :: x,[],R,S,h,_,e => by
    simp only [List.nil_append,List.cons_append,List.cons.injEq] at e
    exact absurd (e.1 ▸ List.mem_cons_self) h
  | a :: x,b :: y,R,S,h1,h2,e => by
    simp only [List.cons_append,List.cons.injEq] at e
    obtain ⟨e1,e2⟩:=app_inj (fun z => h1 (List.mem_cons_of_mem _ z)) (fun z => h2 (List.mem_cons_of_mem _ z)) e.2
    exact ⟨by rw [e.1,e1],e2⟩
theorem jn_inj {c:Nat}:∀ {as bs:List (List Nat)},as ≠ [] → bs ≠ [] → (∀ a ∈ as,c ∉ a) → (∀ b ∈ bs,c ∉ b) → jn c as = jn c bs → as = bs
  | [],_,h,_,_,_,_ => absurd rfl h
  | _,[],_,h,_,_,_ => absurd rfl h
  | [x],[y],_,_,_,_,e => by rw [show x = y from e]
  | [x],y :: z :: r,_,_,h,_,e => by
    have e:x = y ++ c :: jn c (z :: r):=e
    exact absurd (show c ∈ x by rw [e]; simp) (h x List.mem_cons_self)
  | x :: z :: r,[y],_,_,_,h,e => by
    have e:x ++ c :: jn c (z :: r) = y:=e
    exact absurd (show c ∈ y by rw [← e]; simp) (h y List.mem_cons_self)
  | x :: z :: r,y :: w :: s,_,_,h1,h2,e => by
    obtain ⟨e1,e2⟩:=app_inj (h1 x List.mem_cons_self) (h2 y List.mem_cons_self) e
    rw [e1,jn_inj (by simp) (by simp) (fun a ha => h1 a (List.mem_cons_of_mem _ ha)) (fun a ha => h2 a (List.mem_cons_of_mem _ ha)) e2]
theorem split_jn {c:Nat} {ws:List (List Nat)} (hn:ws ≠ []) (hf:∀ w ∈ ws,c ∉ w):(Txt.split (mkS (jn c ws)) (mkS [c])).map (fun t => t.cps.toList) = ws:=by
  have hS:((Txt.split (mkS (jn c ws)) (mkS [c])).map (fun t => t.cps.toList)).map mkS = Txt.split (mkS (jn c ws)) (mkS [c]):=by
    rw [List.map_map]
    exact List.map_id'' (fun t => by cases t; simp [mkS]) _
  refine jn_inj (c:=c) ?_ hn ?_ hf ?_
  · intro e
    have:=split_pos (mkS (jn c ws)) (mkS [c])
    rw [List.map_eq_nil_iff.mp e] at this
    cases this
  · intro a ha
    obtain ⟨p,hp,rfl⟩:=List.mem_map.mp ha
    exact StrLaws.split_free (mkS (jn c ws)) c p hp
  · rw [← jn_join,hS]
    show (Txt.join _ _).cps.toList = _
    rw [show Txt.join (mkS [c]) (Txt.split (mkS (jn c ws)) (mkS [c])) = Str.join (mkS [c]) (Txt.split (mkS (jn c ws)) (mkS [c])) from StrLaws.glued_eq_join _ _,StrLaws.join_split]
noncomputable def wt (ws:List (List Nat)):Nat:=(ws.map List.length).sum + ws.length
theorem jn_len (c:Nat):∀ ws:List (List Nat),(jn c ws).length ≤ wt ws
  | [] => Nat.zero_le _
  | [x] => by simp [jn,wt]
  | x :: y :: r => by
    have:=jn_len c (y :: r)
    simp only [jn,wt,List.map_cons,List.sum_cons,List.length_append,List.length_cons] at this ⊢
    omega
theorem txts (ws:List (List Nat)):txtsOf (ws.map .str) = some ws:=by
  induction ws with
  | nil => rfl
  | cons x r ih => simp [txtsOf,ih]
theorem join_ok {x:List Nat} {ws:List (List Nat)} (hw:wt ws ≤ 1048576) (hs:x.length ≤ 16):JoinOk (mkS x) (ws.map mkS) = true:=by
  refine joinOk_of_weight ?_ (by simpa [Str.length] using hs)
  rw [List.map_map,List.length_map]
  exact hw
theorem g_join {c:Nat} {ws:List (List Nat)} (hw:wt ws ≤ 1048576):gJoin (.str [c]) [.lst (ws.map .str)] = some (.str (jn c ws)):=by
  unfold gJoin
  simp only [txts,Option.bind_some,join_ok hw (show [c].length ≤ 16 by simp),if_true,jn_join]
theorem g_cat {ws:List (List Nat)} (hw:wt ws ≤ 1048576):gJoin (.str []) [.lst (ws.map .str)] = some (.str ws.flatten):=by
  unfold gJoin
  simp only [txts,Option.bind_some,join_ok hw (show ([]:List Nat).length ≤ 16 by simp),if_true,cat_join]
theorem g_split {c:Nat} {ws:List (List Nat)} (hn:ws ≠ []) (hf:∀ w ∈ ws,c ∉ w) (hw:wt ws ≤ 1048576):gSplit (.str (jn c ws)) [.str [c]] = some (.lst (ws.map .str)):=by
  have h1:=jn_len c ws
  have e:=split_jn hn hf
  have h2:(Txt.split (mkS (jn c ws)) (mkS [c])).length = ws.length:=by have:=congrArg List.length e; simpa using this
  have h3:ws.length ≤ wt ws:=Nat.le_add_left _ _
  unfold gSplit
  simp only
  rw [if_pos ⟨rfl,by omega,by omega⟩]
  have:(Txt.split (mkS (jn c ws)) (mkS [c])).map (fun t => D.str t.cps.toList) = ((Txt.split (mkS (jn c ws)) (mkS [c])).map fun t => t.cps.toList).map .str:=by rw [List.map_map]; rfl
  rw [this,e]
noncomputable def dgt (n:Nat):List Nat:=(Nat.toDigits 10 n).map Char.toNat
theorem dgt_lt {n:Nat} (h:n < 10):dgt n = [(Nat.digitChar n).toNat]:=by unfold dgt; rw [Nat.toDigits_of_lt_base h]; rfl
theorem dgt_snoc {v d:Nat} (hv:0 < v) (hd:d < 10):dgt (10 * v + d) = dgt v ++ dgt d:=by
  unfold dgt
  rw [← Nat.toDigits_append_toDigits (by decide) hv hd,List.map_append]
theorem dig1:∀ d < 10,(Nat.digitChar d).toNat = d + 48:=by decide
theorem dgt_all (n:Nat):∀ c ∈ dgt n,48 ≤ c ∧ c ≤ 57:=by
  intro c hc
  obtain ⟨ch,hch,e⟩:=List.mem_map.mp hc
  have r:=digit_range (Nat.isDigit_of_mem_toDigits (by decide) (by decide) hch)
  rw [← e]
  exact r
theorem dgt_head (n:Nat):∃ c r,dgt n = c :: r ∧ (c = 48 → n = 0):=by
  induction n using Nat.strongRecOn with
  | _ n ih =>
    by_cases h:n < 10
    · refine ⟨_,_,dgt_lt h,fun e => ?_⟩
      have:=dig1 n h
      omega
    · obtain ⟨c,r,e1,e2⟩:=ih (n / 10) (by omega)
      have:=dgt_snoc (v:=n / 10) (d:=n % 10) (by omega) (by omega)
      rw [Nat.div_add_mod,e1] at this
      exact ⟨c,_,this,fun e => by have:=e2 e; omega⟩
theorem dgt_one {n:Nat} (h:(dgt n).head? = some 48):dgt n = [48]:=by
  obtain ⟨c,r,e1,e2⟩:=dgt_head n
  rw [e1] at h
  rw [e2 (by simpa using h)]
  rfl
theorem dgt_val (n:Nat):digitsVal (dgt n) = n:=PySem.W.KIN.val_back n
theorem val_snoc (y:List Nat) (d:Nat):digitsVal (y ++ [d]) = 10 * digitsVal y + (d - 48):=by unfold digitsVal; rw [List.foldl_append]; show _ * 10 + _ = _; omega
theorem dgt_inv {x:List Nat} (hx:∀ c ∈ x,48 ≤ c ∧ c ≤ 57) (hn:x ≠ []) (hz:x.head? = some 48 → x = [48]):dgt (digitsVal x) = x:=by
  generalize hl:x.length = l
  induction l generalizing x with
  | zero => exact absurd (List.length_eq_zero_iff.mp hl) hn
  | succ l ih =>
    obtain ⟨y,d,rfl⟩:∃ y d,x = y ++ [d]:=⟨x.dropLast,x.getLast hn,(List.dropLast_concat_getLast hn).symm⟩
    have hd:=hx d (by simp)
    rw [val_snoc]
    by_cases hy:y = []
    · subst hy
      show dgt (10 * 0 + (d - 48)) = [d]
      rw [Nat.mul_zero,Nat.zero_add,dgt_lt (by omega),dig1 _ (by omega),Nat.sub_add_cancel hd.1]
    · have h48:y.head? ≠ some 48:=fun e => by
        have:=hz (by cases y with
          | nil => exact absurd rfl hy
          | cons a b => simpa using e)
        have:=congrArg List.length this
        simp at this
        exact hy this
      have e:=ih (x:=y) (fun c hc => hx c (by simp [hc])) hy (fun e => absurd e h48) (by simpa using hl)
      have hv:0 < digitsVal y:=by
        rcases Nat.eq_zero_or_pos (digitsVal y) with z | z
        · rw [z] at e
          rw [← e] at h48
          exact absurd rfl h48
        · exact z
      rw [dgt_snoc hv (by omega),e,dgt_lt (by omega),dig1 _ (by omega),Nat.sub_add_cancel hd.1]
end K40
set_option Elab.async false
set_option linter.all false
set_option maxRecDepth 100000
set_option maxHeartbeats 4000000
namespace K40
open PySem PySem.Spec PyProof.Rows L2 M
noncomputable def opL:List (List Nat):=[w_plus,w_minus,w_times,w_over,w_rest,w_and,w_or,w_xor,w_left,w_right]
noncomputable def tsL:List (List Nat):=[w_equal,w_above,w_least,w_any]
noncomputable def atx:List (List Nat):=[w_at,w_x]
noncomputable def cell (ns:List Int) (k:Nat):Int:=if ns = [] then 0 else ns.getD (k % ns.length) 0
noncomputable def sc (ns:List Int):D:=.lst (ns.map .int)
theorem cell_eq (ns:List Int) (k:Nat) (μ:Mu):f_cell [sc ns,.int k] μ = .ok (.int (cell ns k)) μ:=by
  cases ns with
  | nil => rfl
  | cons n r =>
    refine v_fn 0 (v_take rfl (v_bin rfl (v_bin rfl (v_callB (d:=.int (List.map D.int (n :: r)).length) rfl rfl) (g_mod _ _ ?_)) ?_))
    · rw [List.length_map,List.length_cons]; omega
    · show atI ((n :: r).map D.int) ((k:Int) % ((List.map D.int (n :: r)).length:Nat)) = _
      rw [atI_pos (Int.emod_nonneg _ (by rw [List.length_map,List.length_cons]; omega))]
      have e2:((k:Int) % ((List.map D.int (n :: r)).length:Nat)).toNat = k % (n :: r).length:=by
        rw [List.length_map]
        omega
      have hk:k % (n :: r).length < (n :: r).length:=Nat.mod_lt _ (by simp)
      rw [e2,List.getElem?_map,List.getElem?_eq_getElem hk]
      simp only [cell,reduceCtorEq,if_false,Option.map_some]
      rw [List.getD_eq_getElem?_getD,List.getElem?_eq_getElem hk]
      rfl
noncomputable def mixv (c:Int) (k:Nat):Int:=(c + 104729 * ((k:Int) + 1)) % 4294967291 * 48271 % 4294967279
noncomputable def mix (ns:List Int) (k:Nat):Int:=(mixv (cell ns k) k / 64 * 69621 + mixv (cell ns k) k) % 4294967231
theorem mix_eq (ns:List Int) (k:Nat) (μ:Mu):f_mix [sc ns,.int k] μ = .ok (.int (mix ns k)) μ:=by
  refine v_fn 1 ((v_set 2 (d:=.int ((cell ns k + 104729 * ((k:Int) + 1)) % 4294967291)) (v_bin (v_bin (v_call rfl (cell_eq ns k μ)) (v_bin rfl (v_bin rfl rfl rfl) (g_mulL _ _ (by decide) (by decide))) rfl) rfl (g_mod _ _ (by decide)))).trans
    ((v_set 2 (d:=.int (mixv (cell ns k) k)) (v_bin (v_bin rfl rfl (g_mulR _ _ (by decide) (by decide))) rfl (g_mod _ _ (by decide)))).trans (v_ret ?_)))
  exact v_bin (x:=.int (mixv (cell ns k) k / 64 * 69621 + mixv (cell ns k) k)) (v_bin (x:=.int (mixv (cell ns k) k / 64 * 69621)) (v_bin (x:=.int (mixv (cell ns k) k / 64)) (v_bin (x:=.int (mixv (cell ns k) k)) rfl rfl (g_div _ _ (by decide) (by decide))) rfl (g_mulR _ _ (by decide) (by decide))) rfl rfl) rfl (g_mod _ _ (by decide))
theorem mix_lo (ns:List Int) (k:Nat):0 ≤ mix ns k:=Int.emod_nonneg _ (by decide)
noncomputable def kL:List Int:=[0,1,2,7,31,32,255,256,65535,2147483648,4294967295,12]
noncomputable def kv (n:Int):Int:=if n % 4 > 0 then kL.getD (n / 4 % 12).toNat 0 else n / 4 % 4294967296
theorem kL_all:∀ i < 12,0 ≤ kL.getD i 0 ∧ kL.getD i 0 < 4294967296:=by decide
theorem kv_lo (n:Int):0 ≤ kv n:=by
  unfold kv
  split
  · exact (kL_all _ (by omega)).1
  · omega
theorem kv_hi (n:Int):kv n < 4294967296:=by
  unfold kv
  split
  · exact (kL_all _ (by omega)).2
  · omega
theorem k_eq (n:Int) (μ:Mu):f_k [.int n] μ = .ok (.int (kv n)) μ:=by
  have t1:∀ ρ:En,ρ[0]? = some (some (.int n)) → mTest (mBin gGt (mBin gMod (mVar 0) (mC (.int 4))) (mC (.int 0))) ρ μ = .ok (decide (0 < n % 4)) μ:=fun ρ h => v_test (v_bin (v_bin (v_var 0 h) rfl (g_mod _ _ (by decide))) rfl rfl)
  have hk:(n / 4 % 12).toNat < kL.length:=by show _ < 12; omega
  refine v_fn 1 ((v_set 1 (d:=.lst (kL.map .int)) rfl).trans (v_ret ?_))
  unfold kv
  by_cases h:n % 4 > 0
  · have t1:=t1 [some (.int n),some (.lst (kL.map .int))] rfl
    rw [decide_eq_true h] at t1
    rw [if_pos h]
    refine (v_ifT t1).trans (v_bin rfl (v_bin (v_bin rfl rfl (g_div _ _ (by decide) (by decide))) rfl (g_mod _ _ (by decide))) ?_)
    show atI (kL.map D.int) (n / 4 % 12) = _
    rw [atI_pos (by omega),List.getElem?_map,List.getElem?_eq_getElem hk,List.getD_eq_getElem?_getD,List.getElem?_eq_getElem hk]
    rfl
  · have t1:=t1 [some (.int n),some (.lst (kL.map .int))] rfl
    rw [decide_eq_false h] at t1
    rw [if_neg h]
    exact (v_ifF t1).trans (v_bin (v_bin rfl rfl (g_div _ _ (by decide) (by decide))) rfl (g_mod _ _ (by decide)))
noncomputable def opw (n:Int):List Nat:=opL.getD (n % 10).toNat []
theorem opw_mem (n:Int):opw n ∈ opL:=by
  unfold opw
  have hk:(n % 10).toNat < opL.length:=by show _ < 10; omega
  rw [List.getD_eq_getElem?_getD,List.getElem?_eq_getElem hk]
  exact List.getElem_mem hk
theorem op_eq (n:Int) (μ:Mu):f_op [.int n] μ = .ok (.str (opw n)) μ:=by
  have hk:(n % 10).toNat < opL.length:=by show _ < 10; omega
  refine v_fn 0 (v_ret (v_bin (x:=.lst (opL.map .str)) rfl (v_bin rfl rfl (g_mod _ _ (by decide))) ?_))
  show atI (opL.map D.str) (n % 10) = _
  unfold opw
  rw [atI_pos (by omega),List.getElem?_map,List.getElem?_eq_getElem hk,List.getD_eq_getElem?_getD,List.getElem?_eq_getElem hk]
  rfl
inductive Kd | num | size | slot | dist | base | op | test
noncomputable def Kd.w:Kd → List Nat
  | .num => w_number
  | .size => w_size
  | .slot => w_slot
  | .dist => w_distance
  | .base => w_base
  | .op => w_op
  | .test => w_test
theorem ch_lt (i j:Int) (ρ:En) (μ:Mu) (ma mb mc:MX) (h1:ma ρ μ = .ok (.int 0) μ) (h2:mb ρ μ = .ok (.int i) μ) (h3:mc ρ μ = .ok (.int j) μ):mChain gLe gLt ma mb mc ρ μ = .ok (.bl (decide (0 ≤ i) && decide (i < j))) μ:=by
  rw [e_ch,h1,bind_ok,e_ch1,h2,bind_ok,e_ch2,deref_int,deref_int,g_le]
  by_cases h:0 ≤ i
  · simp only [h,decide_true,Bool.true_and,Option.bind_some]
    show Res.bind (.ok true μ) _ = _
    rw [bind_ok,e_ch3t,h3,bind_ok]
    rfl
  · simp only [h,decide_false,Bool.false_and]
    rfl
theorem ch_le (i j:Int) (ρ:En) (μ:Mu) (ma mb mc:MX) (h1:ma ρ μ = .ok (.int 0) μ) (h2:mb ρ μ = .ok (.int i) μ) (h3:mc ρ μ = .ok (.int j) μ):mChain gLe gLe ma mb mc ρ μ = .ok (.bl (decide (0 ≤ i) && decide (i ≤ j))) μ:=by
  rw [e_ch,h1,bind_ok,e_ch1,h2,bind_ok,e_ch2,deref_int,deref_int,g_le]
  by_cases h:0 ≤ i
  · simp only [h,decide_true,Bool.true_and,Option.bind_some]
    show Res.bind (.ok true μ) _ = _
    rw [bind_ok,e_ch3t,h3,bind_ok]
    rfl
  · simp only [h,decide_false,Bool.false_and]
    rfl
inductive PlK:Kd → D → Prop
  | num {i:Int}:0 ≤ i → i < 4294967296 → PlK .num (.int i)
  | size {i:Int}:i = 1 ∨ i = 2 ∨ i = 4 → PlK .size (.int i)
  | slot {i:Int}:0 ≤ i → i < 8 → PlK .slot (.int i)
  | dist {i:Int}:0 ≤ i → i ≤ 2000 → PlK .dist (.int i)
  | base {x:List Nat}:x ∈ atx → PlK .base (.str x)
  | op {x:List Nat}:x ∈ opL → PlK .op (.str x)
  | test {x:List Nat}:x ∈ tsL → PlK .test (.str x)
theorem op_all {P:List Nat → Prop} (h:P w_plus ∧ P w_minus ∧ P w_times ∧ P w_over ∧ P w_rest ∧ P w_and ∧ P w_or ∧ P w_xor ∧ P w_left ∧ P w_right):∀ x ∈ opL,P x:=by
  intro x hx
  simp only [opL,List.mem_cons,List.not_mem_nil,or_false] at hx
  obtain ⟨h1,h2,h3,h4,h5,h6,h7,h8,h9,h10⟩:=h
  rcases hx with rfl | rfl | rfl | rfl | rfl | rfl | rfl | rfl | rfl | rfl <;> assumption
theorem ts_all {P:List Nat → Prop} (h:P w_equal ∧ P w_above ∧ P w_least ∧ P w_any):∀ x ∈ tsL,P x:=by
  intro x hx
  simp only [tsL,List.mem_cons,List.not_mem_nil,or_false] at hx
  obtain ⟨h1,h2,h3,h4⟩:=h
  rcases hx with rfl | rfl | rfl | rfl <;> assumption
theorem at_all {P:List Nat → Prop} (h:P w_at ∧ P w_x):∀ x ∈ atx,P x:=by
  intro x hx
  simp only [atx,List.mem_cons,List.not_mem_nil,or_false] at hx
  obtain ⟨h1,h2⟩:=h
  rcases hx with rfl | rfl <;> assumption
theorem part_good {k:Kd} {d:D} (h:PlK k d) (μ:Mu):f_p_is_part [.str k.w,d] μ = .ok (.bl true) μ:=by
  cases h with
  | @num i h1 h2 =>
    refine (v_fn 0 (v_take rfl (v_call rfl (v_fn 0 (v_ret ((v_andVT rfl).trans (ch_lt i 4294967296 _ _ _ _ _ rfl rfl rfl))))))).trans ?_
    rw [decide_eq_true h1,decide_eq_true h2]; rfl
  | @size i h1 => rcases h1 with rfl | rfl | rfl <;> rfl
  | @slot i h1 h2 =>
    refine (v_fn 0 ((v_skip rfl).trans ((v_skip rfl).trans (v_take rfl ((v_andVT rfl).trans (ch_lt i 8 _ _ _ _ _ rfl rfl rfl)))))).trans ?_
    rw [decide_eq_true h1,decide_eq_true h2]; rfl
  | @dist i h1 h2 =>
    refine (v_fn 0 ((v_skip rfl).trans ((v_skip rfl).trans ((v_skip rfl).trans (v_take rfl ((v_andVT rfl).trans (ch_le i 2000 _ _ _ _ _ rfl rfl rfl))))))).trans ?_
    rw [decide_eq_true h1,decide_eq_true h2]; rfl
  | base hx => revert hx; exact at_all (P:=fun x => f_p_is_part [.str Kd.base.w,.str x] μ = .ok (.bl true) μ) ⟨rfl,rfl⟩ _
  | op hx => revert hx; exact op_all (P:=fun x => f_p_is_part [.str Kd.op.w,.str x] μ = .ok (.bl true) μ) ⟨rfl,rfl,rfl,rfl,rfl,rfl,rfl,rfl,rfl,rfl⟩ _
  | test hx => revert hx; exact ts_all (P:=fun x => f_p_is_part [.str Kd.test.w,.str x] μ = .ok (.bl true) μ) ⟨rfl,rfl,rfl,rfl⟩ _
noncomputable abbrev cTg:MG:=gTupT (gsCons (gN 0) (gsCons (gN 1) gsNil))
noncomputable abbrev cEl:MX:=mCall f_p_is_part (mCons (mVar 0) (mCons (mVar 1) mNil))
theorem comp_good (μ:Mu):∀ (ps:List (Kd × D)),(∀ p ∈ ps,PlK p.1 p.2) → ∀ (a b:Option D) (acc:List D),compGo cTg mTT cEl (ps.map fun p => .tup [.str p.1.w,p.2]) [a,b] μ acc = .ok (acc ++ ps.map fun _ => .bl true) μ
  | [],_,a,b,acc => by simp [compGo]
  | p :: ps,h,a,b,acc => by
    obtain ⟨h1,h2⟩:=List.forall_mem_cons.mp h
    have e:cEl [some (.str p.1.w),some p.2] μ = .ok (.bl true) μ:=v_call rfl (part_good h1 μ)
    have ih:=comp_good μ ps h2 (some (.str p.1.w)) (some p.2) (acc ++ [.bl true])
    rw [List.map_cons,List.map_cons]
    show (noX (cEl [some (.str p.1.w),some p.2] μ)).bind _ = _
    rw [e]
    show compGo cTg mTT cEl _ [some (.str p.1.w),some p.2] μ (acc ++ [.bl true]) = _
    rw [ih,List.append_assoc,List.singleton_append]
theorem bls_true:∀ ps:List (Kd × D),blsOf (ps.map fun _ => .bl true) = some (ps.map fun _ => true)
  | [] => rfl
  | p :: ps => by
    rw [List.map_cons,List.map_cons]
    unfold blsOf
    rw [bls_true ps]
    rfl
theorem tailG (ps:List (Kd × D)) (hp:∀ p ∈ ps,PlK p.1 p.2) {ρ:En} {μ:Mu} {r:MSt} (hl:ps.length ≤ 16777216) (hz:mZip true true (mVar 1) (mSl (mVar 0) (mPart (mC (.int 1))) mNoP) ρ μ = .ok (ps.map fun p => .tup [.str p.1.w,p.2]) μ) :
    mSeq (mIte (mNot (mTru (mCallB gAll (mCons (mComp 2 [] cTg (mZip true true (mVar 1) (mSl (mVar 0) (mPart (mC (.int 1))) mNoP)) mTT cEl) mNil)))) (mRet (mC (.bl false))) mSkip) r ρ μ = r ρ μ:=by
  have e1:mComp 2 [] cTg (mZip true true (mVar 1) (mSl (mVar 0) (mPart (mC (.int 1))) mNoP)) mTT cEl ρ μ = .ok (.lst (ps.map fun _ => .bl true)) μ:=by
    unfold mComp
    rw [hz,bind_ok,if_pos (by rw [List.length_map]; exact hl)]
    show (compGo cTg mTT cEl _ [none,none] μ []).bind _ = _
    rw [comp_good μ ps hp]
    rfl
  refine v_skip (v_not (k:=true) (v_tru (d:=.bl true) (v_callB (v_cons e1 v_nil) ?_) rfl))
  show (blsOf (ps.map fun _ => .bl true)).map _ = _
  rw [bls_true]
  simp
theorem p_load {a b c:D} (ha:PlK .size a) (hb:PlK .base b) (hc:PlK .num c) (μ:Mu):f_p_is_step [.tup [.str w_load,a,b,c]] μ = .ok (.bl true) μ :=
  v_fn 1 ((v_skip rfl).trans ((v_skip rfl).trans ((v_set 1 rfl).trans ((v_skip rfl).trans ((tailG [(.size,a),(.base,b),(.num,c)] (List.forall_mem_cons.mpr ⟨ha,List.forall_mem_cons.mpr ⟨hb,List.forall_mem_cons.mpr ⟨hc,fun _ z => nomatch z⟩⟩⟩) (show 3 ≤ 16777216 by decide) rfl).trans (rfl))))))
theorem p_len (μ:Mu):f_p_is_step [.tup [.str w_len]] μ = .ok (.bl true) μ :=
  v_fn 1 ((v_skip rfl).trans ((v_skip rfl).trans ((v_set 1 rfl).trans ((v_skip rfl).trans ((tailG [] (fun _ z => nomatch z) (show 0 ≤ 16777216 by decide) rfl).trans (rfl))))))
theorem p_set {a:D} (ha:PlK .num a) (μ:Mu):f_p_is_step [.tup [.str w_set,a]] μ = .ok (.bl true) μ :=
  v_fn 1 ((v_skip rfl).trans ((v_skip rfl).trans ((v_set 1 rfl).trans ((v_skip rfl).trans ((tailG [(.num,a)] (List.forall_mem_cons.mpr ⟨ha,fun _ z => nomatch z⟩) (show 1 ≤ 16777216 by decide) rfl).trans (rfl))))))
theorem p_setx {a:D} (ha:PlK .num a) (μ:Mu):f_p_is_step [.tup [.str w_setx,a]] μ = .ok (.bl true) μ :=
  v_fn 1 ((v_skip rfl).trans ((v_skip rfl).trans ((v_set 1 rfl).trans ((v_skip rfl).trans ((tailG [(.num,a)] (List.forall_mem_cons.mpr ⟨ha,fun _ z => nomatch z⟩) (show 1 ≤ 16777216 by decide) rfl).trans (rfl))))))
theorem p_tax (μ:Mu):f_p_is_step [.tup [.str w_tax]] μ = .ok (.bl true) μ :=
  v_fn 1 ((v_skip rfl).trans ((v_skip rfl).trans ((v_set 1 rfl).trans ((v_skip rfl).trans ((tailG [] (fun _ z => nomatch z) (show 0 ≤ 16777216 by decide) rfl).trans (rfl))))))
theorem p_txa (μ:Mu):f_p_is_step [.tup [.str w_txa]] μ = .ok (.bl true) μ :=
  v_fn 1 ((v_skip rfl).trans ((v_skip rfl).trans ((v_set 1 rfl).trans ((v_skip rfl).trans ((tailG [] (fun _ z => nomatch z) (show 0 ≤ 16777216 by decide) rfl).trans (rfl))))))
theorem p_keep {a:D} (ha:PlK .slot a) (μ:Mu):f_p_is_step [.tup [.str w_keep,a]] μ = .ok (.bl true) μ :=
  v_fn 1 ((v_skip rfl).trans ((v_skip rfl).trans ((v_set 1 rfl).trans ((v_skip rfl).trans ((tailG [(.slot,a)] (List.forall_mem_cons.mpr ⟨ha,fun _ z => nomatch z⟩) (show 1 ≤ 16777216 by decide) rfl).trans (rfl))))))
theorem p_fetch {a:D} (ha:PlK .slot a) (μ:Mu):f_p_is_step [.tup [.str w_fetch,a]] μ = .ok (.bl true) μ :=
  v_fn 1 ((v_skip rfl).trans ((v_skip rfl).trans ((v_set 1 rfl).trans ((v_skip rfl).trans ((tailG [(.slot,a)] (List.forall_mem_cons.mpr ⟨ha,fun _ z => nomatch z⟩) (show 1 ≤ 16777216 by decide) rfl).trans (rfl))))))
theorem p_dox {a:D} (ha:PlK .op a) (μ:Mu):f_p_is_step [.tup [.str w_dox,a]] μ = .ok (.bl true) μ :=
  v_fn 1 ((v_skip rfl).trans ((v_skip rfl).trans ((v_set 1 rfl).trans ((v_skip rfl).trans ((tailG [(.op,a)] (List.forall_mem_cons.mpr ⟨ha,fun _ z => nomatch z⟩) (show 1 ≤ 16777216 by decide) rfl).trans (rfl))))))
theorem p_jump {a:D} (ha:PlK .dist a) (μ:Mu):f_p_is_step [.tup [.str w_jump,a]] μ = .ok (.bl true) μ :=
  v_fn 1 ((v_skip rfl).trans ((v_skip rfl).trans ((v_set 1 rfl).trans ((v_skip rfl).trans ((tailG [(.dist,a)] (List.forall_mem_cons.mpr ⟨ha,fun _ z => nomatch z⟩) (show 1 ≤ 16777216 by decide) rfl).trans (rfl))))))
theorem p_if {a b c d:D} (ha:PlK .test a) (hb:PlK .num b) (hc:PlK .dist c) (hd:PlK .dist d) (μ:Mu):f_p_is_step [.tup [.str w_if,a,b,c,d]] μ = .ok (.bl true) μ :=
  v_fn 1 ((v_skip rfl).trans ((v_skip rfl).trans ((v_set 1 rfl).trans ((v_skip rfl).trans ((tailG [(.test,a),(.num,b),(.dist,c),(.dist,d)] (List.forall_mem_cons.mpr ⟨ha,List.forall_mem_cons.mpr ⟨hb,List.forall_mem_cons.mpr ⟨hc,List.forall_mem_cons.mpr ⟨hd,fun _ z => nomatch z⟩⟩⟩⟩) (show 4 ≤ 16777216 by decide) rfl).trans (rfl))))))
theorem p_ifx {a b c:D} (ha:PlK .test a) (hb:PlK .dist b) (hc:PlK .dist c) (μ:Mu):f_p_is_step [.tup [.str w_ifx,a,b,c]] μ = .ok (.bl true) μ :=
  v_fn 1 ((v_skip rfl).trans ((v_skip rfl).trans ((v_set 1 rfl).trans ((v_skip rfl).trans ((tailG [(.test,a),(.dist,b),(.dist,c)] (List.forall_mem_cons.mpr ⟨ha,List.forall_mem_cons.mpr ⟨hb,List.forall_mem_cons.mpr ⟨hc,fun _ z => nomatch z⟩⟩⟩) (show 3 ≤ 16777216 by decide) rfl).trans (rfl))))))
theorem p_tell {a:D} (ha:PlK .num a) (μ:Mu):f_p_is_step [.tup [.str w_tell,a]] μ = .ok (.bl true) μ :=
  v_fn 1 ((v_skip rfl).trans ((v_skip rfl).trans ((v_set 1 rfl).trans ((v_skip rfl).trans ((tailG [(.num,a)] (List.forall_mem_cons.mpr ⟨ha,fun _ z => nomatch z⟩) (show 1 ≤ 16777216 by decide) rfl).trans (rfl))))))
theorem p_tella (μ:Mu):f_p_is_step [.tup [.str w_tella]] μ = .ok (.bl true) μ :=
  v_fn 1 ((v_skip rfl).trans ((v_skip rfl).trans ((v_set 1 rfl).trans ((v_skip rfl).trans ((tailG [] (fun _ z => nomatch z) (show 0 ≤ 16777216 by decide) rfl).trans (rfl))))))
theorem p_do {a b:D} (ha:PlK .op a) (hb:PlK .num b) (μ:Mu) (hc:f_p_can_be_done_by [a,b] μ = .ok (.bl true) μ):f_p_is_step [.tup [.str w_do,a,b]] μ = .ok (.bl true) μ :=
  v_fn 1 ((v_skip rfl).trans ((v_skip rfl).trans ((v_set 1 rfl).trans ((v_skip rfl).trans ((tailG [(.op,a),(.num,b)] (List.forall_mem_cons.mpr ⟨ha,List.forall_mem_cons.mpr ⟨hb,fun _ z => nomatch z⟩⟩) (show 2 ≤ 16777216 by decide) rfl).trans (v_ret ((v_orVF rfl).trans (v_call rfl hc))))))))
theorem can_do {x:List Nat} (hx:x ∈ opL) {k:Int} (h:x ∈ [w_over,w_rest,w_left,w_right] → 1 ≤ k ∧ k < 32) (μ:Mu):f_p_can_be_done_by [.str x,.int k] μ = .ok (.bl true) μ:=by
  have n0:1 ≤ k → (!(k == 0)) = true:=fun z => by
    have:(k == 0) = false:=by rw [beq_eq_false_iff_ne]; omega
    rw [this]; rfl
  revert hx h
  revert x
  intro x hx
  refine op_all (P:=fun x => (x ∈ [w_over,w_rest,w_left,w_right] → 1 ≤ k ∧ k < 32) → f_p_can_be_done_by [.str x,.int k] μ = .ok (.bl true) μ) ⟨fun _ => rfl,fun _ => rfl,fun _ => rfl,fun h => ?_,fun h => ?_,fun _ => rfl,fun _ => rfl,fun _ => rfl,fun h => ?_,fun h => ?_⟩ x hx
  · have:=n0 (h (by decide)).1
    refine (v_fn 0 (v_take rfl (v_bin rfl rfl rfl))).trans ?_
    show Res.ok (D.bl (!(k == 0))) μ = _
    rw [this]
  · have:=n0 (h (by decide)).1
    refine (v_fn 0 (v_take rfl (v_bin rfl rfl rfl))).trans ?_
    show Res.ok (D.bl (!(k == 0))) μ = _
    rw [this]
  · have:=decide_eq_true (h (by decide)).2
    refine (v_fn 0 ((v_skip rfl).trans (v_take rfl (v_bin rfl rfl rfl)))).trans ?_
    show Res.ok (D.bl (decide (k < 32))) μ = _
    rw [this]
  · have:=decide_eq_true (h (by decide)).2
    refine (v_fn 0 ((v_skip rfl).trans (v_take rfl (v_bin rfl rfl rfl)))).trans ?_
    show Res.ok (D.bl (decide (k < 32))) μ = _
    rw [this]
end K40
set_option Elab.async false
set_option linter.all false
set_option maxRecDepth 100000
set_option maxHeartbeats 4000000
namespace K40
open PySem PySem.Spec PyProof.Rows L2 M
inductive Vw | tl | jp (n:Nat) | br (n m:Nat) | kp (s:Nat) | ft (s:Nat) | ot
inductive Sh:D → Vw → Prop
  | load {a b c:D}:PlK .size a → PlK .base b → PlK .num c → Sh (.tup [.str w_load,a,b,c]) .ot
  | len:Sh (.tup [.str w_len]) .ot
  | tax:Sh (.tup [.str w_tax]) .ot
  | txa:Sh (.tup [.str w_txa]) .ot
  | tella:Sh (.tup [.str w_tella]) .tl
  | set {a:D}:PlK .num a → Sh (.tup [.str w_set,a]) .ot
  | setx {a:D}:PlK .num a → Sh (.tup [.str w_setx,a]) .ot
  | keep {s:Nat}:s < 8 → Sh (.tup [.str w_keep,.int s]) (.kp s)
  | fetch {s:Nat}:s < 8 → Sh (.tup [.str w_fetch,.int s]) (.ft s)
  | do_ {x:List Nat} {k:Int}:x ∈ opL → 0 ≤ k → k < 4294967296 → (x ∈ [w_over,w_rest,w_left,w_right] → 1 ≤ k ∧ k < 32) → Sh (.tup [.str w_do,.str x,.int k]) .ot
  | dox {a:D}:PlK .op a → Sh (.tup [.str w_dox,a]) .ot
  | jump {n:Nat}:n ≤ 2000 → Sh (.tup [.str w_jump,.int n]) (.jp n)
  | if_ {a b:D} {n m:Nat}:PlK .test a → PlK .num b → n ≤ 2000 → m ≤ 2000 → Sh (.tup [.str w_if,a,b,.int n,.int m]) (.br n m)
  | ifx {a:D} {n m:Nat}:PlK .test a → n ≤ 2000 → m ≤ 2000 → Sh (.tup [.str w_ifx,a,.int n,.int m]) (.br n m)
  | tell {a:D}:PlK .num a → Sh (.tup [.str w_tell,a]) .tl
theorem dist_of {n:Nat} (h:n ≤ 2000):PlK .dist (.int n):=.dist (by omega) (by omega)
theorem slot_of {n:Nat} (h:n < 8):PlK .slot (.int n):=.slot (by omega) (by omega)
theorem sh_step {d:D} {v:Vw} (h:Sh d v) (μ:Mu):f_p_is_step [d] μ = .ok (.bl true) μ:=by
  cases h with
  | load h1 h2 h3 => exact p_load h1 h2 h3 μ
  | len => exact p_len μ
  | tax => exact p_tax μ
  | txa => exact p_txa μ
  | tella => exact p_tella μ
  | set h => exact p_set h μ
  | setx h => exact p_setx h μ
  | keep h => exact p_keep (slot_of h) μ
  | fetch h => exact p_fetch (slot_of h) μ
  | do_ hx h1 h2 h3 => exact p_do (.op hx) (.num h1 h2) μ (can_do hx h3 μ)
  | dox h => exact p_dox h μ
  | jump h => exact p_jump (dist_of h) μ
  | if_ h1 h2 h3 h4 => exact p_if h1 h2 (dist_of h3) (dist_of h4) μ
  | ifx h1 h2 h3 => exact p_ifx h1 (dist_of h2) (dist_of h3) μ
  | tell h => exact p_tell h μ
noncomputable def iL (L:List Nat):List D:=L.map fun (g:Nat) => D.int g
theorem v_range {m:MX} {ρ:En} {μ:Mu} {n:Nat} (h:m ρ μ = .ok (.int n) μ) (hn:n < 1000000):mRange1 m ρ μ = .ok (iL (List.range' 0 n)) μ:=by
  rw [e_range1,h,bind_ok,e_kRange1]
  unfold asRange
  dsimp only
  rw [if_pos (by constructor <;> omega),Int.toNat_natCast,ofO_some]
  unfold rangeD
  rw [List.range_eq_range']
  rfl
theorem iL_cons (p m:Nat):iL (List.range' p (m + 1)) = D.int p :: iL (List.range' (p + 1) m):=by rw [List.range'_succ]; rfl
theorem v_comp {tg:MG} {m:MX} {d x:D} {ds acc:List D} {ρ ρ1:En} {μ:Mu} (ht:tg d ρ = some ρ1) (hm:m ρ1 μ = .ok x μ):compGo tg mTT m (d :: ds) ρ μ acc = compGo tg mTT m ds ρ1 μ (acc ++ [x]):=by
  rw [compGo,ht]
  show (noX (m ρ1 μ)).bind _ = _
  rw [hm]
  rfl
end K40
set_option Elab.async false
set_option linter.all false
set_option maxRecDepth 100000
set_option maxHeartbeats 4000000
namespace K40
open PySem PySem.Spec PyProof.Rows L2 M
noncomputable def St (r:Res Out):Prop:=∃ d v,r = .ok (.rt d) [] ∧ Sh d v
theorem St.of {r r':Res Out} (e:r = r') (h:St r'):St r:=by rw [e]; exact h
theorem St.ite {ρ:En} {t:MB} {a r:MSt} {k:Bool} (ht:t ρ [] = .ok k []) (h1:k = true → St (a ρ [])) (h2:k = false → St (r ρ [])):St (mSeq (mIte t a mSkip) r ρ []):=by
  cases k with
  | true =>
    obtain ⟨d,v,e,hs⟩:=h1 rfl
    exact ⟨d,v,v_seqR ((v_iteT ht).trans e),hs⟩
  | false => exact St.of (v_skip ht) (h2 rfl)
theorem St.ret {ρ:En} {m:MX} {d:D} {v:Vw} (h:m ρ [] = .ok d []) (hs:Sh d v):St (mRet m ρ []):=⟨d,v,v_ret h,hs⟩
theorem mix_at (ns:List Int) (k:Nat) {i:Int} (h:i = k) (μ:Mu):f_mix [sc ns,.int i] μ = .ok (.int (mix ns k)) μ:=by rw [h]; exact mix_eq ns k μ
theorem in4:∀ x ∈ opL,gIn (.str x) (.tup [.str w_over,.str w_rest,.str w_left,.str w_right]) = some (.bl ([w_over,w_rest,w_left,w_right].contains x)):=op_all ⟨rfl,rfl,rfl,rfl,rfl,rfl,rfl,rfl,rfl,rfl⟩
theorem v_iteSet {ρ:En} {μ:Mu} {t:MB} {m:MX} {r:MSt} {d:D} (i:Nat) (ht:t ρ μ = .ok true μ) (hm:m ρ μ = .ok d μ):mSeq (mIte t (mSet i m) mSkip) r ρ μ = r (ρ.set i (some d)) μ:=v_seqN ((v_iteT ht).trans (by unfold mSet; rw [hm]; rfl))
noncomputable def EvP (m:MX) (ρ:En) (P:D → Prop):Prop:=∃ d,m ρ [] = .ok d [] ∧ P d
section
variable {ρ:En} {m ma mb:MX} {ms:MAs} {t:MB}
theorem ev_if {k:Bool} {P:D → Prop} (ht:t ρ [] = .ok k []) (h1:EvP ma ρ P) (h2:EvP mb ρ P):EvP (mIf t ma mb) ρ P:=by
  cases k with
  | true => obtain ⟨d,e,p⟩:=h1; exact ⟨d,(v_ifT ht).trans e,p⟩
  | false => obtain ⟨d,e,p⟩:=h2; exact ⟨d,(v_ifF ht).trans e,p⟩
theorem ev_pick {L:List D} {P:D → Prop} (n:Nat) {i:Int} (h:ms ρ [] = .ok L []) (hl:L.length = n) (h0:0 < n) (hi:m ρ [] = .ok (.int i) []) (hp:∀ d ∈ L,P d):EvP (mBin gIdx (mLst ms) (mBin gMod m (mC (.int n)))) ρ P:=by
  obtain ⟨d,hd,e2⟩:=v_pick h hi hl h0
  exact ⟨d,e2,hp d hd⟩
theorem v_div {x:Nat} {n j:Int} {μ:Mu} (h:ρ[x]? = some (some (.int n))) (h1:0 < j) (h2:j < 18446744073709551616):mBin gDiv (mVar x) (mC (.int j)) ρ μ = .ok (.int (n / j)) μ:=v_bin (v_var x h) rfl (g_div _ _ h1 h2)
theorem v_mod {i j:Int} {μ:Mu} (h:m ρ μ = .ok (.int i) μ) (h1:0 < j):mBin gMod m (mC (.int j)) ρ μ = .ok (.int (i % j)) μ:=v_bin h rfl (g_mod _ _ h1)
theorem v_truI {i:Int} (h:m ρ [] = .ok (.int i) []):mTru m ρ [] = .ok (!(i == 0)) []:=v_tru h (by show truD (.int i) = _; simp [truD]; try rfl)
end
theorem num_of {i:Int} (h1:0 ≤ i) (h2:i < 4294967296):PlK .num (.int i):=.num h1 h2
theorem step_sh (ns:List Int) (b l:Nat) (h1:1 ≤ l) (h2:l ≤ 2000):∃ d v,f_step [sc ns,.int b,.int l] [] = .ok d [] ∧ Sh d v:=by
  suffices h:St (b_step [some (sc ns),some (.int b),some (.int l),none,none,none,none,none,none,none,none] []) by
    obtain ⟨d,v,e,hs⟩:=h
    exact ⟨d,v,v_fn 8 e,hs⟩
  refine St.of (v_set 3 (v_call rfl (mix_at ns b rfl []))) (St.of (v_set 4 (v_call (v_cons (v_call rfl (mix_at ns (b + 1) rfl [])) v_nil) (k_eq _ []))) ?_)
  have hn0:=mix_lo ns b
  generalize hn:mix ns b = n at hn0
  have hk1:=kv_lo (mix ns (b + 1))
  have hk2:=kv_hi (mix ns (b + 1))
  generalize kv (mix ns (b + 1)) = k at hk1 hk2
  have hK:=num_of hk1 hk2
  refine St.of (v_set 5 (v_bin rfl rfl (g_mod n 18 (by decide)))) ?_
  have hw0:0 ≤ n % 18:=Int.emod_nonneg _ (by decide)
  have hw1:n % 18 < 18:=Int.emod_lt_of_pos _ (by decide)
  generalize n % 18 = y at hw0 hw1
  obtain ⟨small,es,ps⟩:=ev_pick (ρ:=[some (sc ns),some (.int b),some (.int l),some (.int n),some (.int k),some (.int y),none,none,none,none,none]) (m:=mBin gDiv (mVar 3) (mC (.int 18))) (L:=[.int 0,.int 1,.int 2,.int 5,.int 13,.int 19]) (P:=PlK .num) (ms:=mCons (mC (.int 0)) (mCons (mC (.int 1)) (mCons (mC (.int 2)) (mCons (mC (.int 5)) (mCons (mC (.int 13)) (mCons (mC (.int 19)) mNil)))))) 6 rfl rfl (by decide) (v_div rfl (by decide) (by decide)) (by
    simp only [List.forall_mem_cons,List.not_mem_nil,false_implies,implies_true,and_true]
    exact ⟨num_of (by decide) (by decide),num_of (by decide) (by decide),num_of (by decide) (by decide),num_of (by decide) (by decide),num_of (by decide) (by decide),num_of (by decide) (by decide)⟩)
  refine St.of (v_set 6 es) ?_
  have hM:∃ M:Nat,1 ≤ M ∧ M ≤ 2000 ∧ gMax [.int 1,.int l] = some (.int M):=by
    refine ⟨max 1 l,by omega,by omega,?_⟩
    rw [g_max]
    congr 1
    congr 1
    split <;> omega
  obtain ⟨M,hM1,hM2,hM3⟩:=hM
  have hone:∀ (i:Nat) (ρ:En),ρ[0]? = some (some (sc ns)) → ρ[1]? = some (some (.int b)) → ρ[2]? = some (some (.int l)) → mBin gMod (mCall f_mix (mCons (mVar 0) (mCons (mBin gAdd (mVar 1) (mC (.int i))) mNil))) (mCallB gMax (mCons (mC (.int 1)) (mCons (mVar 2) mNil))) ρ [] = .ok (.int ((mix ns (b + i) % M).toNat:Int)) []:=fun i ρ r0 r1 r2 => by
    rw [Int.toNat_of_nonneg (Int.emod_nonneg _ (by omega))]
    exact v_bin (v_call (v_cons (v_var 0 r0) (v_cons (v_bin (v_var 1 r1) rfl rfl) v_nil)) (mix_at ns (b + i) (by simp) [])) (v_callB (v_cons rfl (v_cons (v_var 2 r2) v_nil)) hM3) (g_mod _ _ (by omega))
  refine St.of (v_set 7 (hone 2 _ rfl rfl rfl)) ?_
  refine St.of (v_set 8 (hone 3 _ rfl rfl rfl)) ?_
  have ho1:(mix ns (b + 2) % M).toNat ≤ 2000:=by have:=Int.emod_lt_of_pos (mix ns (b + 2)) (b:=(M:Int)) (by omega); have:=Int.emod_nonneg (mix ns (b + 2)) (b:=(M:Int)) (by omega); omega
  have ho2:(mix ns (b + 3) % M).toNat ≤ 2000:=by have:=Int.emod_lt_of_pos (mix ns (b + 3)) (b:=(M:Int)) (by omega); have:=Int.emod_nonneg (mix ns (b + 3)) (b:=(M:Int)) (by omega); omega
  generalize (mix ns (b + 2) % M).toNat = one at ho1
  generalize (mix ns (b + 3) % M).toNat = other at ho2
  have hsl:∀ (ρ:En),ρ[3]? = some (some (.int n)) → mBin gMod (mBin gDiv (mVar 3) (mC (.int 18))) (mC (.int 3)) ρ [] = .ok (.int ((n / 18 % 3).toNat:Int)) []:=fun ρ r => by
    rw [Int.toNat_of_nonneg (Int.emod_nonneg _ (by decide))]
    exact v_mod (v_div r (by decide) (by decide)) (by decide)
  have hsl8:(n / 18 % 3).toNat < 8:=by omega
  generalize (n / 18 % 3).toNat = slot at hsl hsl8
  refine St.ite (k:=decide (y < 3)) rfl (fun _ => ?_) fun _ => ?_
  · obtain ⟨a,ea,pa⟩:=ev_pick (ρ:=[some (sc ns),some (.int b),some (.int l),some (.int n),some (.int k),some (.int y),some small,some (.int one),some (.int other),none,none]) (m:=mBin gDiv (mVar 3) (mC (.int 18))) (L:=[.int 1,.int 2,.int 4]) (P:=PlK .size) (ms:=mCons (mC (.int 1)) (mCons (mC (.int 2)) (mCons (mC (.int 4)) mNil))) 3 rfl rfl (by decide) (v_div rfl (by decide) (by decide)) (by
      simp only [List.forall_mem_cons,List.not_mem_nil,false_implies,implies_true,and_true]
      exact ⟨.size (.inl rfl),.size (.inr (.inl rfl)),.size (.inr (.inr rfl))⟩)
    obtain ⟨x,ex,px⟩:=ev_pick (ρ:=[some (sc ns),some (.int b),some (.int l),some (.int n),some (.int k),some (.int y),some small,some (.int one),some (.int other),none,none]) (m:=mBin gDiv (mVar 3) (mC (.int 54))) (L:=[.str w_at,.str w_x]) (P:=PlK .base) (ms:=mCons (mC (.str w_at)) (mCons (mC (.str w_x)) mNil)) 2 rfl rfl (by decide) (v_div rfl (by decide) (by decide)) (by
      simp only [List.forall_mem_cons,List.not_mem_nil,false_implies,implies_true,and_true]
      exact ⟨.base (by decide),.base (by decide)⟩)
    obtain ⟨c,ec,pc⟩:=ev_if (P:=PlK .num) (ρ:=[some (sc ns),some (.int b),some (.int l),some (.int n),some (.int k),some (.int y),some small,some (.int one),some (.int other),none,none]) (v_truI (v_mod (v_div (x:=3) (j:=108) rfl (by decide) (by decide)) (j:=5) (by decide))) (ma:=mVar 6) (mb:=mVar 4) ⟨_,rfl,ps⟩ ⟨_,rfl,hK⟩
    exact St.ret (v_tup (v_cons rfl (v_cons ea (v_cons ex (v_cons ec v_nil))))) (.load pa px pc)
  refine St.ite (k:=decide (y < 5)) rfl (fun _ => ?_) fun h5 => ?_
  · obtain ⟨d,e,hd⟩:=ev_pick (ρ:=[some (sc ns),some (.int b),some (.int l),some (.int n),some (.int k),some (.int y),some small,some (.int one),some (.int other),none,none]) (m:=mBin gDiv (mVar 3) (mC (.int 18))) (ms:=mCons (mTup (mCons (mC (.str w_len)) mNil)) (mCons (mTup (mCons (mC (.str w_tax)) mNil)) (mCons (mTup (mCons (mC (.str w_txa)) mNil)) (mCons (mTup (mCons (mC (.str w_tella)) mNil)) mNil)))) (L:=[.tup [.str w_len],.tup [.str w_tax],.tup [.str w_txa],.tup [.str w_tella]]) (P:=fun d => ∃ v,Sh d v) 4 rfl rfl (by decide) (v_div rfl (by decide) (by decide)) (by
      simp only [List.forall_mem_cons,List.not_mem_nil,false_implies,implies_true,and_true]
      exact ⟨⟨_,.len⟩,⟨_,.tax⟩,⟨_,.txa⟩,⟨_,.tella⟩⟩)
    obtain ⟨v,hv⟩:=hd
    exact St.ret e hv
  have h5:=of_decide_eq_false h5
  refine St.ite (k:=decide (y < 7)) rfl (fun h7 => ?_) fun h7 => ?_
  · have h7:=of_decide_eq_true h7
    obtain rfl | rfl:y = 5 ∨ y = 6:=by omega
    · exact St.ret (d:=.tup [.str w_set,.int k]) rfl (.set hK)
    · exact St.ret (d:=.tup [.str w_setx,.int k]) rfl (.setx hK)
  have h7:=of_decide_eq_false h7
  refine St.ite (k:=decide (y < 9)) rfl (fun h9 => ?_) fun h9 => ?_
  · have h9:=of_decide_eq_true h9
    obtain rfl | rfl:y = 7 ∨ y = 8:=by omega
    · exact St.ret (v_tup (v_cons (d:=.str w_keep) rfl (v_cons (hsl _ rfl) v_nil))) (.keep hsl8)
    · exact St.ret (v_tup (v_cons (d:=.str w_fetch) rfl (v_cons (hsl _ rfl) v_nil))) (.fetch hsl8)
  refine St.ite (k:=decide (y < 11)) rfl (fun _ => ?_) fun _ => ?_
  · refine St.of (v_set 9 (v_call (v_cons (v_div rfl (by decide) (by decide)) v_nil) (op_eq _ []))) ?_
    have ho:=opw_mem (n / 18)
    have ht:=in4 _ ho
    cases hb:[w_over,w_rest,w_left,w_right].contains (opw (n / 18)) with
    | true =>
      rw [hb] at ht
      have hm:0 ≤ k % 31 ∧ k % 31 < 31:=⟨Int.emod_nonneg _ (by decide),Int.emod_lt_of_pos _ (by decide)⟩
      exact St.of (v_iteSet 4 (v_test (v_bin rfl rfl ht)) (v_bin (x:=.int 1) (y:=.int (k % 31)) (z:=.int (1 + k % 31)) rfl (v_mod rfl (by decide)) rfl)) (St.ret (v_tup (v_cons rfl (v_cons rfl (v_cons rfl v_nil)))) (.do_ ho (by omega) (by omega) fun _ => ⟨by omega,by omega⟩))
    | false =>
      rw [hb] at ht
      exact St.of (v_skip (v_test (v_bin rfl rfl ht))) (St.ret (v_tup (v_cons rfl (v_cons rfl (v_cons rfl v_nil)))) (.do_ ho hk1 hk2 fun z => by rw [List.contains_iff_mem.mpr z] at hb; cases hb))
  refine St.ite (k:=y == 11) rfl (fun _ => ?_) fun _ => ?_
  · exact St.ret (v_tup (v_cons rfl (v_cons (v_call (v_cons (v_div rfl (by decide) (by decide)) v_nil) (op_eq _ [])) v_nil))) (.dox (.op (opw_mem _)))
  refine St.ite (k:=y == 12) rfl (fun _ => ?_) fun _ => ?_
  · exact St.ret (v_tup (v_cons rfl (v_cons rfl v_nil))) (.jump ho1)
  obtain ⟨ts,et,pt⟩:=ev_pick (ρ:=[some (sc ns),some (.int b),some (.int l),some (.int n),some (.int k),some (.int y),some small,some (.int one),some (.int other),none,none]) (m:=mBin gDiv (mVar 3) (mC (.int 18))) (L:=[.str w_equal,.str w_above,.str w_least,.str w_any]) (P:=PlK .test) (ms:=mCons (mC (.str w_equal)) (mCons (mC (.str w_above)) (mCons (mC (.str w_least)) (mCons (mC (.str w_any)) mNil)))) 4 rfl rfl (by decide) (v_div rfl (by decide) (by decide)) (by
    simp only [List.forall_mem_cons,List.not_mem_nil,false_implies,implies_true,and_true]
    exact ⟨.test (by decide),.test (by decide),.test (by decide),.test (by decide)⟩)
  refine St.of (v_set 10 et) ?_
  refine St.ite (k:=decide (y < 15)) rfl (fun _ => ?_) fun _ => ?_
  · obtain ⟨c,ec,pc⟩:=ev_if (P:=PlK .num) (ρ:=[some (sc ns),some (.int b),some (.int l),some (.int n),some (.int k),some (.int y),some small,some (.int one),some (.int other),none,some ts]) (v_truI (v_mod (v_div (x:=3) (j:=72) rfl (by decide) (by decide)) (j:=2) (by decide))) (ma:=mVar 4) (mb:=mVar 6) ⟨_,rfl,hK⟩ ⟨_,rfl,ps⟩
    exact St.ret (v_tup (v_cons rfl (v_cons rfl (v_cons ec (v_cons rfl (v_cons rfl v_nil)))))) (.if_ pt pc ho1 ho2)
  refine St.ite (k:=y == 15) rfl (fun _ => ?_) fun _ => ?_
  · exact St.ret (v_tup (v_cons rfl (v_cons rfl (v_cons rfl (v_cons rfl v_nil))))) (.ifx pt ho1 ho2)
  obtain ⟨d,e,v,hv⟩:=ev_if (k:=y == 16) (P:=fun d => ∃ v,Sh d v) (ρ:=[some (sc ns),some (.int b),some (.int l),some (.int n),some (.int k),some (.int y),some small,some (.int one),some (.int other),none,some ts]) (t:=mTest (mBin gEq (mVar 5) (mC (.int 16)))) (ma:=mTup (mCons (mC (.str w_tell)) (mCons (mVar 4) mNil))) (mb:=mTup (mCons (mC (.str w_keep)) (mCons (mBin gMod (mBin gDiv (mVar 3) (mC (.int 18))) (mC (.int 3))) mNil))) rfl ⟨_,rfl,_,.tell hK⟩ ⟨_,v_tup (v_cons rfl (v_cons (hsl _ rfl) v_nil)),_,.keep hsl8⟩
  exact St.ret e hv
end K40
set_option Elab.async false
set_option linter.all false
set_option maxRecDepth 100000
set_option maxHeartbeats 400000
namespace K40
open PySem PySem.Spec PyProof.Rows L2 M NumText
noncomputable def dg (x:List Nat):Bool:=decide (0 < x.length) && x.all fun c => decide (48 ≤ c) && decide (c ≤ 57)
theorem asc_dg:∀ c < 128,Unicode.isDigit c = (decide (48 ≤ c) && decide (c ≤ 57)):=by decide +kernel
theorem isdig {x:List Nat} (h:∀ c ∈ x,c < 128):Txt.isdigit ⟨x.toArray⟩ = dg x:=by
  have e:x.toArray.all Unicode.isDigit = x.all fun c => decide (48 ≤ c) && decide (c ≤ 57):=by
    rw [List.all_toArray,Bool.eq_iff_iff,List.all_eq_true,List.all_eq_true]
    exact ⟨fun k c hc => by rw [← asc_dg c (h c hc)]; exact k c hc,fun k c hc => by rw [asc_dg c (h c hc)]; exact k c hc⟩
  unfold Txt.isdigit dg
  rw [e]
  rfl
theorem dg_iff {x:List Nat}:dg x = true ↔ x ≠ [] ∧ ∀ c ∈ x,48 ≤ c ∧ c ≤ 57:=by
  unfold dg
  rw [Bool.and_eq_true,decide_eq_true_eq,List.length_pos_iff,List.all_eq_true]
  simp only [Bool.and_eq_true,decide_eq_true_eq]
theorem str_plain {x:List Nat} (h:∀ c ∈ x,c < 128):plainD (.str x) = true:=by
  show (x.all fun c => decide (c < 0x110000)) = true
  rw [List.all_eq_true]
  exact fun c hc => decide_eq_true (by have:=h c hc; omega)
theorem eq_str {x y:List Nat} (hx:plainD (.str x) = true) (hy:plainD (.str y) = true):gEq (.str x) (.str y) = some (.bl (x == y)):=by
  unfold gEq cmpOk
  rw [hx,hy]
  rfl
theorem ne_str {x y:List Nat} (hx:plainD (.str x) = true) (hy:plainD (.str y) = true):gNe (.str x) (.str y) = some (.bl (!(x == y))):=by
  unfold gNe cmpOk
  rw [hx,hy]
  rfl
noncomputable def nm (x:List Nat):D:=if 10 < x.length then .non else if digitsVal x < 4294967296 then .int (digitsVal x:Nat) else .non
theorem isnum (n:Int) (μ:Mu):f_p_is_number [.int n] μ = .ok (.bl (decide (0 ≤ n) && decide (n < 4294967296))) μ:=v_fn 0 (v_ret ((v_andVT rfl).trans (ch_lt n 4294967296 _ _ _ _ _ rfl rfl rfl)))
theorem numof {x:List Nat} (h:∀ c ∈ x,48 ≤ c ∧ c ≤ 57) (hn:x ≠ []) (hl:x.length ≤ 640) (μ:Mu):f_p_number_of [.str x] μ = .ok (nm x) μ:=by
  have e0:mCallB gLen (mCons (mVar 0) mNil) [some (.str x),none] μ = .ok (.int x.length) μ:=v_callB (v_cons rfl v_nil) (by show (if x.length ≤ 16777216 then some (D.int x.length) else none) = _; rw [if_pos (by omega)])
  have e1:mTest (mBin gGt (mCallB gLen (mCons (mVar 0) mNil)) (mC c_MOST_FIGURES)) [some (.str x),none] μ = .ok (decide (10 < x.length)) μ:=v_test (v_bin e0 rfl (by
    show some (D.bl (decide ((10:Int) < (x.length:Int)))) = _
    by_cases z:10 < x.length
    · rw [decide_eq_true z,decide_eq_true (by omega)]
    · rw [decide_eq_false z,decide_eq_false (by omega)]))
  unfold nm
  by_cases h10:10 < x.length
  · rw [decide_eq_true h10] at e1
    rw [if_pos h10]
    exact v_fn 1 (v_take e1 rfl)
  · rw [decide_eq_false h10] at e1
    rw [if_neg h10]
    have e2:mCallB gIntT (mCons (mVar 0) mNil) [some (.str x),none] μ = .ok (.int (digitsVal x:Nat)) μ:=v_callB (v_cons rfl v_nil) (by
      show (if x.length ≤ 640 then (PySem.intText? (mkS x)).map D.int else none) = _
      rw [if_pos hl,intText_digits (x:=mkS x) h hn (by show x.toArray.size ≤ 4300; rw [List.size_toArray]; omega)]
      rfl)
    refine v_fn 1 ((v_skip e1).trans ((v_set 1 e2).trans (v_ret ?_)))
    have e3:mTru (mCall f_p_is_number (mCons (mVar 1) mNil)) [some (.str x),some (.int (digitsVal x:Nat))] μ = .ok (decide (0 ≤ ((digitsVal x:Nat):Int)) && decide (((digitsVal x:Nat):Int) < 4294967296)) μ:=v_tru (v_call (v_cons rfl v_nil) (isnum _ μ)) rfl
    rw [decide_eq_true (show 0 ≤ ((digitsVal x:Nat):Int) by omega),Bool.true_and] at e3
    by_cases h32:digitsVal x < 4294967296
    · rw [decide_eq_true (by omega)] at e3
      rw [if_pos h32]
      exact v_ifT e3
    · rw [decide_eq_false (by omega)] at e3
      rw [if_neg h32]
      exact v_ifF e3
noncomputable def pc (x:List Nat):D:=if dg x = true then (if x.head? = some 48 ∧ x ≠ [48] then .non else nm x) else .str x
theorem part_eq {x:List Nat} (h:∀ c ∈ x,c < 128) (hl:x.length ≤ 20) (μ:Mu):f_p_part_of [.str x] μ = .ok (pc x) μ:=by
  have e1:mTru (mMth0 gIsdigit (mVar 0)) [some (.str x)] μ = .ok (dg x) μ:=by
    refine v_tru (d:=.bl (dg x)) ?_ rfl
    show ofO μ (some (D.bl (Txt.isdigit ⟨x.toArray⟩))) = _
    rw [isdig h]
    rfl
  unfold pc
  by_cases hd:dg x = true
  · rw [if_pos hd]
    rw [hd] at e1
    obtain ⟨hn,ha⟩:=dg_iff.mp hd
    refine v_fn 0 ((v_skip (v_not e1)).trans ?_)
    cases x with
    | nil => exact absurd rfl hn
    | cons c r =>
      have hc:=h c List.mem_cons_self
      have e2:mTest (mBin gEq (mBin gIdx (mVar 0) (mC (.int 0))) (mC (.str w_0))) [some (.str (c :: r))] μ = .ok ([c] == w_0) μ:=v_test (v_bin (x:=.str [c]) (v_bin rfl rfl (by
        show (if (c :: r).length ≤ 16777216 then (atI (c :: r) 0).map fun c => D.str [c] else none) = _
        rw [if_pos (by omega),atI_pos (by decide)]
        rfl)) rfl (eq_str (str_plain fun d hd => by rw [List.mem_singleton.mp hd]; exact hc) (by decide)))
      have e3:mTest (mBin gNe (mVar 0) (mC (.str w_0))) [some (.str (c :: r))] μ = .ok (!((c :: r) == w_0)) μ:=v_test (v_bin rfl rfl (ne_str (str_plain h) (by decide)))
      by_cases hz:c = 48
      · subst hz
        by_cases hr:r = []
        · subst hr
          rw [if_neg (fun z => z.2 rfl)]
          exact (v_skip ((v_andT e2).trans e3)).trans (v_ret (v_call rfl (numof ha hn (by omega) μ)))
        · rw [if_pos ⟨rfl,fun z => hr (by simpa using z)⟩]
          have:((48 :: r:List Nat) == w_0) = false:=by
            rw [beq_eq_false_iff_ne]
            exact fun z => hr (by simpa [w_0] using z)
          rw [this] at e3
          exact v_take ((v_andT e2).trans e3) rfl
      · have:([c] == w_0) = false:=by
          rw [beq_eq_false_iff_ne]
          exact fun z => hz (by simpa [w_0] using z)
        rw [this] at e2
        rw [if_neg (fun z => hz (by simpa using z.1))]
        exact (v_skip (v_andF e2)).trans (v_ret (v_call rfl (numof ha hn (by omega) μ)))
  · rw [if_neg hd]
    rw [show dg x = false by cases hq:dg x <;> simp_all] at e1
    exact v_fn 0 (v_take (v_not e1) rfl)
noncomputable def sh:D → List Nat
  | .int i => dgt i.toNat
  | .str x => x
  | _ => []
theorem pc_sh {x:List Nat} (h:pc x ≠ .non):sh (pc x) = x:=by
  unfold pc at h ⊢
  split
  · rename_i hd
    rw [if_pos hd] at h
    split
    · rename_i hz
      rw [if_pos hz] at h
      exact absurd rfl h
    · rename_i hz
      rw [if_neg hz] at h
      obtain ⟨hn,ha⟩:=dg_iff.mp hd
      unfold nm at h ⊢
      split
      · rename_i z; rw [if_pos z] at h; exact absurd rfl h
      · rename_i z
        rw [if_neg z] at h
        split
        · show dgt (((digitsVal x:Nat):Int).toNat) = x
          rw [Int.toNat_natCast]
          refine dgt_inv ha hn fun e => ?_
          by_cases q:x = [48]
          · exact q
          · exact absurd ⟨e,q⟩ hz
        · rename_i y; rw [if_neg y] at h; exact absurd rfl h
  · rfl
theorem dgt_len:∀ (k n:Nat),0 < k → n < 10 ^ k → (dgt n).length ≤ k
  | 0,_,h,_ => absurd h (by decide)
  | k + 1,n,_,h => by
    by_cases h10:n < 10
    · rw [dgt_lt h10]; simp
    · have hk:0 < k:=by
        rcases Nat.eq_zero_or_pos k with z | z
        · subst z; omega
        · exact z
      have:=dgt_len k (n / 10) hk (by rw [Nat.pow_succ] at h; omega)
      have e:=dgt_snoc (v:=n / 10) (d:=n % 10) (by omega) (by omega)
      rw [Nat.div_add_mod,dgt_lt (by omega:n % 10 < 10)] at e
      rw [e,List.length_append]
      simp only [List.length_singleton]
      omega
theorem dgt_10 {n:Nat} (h:n < 4294967296):(dgt n).length ≤ 10:=dgt_len 10 n (by decide) (by omega)
theorem dgt_ne (n:Nat):dgt n ≠ []:=by
  obtain ⟨c,r,e,_⟩:=dgt_head n
  rw [e]; simp
theorem pc_dgt {n:Nat} (h:n < 4294967296):pc (dgt n) = .int (n:Nat):=by
  unfold pc nm
  rw [if_pos (dg_iff.mpr ⟨dgt_ne n,dgt_all n⟩),if_neg (fun z => z.2 (dgt_one z.1)),if_neg (by have:=dgt_10 h; omega),dgt_val,if_pos h]
inductive PV:D → Prop
  | int {i:Int}:0 ≤ i → i < 4294967296 → PV (.int i)
  | str {x:List Nat}:(∀ c ∈ x,c < 128) → PV (.str x)
  | non:PV .non
theorem pc_PV {x:List Nat} (h:∀ c ∈ x,c < 128):PV (pc x):=by
  unfold pc nm
  split
  · split
    · exact .non
    · split
      · exact .non
      · split
        · exact .int (by omega) (by omega)
        · exact .non
  · exact .str h
theorem in_strs {x:List Nat} (hx:∀ c ∈ x,c < 128) {L:List (List Nat)} (hL:plainDs (L.map .str) = true):∃ b,gIn (.str x) (.tup (L.map .str)) = some (.bl b) ∧ (b = true → x ∈ L):=by
  refine ⟨inD (.str x) (L.map .str),?_,fun hb => ?_⟩
  · show (if inOk (.str x) (L.map .str) = true then some (D.bl (inD (.str x) (L.map .str))) else none) = _
    have:inOk (.str x) (L.map .str) = true:=by
      unfold inOk
      rw [str_plain hx,hL]
      rfl
    rw [if_pos this]
  · unfold inD at hb
    obtain ⟨y,hy,e⟩:=List.any_eq_true.mp hb
    obtain ⟨z,hz,rfl⟩:=List.mem_map.mp hy
    have e:(z == x) = true:=e
    rw [← eq_of_beq e]
    exact hz
theorem part_any (k:Kd) {d:D} (h:PV d):∃ b,(∀ μ,f_p_is_part [.str k.w,d] μ = .ok (.bl b) μ) ∧ (b = true → PlK k d):=by
  cases h with
  | non => cases k <;> exact ⟨false,fun _ => rfl,fun z => nomatch z⟩
  | @int i h1 h2 =>
    cases k with
    | num => exact ⟨true,fun μ => part_good (.num h1 h2) μ,fun _ => .num h1 h2⟩
    | size =>
      refine ⟨(1 == i) || ((2 == i) || ((4 == i) || false)),fun _ => rfl,fun z => .size ?_⟩
      simp only [Bool.or_false,Bool.or_eq_true,beq_iff_eq] at z
      omega
    | slot =>
      by_cases h3:i < 8
      · exact ⟨true,fun μ => part_good (.slot h1 h3) μ,fun _ => .slot h1 h3⟩
      · refine ⟨false,fun μ => ?_,fun z => nomatch z⟩
        refine (v_fn 0 ((v_skip rfl).trans ((v_skip rfl).trans (v_take rfl ((v_andVT rfl).trans (ch_lt i 8 _ _ _ _ _ rfl rfl rfl)))))).trans ?_
        rw [decide_eq_true h1,decide_eq_false h3]; rfl
    | dist =>
      by_cases h3:i ≤ 2000
      · exact ⟨true,fun μ => part_good (.dist h1 h3) μ,fun _ => .dist h1 h3⟩
      · refine ⟨false,fun μ => ?_,fun z => nomatch z⟩
        refine (v_fn 0 ((v_skip rfl).trans ((v_skip rfl).trans ((v_skip rfl).trans (v_take rfl ((v_andVT rfl).trans (ch_le i 2000 _ _ _ _ _ rfl rfl rfl))))))).trans ?_
        rw [decide_eq_true h1,decide_eq_false h3]; rfl
    | _ => exact ⟨false,fun _ => rfl,fun z => nomatch z⟩
  | @str x hx =>
    cases k with
    | base =>
      obtain ⟨b,e,hb⟩:=in_strs (L:=atx) hx (by decide)
      exact ⟨b,fun μ => v_fn 0 ((v_skip rfl).trans ((v_skip rfl).trans ((v_skip rfl).trans ((v_skip rfl).trans (v_take rfl (v_bin rfl rfl e)))))),fun z => .base (hb z)⟩
    | op =>
      obtain ⟨b,e,hb⟩:=in_strs (L:=opL) hx (by decide)
      exact ⟨b,fun μ => v_fn 0 ((v_skip rfl).trans ((v_skip rfl).trans ((v_skip rfl).trans ((v_skip rfl).trans ((v_skip rfl).trans (v_take rfl (v_bin rfl rfl e))))))),fun z => .op (hb z)⟩
    | test =>
      obtain ⟨b,e,hb⟩:=in_strs (L:=tsL) hx (by decide)
      exact ⟨b,fun μ => v_fn 0 ((v_skip rfl).trans ((v_skip rfl).trans ((v_skip rfl).trans ((v_skip rfl).trans ((v_skip rfl).trans ((v_skip rfl).trans (v_ret (v_bin rfl rfl e)))))))),fun z => .test (hb z)⟩
    | _ => exact ⟨false,fun _ => rfl,fun z => nomatch z⟩
end K40
set_option Elab.async false
set_option linter.all false
set_option maxRecDepth 100000
set_option maxHeartbeats 400000
namespace K40
open PySem PySem.Spec PyProof.Rows L2 M NumText
theorem comp_any:∀ (ps:List (Kd × D)),(∀ p ∈ ps,PV p.2) → ∃ bs:List Bool,(∀ μ (a b:Option D) (acc:List D),compGo cTg mTT cEl (ps.map fun p => .tup [.str p.1.w,p.2]) [a,b] μ acc = .ok (acc ++ bs.map .bl) μ) ∧ (bs.all id = true → ∀ p ∈ ps,PlK p.1 p.2)
  | [],_ => ⟨[],fun μ a b acc => by simp [compGo],fun _ p hp => nomatch hp⟩
  | p :: ps,h => by
    obtain ⟨h1,h2⟩:=List.forall_mem_cons.mp h
    obtain ⟨k,e,hk⟩:=part_any p.1 h1
    obtain ⟨bs,ih,hb⟩:=comp_any ps h2
    refine ⟨k :: bs,fun μ a b acc => ?_,fun z => ?_⟩
    · have e:cEl [some (.str p.1.w),some p.2] μ = .ok (.bl k) μ:=v_call rfl (e μ)
      rw [List.map_cons]
      refine (v_comp (tg:=cTg) (ρ1:=[some (.str p.1.w),some p.2]) rfl e).trans ?_
      rw [ih,List.append_assoc,List.map_cons,List.singleton_append]
    · rw [List.all_cons,Bool.and_eq_true] at z
      exact List.forall_mem_cons.mpr ⟨hk z.1,hb z.2⟩
theorem bls_of:∀ bs:List Bool,blsOf (bs.map .bl) = some bs
  | [] => rfl
  | b :: bs => by rw [List.map_cons,blsOf,bls_of bs]; rfl
noncomputable abbrev zE:MIt:=mZip true true (mVar 1) (mSl (mVar 0) (mPart (mC (.int 1))) mNoP)
noncomputable abbrev allT:MB:=mNot (mTru (mCallB gAll (mCons (mComp 2 [] cTg zE mTT cEl) mNil)))
theorem all_any {ks:List Kd} {ds:List D} {d0:D} (hp:∀ d ∈ ds,PV d) (hl:ds.length ≤ 100):∃ b,(∀ μ,allT [some (.tup (d0 :: ds)),some (.tup (ks.map fun k => .str k.w))] μ = .ok (!b) μ) ∧ (b = true → ∀ p ∈ ks.zip ds,PlK p.1 p.2):=by
  obtain ⟨bs,e,hb⟩:=comp_any (ks.zip ds) fun p hm => hp p.2 (List.of_mem_zip hm).2
  refine ⟨bs.all id,fun μ => ?_,hb⟩
  have ez:zE [some (.tup (d0 :: ds)),some (.tup (ks.map fun k => .str k.w))] μ = .ok ((ks.zip ds).map fun p => .tup [.str p.1.w,p.2]) μ:=by
    have es:mSl (mVar 0) (mPart (mC (.int 1))) mNoP [some (.tup (d0 :: ds)),some (.tup (ks.map fun k => .str k.w))] μ = .ok (.tup ds) μ:=by
      have c1:HT.sIx (d0 :: ds).length 0 (some 1) = 1:=by unfold HT.sIx; simp
      have c2:HT.sIx (d0 :: ds).length (d0 :: ds).length none = (d0 :: ds).length:=rfl
      show ofO μ (if HT.sIx (d0 :: ds).length 0 (some 1) = 0 ∧ HT.sIx (d0 :: ds).length (d0 :: ds).length none = (d0 :: ds).length then none else some (D.tup (M.cutD (d0 :: ds) (some 1) none))) = _
      rw [if_neg (by rw [c1]; omega)]
      unfold M.cutD
      rw [c1,c2]
      simp
    show (mSl (mVar 0) (mPart (mC (.int 1))) mNoP [some (.tup (d0 :: ds)),some (.tup (ks.map fun k => .str k.w))] μ).bind (fun y μ2 => ofO μ2 ((asSq true (.tup (ks.map fun k => .str k.w))).bind fun xs => (asSq true y).map fun ys => M.pairD xs ys)) = _
    rw [es]
    show Res.ok (M.pairD (ks.map fun k => D.str k.w) ds) μ = _
    unfold M.pairD
    rw [List.zip_map_left,List.map_map]
    rfl
  have ec:mComp 2 [] cTg zE mTT cEl [some (.tup (d0 :: ds)),some (.tup (ks.map fun k => .str k.w))] μ = .ok (.lst (bs.map .bl)) μ:=by
    unfold mComp
    rw [ez,bind_ok,if_pos (by rw [List.length_map,List.length_zip]; omega)]
    show (compGo cTg mTT cEl _ [none,none] μ []).bind _ = _
    rw [e]
    rfl
  refine v_not (v_tru (d:=.bl (bs.all id)) (v_callB (v_cons ec v_nil) ?_) rfl)
  show (blsOf (bs.map .bl)).map _ = _
  rw [bls_of]
  rfl
noncomputable def tb:List (List Nat × List Kd):=[(w_load,[.size,.base,.num]),(w_len,[]),(w_set,[.num]),(w_setx,[.num]),(w_tax,[]),(w_txa,[]),(w_keep,[.slot]),(w_fetch,[.slot]),(w_do,[.op,.num]),(w_dox,[.op]),(w_jump,[.dist]),(w_if,[.test,.num,.dist,.dist]),(w_ifx,[.test,.dist,.dist]),(w_tell,[.num]),(w_tella,[])]
theorem look_any (x:List Nat):∀ t:List (List Nat × List Kd),lookK (t.map fun r => .inr r.1) (t.map fun r => .tup (r.2.map fun k => .str k.w)) (.inr x) = none ∨ ∃ ks,(x,ks) ∈ t ∧ lookK (t.map fun r => .inr r.1) (t.map fun r => .tup (r.2.map fun k => .str k.w)) (.inr x) = some (.tup (ks.map fun k => .str k.w))
  | [] => .inl rfl
  | r :: t => by
    by_cases h:r.1 = x
    · refine .inr ⟨r.2,by rw [← h]; exact List.mem_cons_self,?_⟩
      show (if (Sum.inr r.1:DK) = .inr x then _ else _) = _
      rw [if_pos (by rw [h])]
    · have e:lookK ((r :: t).map fun r => .inr r.1) ((r :: t).map fun r => .tup (r.2.map fun k => .str k.w)) (.inr x) = lookK (t.map fun r => .inr r.1) (t.map fun r => .tup (r.2.map fun k => .str k.w)) (.inr x):=by
        show (if (Sum.inr r.1:DK) = .inr x then _ else _) = _
        rw [if_neg (fun z => h (by injection z))]
      rw [e]
      rcases look_any x t with z | ⟨ks,z1,z2⟩
      · exact .inl z
      · exact .inr ⟨ks,List.mem_cons_of_mem _ z1,z2⟩
theorem can_any {a b:D} (ha:PlK .op a) (hb:PlK .num b):∃ k,∀ μ,f_p_can_be_done_by [a,b] μ = .ok (.bl k) μ:=by
  cases ha with
  | op hx => cases hb with
    | @num i _ _ => exact op_all (P:=fun x => ∃ k,∀ μ,f_p_can_be_done_by [.str x,.int i] μ = .ok (.bl k) μ) ⟨⟨true,fun _ => rfl⟩,⟨true,fun _ => rfl⟩,⟨true,fun _ => rfl⟩,⟨!(i == 0),fun _ => rfl⟩,⟨!(i == 0),fun _ => rfl⟩,⟨true,fun _ => rfl⟩,⟨true,fun _ => rfl⟩,⟨true,fun _ => rfl⟩,⟨decide (i < 32),fun _ => rfl⟩,⟨decide (i < 32),fun _ => rfl⟩⟩ _ hx
theorem plK_non {k:Kd} {d:D} (h:PlK k d):d ≠ .non:=by cases h <;> intro z <;> cases z
theorem zip_all:∀ {ks:List Kd} {ds:List D},ks.length = ds.length → (∀ p ∈ ks.zip ds,PlK p.1 p.2) → ∀ d ∈ ds,d ≠ .non
  | [],[],_,_ => fun _ z => nomatch z
  | k :: ks,d :: ds,hl,h => by
    obtain ⟨h1,h2⟩:=List.forall_mem_cons.mp (show ∀ p ∈ (k,d) :: ks.zip ds,PlK p.1 p.2 from h)
    exact List.forall_mem_cons.mpr ⟨plK_non h1,zip_all (by simpa using hl) h2⟩
  | [],_ :: _,hl,_ => nomatch hl
  | _ :: _,[],hl,_ => nomatch hl
theorem is_any {d0:D} {ds:List D} (h0:PV d0) (hp:∀ d ∈ ds,PV d) (hl:ds.length ≤ 100):∃ b,(∀ μ,f_p_is_step [.tup (d0 :: ds)] μ = .ok (.bl b) μ) ∧ (b = true → ∀ d ∈ d0 :: ds,d ≠ .non):=by
  have s1:∀ μ,mOr (mNot (mTru (mIsI .tuple (mVar 0)))) (mTest (mBin gEq (mCallB gLen (mCons (mVar 0) mNil)) (mC (.int 0)))) [some (.tup (d0 :: ds)),none] μ = .ok false μ:=fun μ => by
    refine (v_orF rfl).trans (v_test (v_bin (x:=.int ((d0 :: ds).length:Nat)) rfl rfl ?_))
    show some (D.bl ((((d0 :: ds).length:Nat):Int) == 0)) = _
    rw [beq_eq_false_iff_ne.mpr (by rw [List.length_cons]; omega)]
  have s0:∀ (ρ:En) (μ:Mu),ρ[0]? = some (some (.tup (d0 :: ds))) → mBin gIdx (mVar 0) (mC (.int 0)) ρ μ = .ok d0 μ:=fun ρ μ h => v_bin (v_var 0 h) rfl (by show atI (d0 :: ds) 0 = _; rw [atI_pos (by decide)]; rfl)
  have no:(∀ μ,mOr (mNot (mTru (mIsI .str (mBin gIdx (mVar 0) (mC (.int 0)))))) (mTest (mBin (gDIn true) (mBin gIdx (mVar 0) (mC (.int 0))) (mC (.dic ks_PARTS ds_PARTS)))) [some (.tup (d0 :: ds)),none] μ = .ok true μ) → ∃ b,(∀ μ,f_p_is_step [.tup (d0 :: ds)] μ = .ok (.bl b) μ) ∧ (b = true → ∀ d ∈ d0 :: ds,d ≠ .non):=fun h =>
    ⟨false,fun μ => v_fn 1 ((v_skip (s1 μ)).trans (v_take (h μ) rfl)),fun z => nomatch z⟩
  have ni:∀ {k:Bool},(∀ μ,mIsI .str (mC d0) [] μ = .ok (.bl k) μ) → ∀ μ,mTru (mIsI .str (mBin gIdx (mVar 0) (mC (.int 0)))) [some (.tup (d0 :: ds)),none] μ = .ok k μ:=fun h μ => by
    refine v_tru (d:=.bl _) ?_ rfl
    have:=h μ
    unfold mIsI at this ⊢
    rw [s0 _ μ rfl]
    exact this
  cases h0 with
  | non => exact no fun μ => v_orT (v_not (ni (k:=false) (fun _ => rfl) μ))
  | int _ _ => exact no fun μ => v_orT (v_not (ni (k:=false) (fun _ => rfl) μ))
  | @str x hx =>
    have hs:=ni (k:=true) (fun _ => rfl)
    have hin:∀ {k:Bool},gDIn true (.str x) (.dic ks_PARTS ds_PARTS) = some (.bl k) → ∀ μ,mOr (mNot (mTru (mIsI .str (mBin gIdx (mVar 0) (mC (.int 0)))))) (mTest (mBin (gDIn true) (mBin gIdx (mVar 0) (mC (.int 0))) (mC (.dic ks_PARTS ds_PARTS)))) [some (.tup (.str x :: ds)),none] μ = .ok k μ:=fun h μ =>
      (v_orF (v_not (hs μ))).trans (v_test (v_bin (s0 _ μ rfl) rfl h))
    rcases look_any x tb with e | ⟨ks,hm,e⟩
    · refine no (hin ?_)
      show some (D.bl (!(lookK ks_PARTS ds_PARTS (.inr x)).isSome)) = _
      rw [show lookK ks_PARTS ds_PARTS (.inr x) = none from e]
      rfl
    · have e:lookK ks_PARTS ds_PARTS (.inr x) = some (.tup (ks.map fun k => .str k.w)):=e
      have e2:=hin (k:=false) (by
        show some (D.bl (!(lookK ks_PARTS ds_PARTS (.inr x)).isSome)) = _
        rw [e]
        rfl)
      have e3:∀ μ,mBin gDGet (mC (.dic ks_PARTS ds_PARTS)) (mBin gIdx (mVar 0) (mC (.int 0))) [some (.tup (.str x :: ds)),none] μ = .ok (.tup (ks.map fun k => .str k.w)) μ:=fun μ => v_bin rfl (s0 _ μ rfl) e
      have e4:∀ μ,mTest (mBin gNe (mCallB gLen (mCons (mVar 0) mNil)) (mBin gAdd (mC (.int 1)) (mCallB gLen (mCons (mVar 1) mNil)))) [some (.tup (.str x :: ds)),some (.tup (ks.map fun k => .str k.w))] μ = .ok (!decide (ks.length = ds.length)) μ:=fun μ => by
        refine v_test (v_bin (x:=.int ((D.str x :: ds).length:Nat)) (y:=.int (1 + ((ks.map fun k => D.str k.w).length:Nat))) rfl (v_bin rfl rfl rfl) ?_)
        show some (D.bl (!((((D.str x :: ds).length:Nat):Int) == 1 + (((ks.map fun k => D.str k.w).length:Nat):Int)))) = _
        rw [List.length_map,List.length_cons]
        by_cases z:ks.length = ds.length
        · rw [decide_eq_true z,beq_iff_eq.mpr (by omega)]
        · rw [decide_eq_false z,beq_eq_false_iff_ne.mpr (by omega)]
      by_cases hk:ks.length = ds.length
      · rw [decide_eq_true hk] at e4
        obtain ⟨b,e5,hb⟩:=all_any (ks:=ks) (d0:=.str x) hp hl
        cases b with
        | false => exact ⟨false,fun μ => v_fn 1 ((v_skip (s1 μ)).trans ((v_skip (e2 μ)).trans ((v_set 1 (e3 μ)).trans ((v_skip (e4 μ)).trans (v_take (e5 μ) rfl))))),fun z => nomatch z⟩
        | true =>
          have hz:=zip_all hk (hb rfl)
          have fin:∀ {k:Bool},(∀ μ,mOrV (mBin gNe (mBin gIdx (mVar 0) (mC (.int 0))) (mC (.str w_do))) (mCall f_p_can_be_done_by (mCons (mBin gIdx (mVar 0) (mC (.int 1))) (mCons (mBin gIdx (mVar 0) (mC (.int 2))) mNil))) [some (.tup (.str x :: ds)),some (.tup (ks.map fun k => .str k.w))] μ = .ok (.bl k) μ) → ∃ b,(∀ μ,f_p_is_step [.tup (.str x :: ds)] μ = .ok (.bl b) μ) ∧ (b = true → ∀ d ∈ D.str x :: ds,d ≠ .non):=fun h =>
            ⟨_,fun μ => v_fn 1 ((v_skip (s1 μ)).trans ((v_skip (e2 μ)).trans ((v_set 1 (e3 μ)).trans ((v_skip (e4 μ)).trans ((v_skip (e5 μ)).trans (v_ret (h μ))))))),fun _ => List.forall_mem_cons.mpr ⟨(fun z => nomatch z),hz⟩⟩
          have hne:∀ {k:Bool},gNe (.str x) (.str w_do) = some (.bl k) → ∀ μ,mBin gNe (mBin gIdx (mVar 0) (mC (.int 0))) (mC (.str w_do)) [some (.tup (.str x :: ds)),some (.tup (ks.map fun k => .str k.w))] μ = .ok (.bl k) μ:=fun h μ => v_bin (s0 _ μ rfl) rfl h
          have hg:=ne_str (str_plain hx) (show plainD (.str w_do) = true by decide)
          by_cases hd:x = w_do
          · subst hd
            have hks:ks = [.op,.num]:=by
              simp only [tb,List.mem_cons,Prod.mk.injEq,List.not_mem_nil,or_false] at hm
              rcases hm with ⟨z,_⟩ | ⟨z,_⟩ | ⟨z,_⟩ | ⟨z,_⟩ | ⟨z,_⟩ | ⟨z,_⟩ | ⟨z,_⟩ | ⟨z,_⟩ | ⟨_,z⟩ | ⟨z,_⟩ | ⟨z,_⟩ | ⟨z,_⟩ | ⟨z,_⟩ | ⟨z,_⟩ | ⟨z,_⟩ <;> first | exact z | exact absurd z (by decide)
            subst hks
            obtain ⟨a,b,rfl⟩:∃ a b,ds = [a,b]:=by
              match ds,hk with
              | [a,b],_ => exact ⟨a,b,rfl⟩
            have hz2:=hb rfl
            have h1:=hz2 (.op,a) (by simp)
            have h2:=hz2 (.num,b) (by simp)
            obtain ⟨k,hk⟩:=can_any h1 h2
            exact fin (k:=k) fun μ => (v_orVF (hne (by rw [hg]; rfl) μ)).trans (v_call rfl (hk μ))
          · exact fin (k:=true) fun μ => v_orVT (hne (by rw [hg,beq_eq_false_iff_ne.mpr hd]; rfl) μ)
      · rw [decide_eq_false hk] at e4
        exact ⟨false,fun μ => v_fn 1 ((v_skip (s1 μ)).trans ((v_skip (e2 μ)).trans ((v_set 1 (e3 μ)).trans (v_take (e4 μ) rfl)))),fun z => nomatch z⟩
noncomputable def Nc (x:List Nat):Prop:=(∀ c ∈ x,c < 128 ∧ c ≠ 32 ∧ c ≠ 10) ∧ x.length ≤ 20
theorem Nc.asc {x:List Nat} (h:Nc x):∀ c ∈ x,c < 128:=fun c hc => (h.1 c hc).1
noncomputable def Wd (ws:List (List Nat)):Prop:=ws ≠ [] ∧ ws.length ≤ 12 ∧ ∀ w ∈ ws,Nc w
theorem wt_le:∀ {ws:List (List Nat)} {k:Nat},(∀ w ∈ ws,w.length ≤ k) → wt ws ≤ ws.length * (k + 1)
  | [],_,_ => by simp [wt]
  | w :: ws,k,h => by
    obtain ⟨h1,h2⟩:=List.forall_mem_cons.mp h
    have:=wt_le h2
    simp only [wt,List.map_cons,List.sum_cons,List.length_cons,Nat.succ_mul] at this ⊢
    omega
theorem Wd.wt {ws:List (List Nat)} (h:Wd ws):wt ws ≤ 252:=by
  have:=wt_le (k:=20) fun w hw => (h.2.2 w hw).2
  have:=h.2.1
  omega
theorem pc_comp (μ:Mu):∀ (ws:List (List Nat)),(∀ w ∈ ws,Nc w) → ∀ (a:Option D) (acc:List D),compGo (gN 0) mTT (mCall f_p_part_of (mCons (mVar 0) mNil)) (ws.map .str) [a] μ acc = .ok (acc ++ ws.map pc) μ
  | [],_,a,acc => by simp [compGo]
  | w :: ws,h,a,acc => by
    obtain ⟨h1,h2⟩:=List.forall_mem_cons.mp h
    rw [List.map_cons]
    refine (v_comp (ρ1:=[some (.str w)]) rfl (v_call rfl (part_eq h1.asc h1.2 μ))).trans ?_
    rw [pc_comp μ ws h2,List.append_assoc,List.map_cons,List.singleton_append]
theorem v_mth {g:D → GL} {mo:MX} {ms:MAs} {ρ:En} {μ:Mu} {x:List Nat} {ds:List D} {d:D} (h1:mo ρ μ = .ok (.str x) μ) (h2:ms ρ μ = .ok ds μ) (h3:g (.str x) (ds.map (deref μ)) = some d):mMth g mo ms ρ μ = .ok d μ:=by
  unfold mMth
  rw [h1,bind_ok]
  show (ms ρ μ).bind _ = _
  rw [h2,bind_ok]
  show ofO μ (g (.str x) (ds.map (deref μ))) = _
  rw [h3]
  rfl
inductive Rd (ws:List (List Nat)):D → Prop
  | no:Rd ws .non
  | yes:(∀ μ,f_p_is_step [.tup (ws.map pc)] μ = .ok (.bl true) μ) → (∀ w ∈ ws,pc w ≠ .non) → Rd ws (.tup (ws.map pc))
theorem step_of {ws:List (List Nat)} (h:Wd ws) {b:Bool} (hb:∀ μ,f_p_is_step [.tup (ws.map pc)] μ = .ok (.bl b) μ) (μ:Mu):f_p_step_of [.str (jn 32 ws)] μ = .ok (if b = true then .tup (ws.map pc) else .non) μ:=by
  have es:mMth gSplit (mVar 0) (mCons (mC (.str w31)) mNil) [some (.str (jn 32 ws)),none] μ = .ok (.lst (ws.map .str)) μ:=v_mth rfl rfl (g_split h.1 (fun w hw z => ((h.2.2 w hw).1 32 z).2.1 rfl) (by have:=h.wt; omega))
  have ec:mComp 1 [] (gN 0) (mOverL (mMth gSplit (mVar 0) (mCons (mC (.str w31)) mNil))) mTT (mCall f_p_part_of (mCons (mVar 0) mNil)) [some (.str (jn 32 ws)),none] μ = .ok (.lst (ws.map pc)) μ:=by
    unfold mComp mOverL
    rw [es]
    show (if (ws.map D.str).length ≤ 16777216 then _ else _) = _
    rw [if_pos (by rw [List.length_map]; have:=h.2.1; omega)]
    show (compGo (gN 0) mTT _ _ [none] μ []).bind _ = _
    rw [pc_comp μ ws h.2.2]
    rfl
  have et:mTru (mCall f_p_is_step (mCons (mVar 1) mNil)) [some (.str (jn 32 ws)),some (.tup (ws.map pc))] μ = .ok b μ:=v_tru (v_call rfl (hb μ)) rfl
  refine v_fn 1 ((v_set 1 (v_callB (v_cons ec v_nil) rfl)).trans (v_ret ?_))
  cases b with
  | true => exact v_ifT et
  | false => exact v_ifF et
theorem step_rd {ws:List (List Nat)} (h:Wd ws):∃ r,(∀ μ,f_p_step_of [.str (jn 32 ws)] μ = .ok r μ) ∧ Rd ws r:=by
  obtain ⟨w0,wr,rfl⟩:∃ a b,ws = a :: b:=by
    cases ws with
    | nil => exact absurd rfl h.1
    | cons a b => exact ⟨a,b,rfl⟩
  obtain ⟨h1,h2⟩:=List.forall_mem_cons.mp h.2.2
  obtain ⟨b,e,hb⟩:=is_any (d0:=pc w0) (ds:=wr.map pc) (pc_PV h1.asc) (fun d hd => by
    obtain ⟨w,hw,rfl⟩:=List.mem_map.mp hd
    exact pc_PV (h2 w hw).asc) (by rw [List.length_map]; have:=h.2.1; rw [List.length_cons] at this; omega)
  refine ⟨_,fun μ => step_of h e μ,?_⟩
  cases b with
  | false => exact .no
  | true => exact .yes e fun w hw => hb rfl (pc w) (List.mem_map_of_mem (f:=pc) hw)
end K40
set_option Elab.async false
set_option linter.all false
set_option maxRecDepth 100000
set_option maxHeartbeats 400000
namespace K40
open PySem PySem.Spec PyProof.Rows L2 M NumText
theorem word_w {w:List Nat} (h1:(w.all fun c => decide (97 ≤ c) && decide (c ≤ 122)) = true) (h2:w.length ≤ 10) (h3:pc w = .str w):∃ v,((Nc v ∧ pc v ≠ .non) ∧ v.length ≤ 10) ∧ pc v = .str w :=
  ⟨w,⟨⟨⟨fun c hc => by
    have:=List.all_eq_true.mp h1 c hc
    simp only [Bool.and_eq_true,decide_eq_true_eq] at this
    omega,by omega⟩,by rw [h3]; intro z; cases z⟩,h2⟩,h3⟩
theorem num_w {n:Nat} (h:n < 4294967296):∃ v,((Nc v ∧ pc v ≠ .non) ∧ v.length ≤ 10) ∧ pc v = .int (n:Nat) :=
  ⟨dgt n,⟨⟨⟨fun c hc => by have:=dgt_all n c hc; omega,by have:=dgt_10 h; omega⟩,by rw [pc_dgt h]; intro z; cases z⟩,dgt_10 h⟩,pc_dgt h⟩
theorem int_w {i:Int} (h0:0 ≤ i) (h:i < 4294967296):∃ v,((Nc v ∧ pc v ≠ .non) ∧ v.length ≤ 10) ∧ pc v = .int i:=by
  obtain ⟨n,rfl⟩:=Int.eq_ofNat_of_zero_le h0
  exact num_w (by omega)
theorem plK_w {k:Kd} {d:D} (h:PlK k d):∃ v,((Nc v ∧ pc v ≠ .non) ∧ v.length ≤ 10) ∧ pc v = d:=by
  cases h with
  | num h1 h2 => exact int_w h1 h2
  | size h => exact int_w (by omega) (by omega)
  | slot h1 h2 => exact int_w h1 (by omega)
  | dist h1 h2 => exact int_w h1 (by omega)
  | base hx => exact at_all (P:=fun x => ∃ v,((Nc v ∧ pc v ≠ .non) ∧ v.length ≤ 10) ∧ pc v = .str x) ⟨word_w rfl (by decide) rfl,word_w rfl (by decide) rfl⟩ _ hx
  | op hx => exact op_all (P:=fun x => ∃ v,((Nc v ∧ pc v ≠ .non) ∧ v.length ≤ 10) ∧ pc v = .str x) ⟨word_w rfl (by decide) rfl,word_w rfl (by decide) rfl,word_w rfl (by decide) rfl,word_w rfl (by decide) rfl,word_w rfl (by decide) rfl,word_w rfl (by decide) rfl,word_w rfl (by decide) rfl,word_w rfl (by decide) rfl,word_w rfl (by decide) rfl,word_w rfl (by decide) rfl⟩ _ hx
  | test hx => exact ts_all (P:=fun x => ∃ v,((Nc v ∧ pc v ≠ .non) ∧ v.length ≤ 10) ∧ pc v = .str x) ⟨word_w rfl (by decide) rfl,word_w rfl (by decide) rfl,word_w rfl (by decide) rfl,word_w rfl (by decide) rfl⟩ _ hx
noncomputable def Sw (ds:List D):Prop:=∃ ws:List (List Nat),(∀ w ∈ ws,(Nc w ∧ pc w ≠ .non) ∧ w.length ≤ 10) ∧ ds = ws.map pc
theorem Sw.nil:Sw []:=⟨[],(fun _ z => nomatch z),rfl⟩
theorem Sw.cons {d:D} {ds:List D} (h:∃ v,((Nc v ∧ pc v ≠ .non) ∧ v.length ≤ 10) ∧ pc v = d) (hs:Sw ds):Sw (d :: ds):=by
  obtain ⟨v,h1,rfl⟩:=h
  obtain ⟨ws,h2,rfl⟩:=hs
  exact ⟨v :: ws,List.forall_mem_cons.mpr ⟨h1,h2⟩,rfl⟩
theorem sh_sw {d:D} {v:Vw} (h:Sh d v):∃ e ds,d = .tup (e :: ds) ∧ Sw (e :: ds) ∧ ds.length ≤ 5:=by
  cases h with
  | load h1 h2 h3 => exact ⟨_,_,rfl,.cons (word_w rfl (by decide) rfl) (.cons (plK_w h1) (.cons (plK_w h2) (.cons (plK_w h3) .nil))),by simp⟩
  | len => exact ⟨_,_,rfl,.cons (word_w rfl (by decide) rfl) .nil,by simp⟩
  | tax => exact ⟨_,_,rfl,.cons (word_w rfl (by decide) rfl) .nil,by simp⟩
  | txa => exact ⟨_,_,rfl,.cons (word_w rfl (by decide) rfl) .nil,by simp⟩
  | tella => exact ⟨_,_,rfl,.cons (word_w rfl (by decide) rfl) .nil,by simp⟩
  | set h => exact ⟨_,_,rfl,.cons (word_w rfl (by decide) rfl) (.cons (plK_w h) .nil),by simp⟩
  | setx h => exact ⟨_,_,rfl,.cons (word_w rfl (by decide) rfl) (.cons (plK_w h) .nil),by simp⟩
  | keep h => exact ⟨_,_,rfl,.cons (word_w rfl (by decide) rfl) (.cons (num_w (by omega)) .nil),by simp⟩
  | fetch h => exact ⟨_,_,rfl,.cons (word_w rfl (by decide) rfl) (.cons (num_w (by omega)) .nil),by simp⟩
  | do_ hx h1 h2 h3 => exact ⟨_,_,rfl,.cons (word_w rfl (by decide) rfl) (.cons (plK_w (.op hx)) (.cons (int_w h1 h2) .nil)),by simp⟩
  | dox h => exact ⟨_,_,rfl,.cons (word_w rfl (by decide) rfl) (.cons (plK_w h) .nil),by simp⟩
  | jump h => exact ⟨_,_,rfl,.cons (word_w rfl (by decide) rfl) (.cons (num_w (by omega)) .nil),by simp⟩
  | if_ h1 h2 h3 h4 => exact ⟨_,_,rfl,.cons (word_w rfl (by decide) rfl) (.cons (plK_w h1) (.cons (plK_w h2) (.cons (num_w (by omega)) (.cons (num_w (by omega)) .nil)))),by simp⟩
  | ifx h1 h2 h3 => exact ⟨_,_,rfl,.cons (word_w rfl (by decide) rfl) (.cons (plK_w h1) (.cons (num_w (by omega)) (.cons (num_w (by omega)) .nil))),by simp⟩
  | tell h => exact ⟨_,_,rfl,.cons (word_w rfl (by decide) rfl) (.cons (plK_w h) .nil),by simp⟩
theorem sh_ws {d:D} {v:Vw} (h:Sh d v):∃ ws,Wd ws ∧ Rd ws d ∧ d ≠ .non ∧ (ws.length ≤ 6 ∧ ∀ w ∈ ws,w.length ≤ 10) ∧ ∀ μ,f_p_step_of [.str (jn 32 ws)] μ = .ok d μ:=by
  obtain ⟨e,ds,rfl,⟨ws,hw,e2⟩,hl⟩:=sh_sw h
  have hn:ws.length = ds.length + 1:=by have:=congrArg List.length e2; simpa using this.symm
  have hW:Wd ws:=⟨(fun z => by rw [z] at hn; cases hn),by omega,fun w hm => (hw w hm).1.1⟩
  have hb:∀ μ,f_p_is_step [.tup (ws.map pc)] μ = .ok (.bl true) μ:=fun μ => by rw [← e2]; exact sh_step h μ
  refine ⟨ws,hW,by rw [e2]; exact .yes hb fun w hm => (hw w hm).1.2,(fun z => by cases z),⟨by omega,fun w hm => (hw w hm).2⟩,fun μ => ?_⟩
  rw [e2]
  exact step_of hW hb μ
theorem g_strc {d:D} (h:PV d) (hn:d ≠ .non):gStrC [d] = some (.str (sh d)):=by
  cases h with
  | non => exact absurd rfl hn
  | str _ => rfl
  | @int i h0 h1 =>
    obtain ⟨n,rfl⟩:=Int.eq_ofNat_of_zero_le h0
    show (if ((n:Nat):Int).natAbs.log2 < 1920 then some (D.str (Str.ofString (toString ((n:Nat):Int))).cps.toList) else none) = _
    have:((n:Nat):Int).natAbs.log2 < 1920:=by
      rw [Int.natAbs_natCast]
      have hn2:n < 4294967296:=by omega
      by_cases z:n = 0
      · subst z; decide
      · exact Nat.lt_of_lt_of_le ((Nat.log2_lt z).mpr (show n < 2 ^ 32 by omega)) (by decide)
    rw [if_pos this,PySem.W.KIN.signs_num]
    rfl
noncomputable abbrev stE:MX:=mCallB gStrC (mCons (mVar 0) mNil)
noncomputable abbrev jnE:MX:=mMth gJoin (mC (.str w31)) (mCons (mComp 1 [] (gN 0) (mOverT (mVar 0)) mTT stE) mNil)
theorem st_comp (μ:Mu):∀ (ws:List (List Nat)),(∀ w ∈ ws,Nc w ∧ pc w ≠ .non) → ∀ (a:Option D) (acc:List D),compGo (gN 0) mTT stE (ws.map pc) [a] μ acc = .ok (acc ++ ws.map .str) μ
  | [],_,a,acc => by simp [compGo]
  | w :: ws,h,a,acc => by
    obtain ⟨h1,h2⟩:=List.forall_mem_cons.mp h
    rw [List.map_cons]
    have hd:∀ d,PV d → deref μ d = d:=fun d hd => by cases hd <;> rfl
    have e:stE [some (pc w)] μ = .ok (.str w) μ:=v_callB (v_cons rfl v_nil) (by
      show gStrC [deref μ (pc w)] = _
      rw [hd _ (pc_PV h1.1.asc),g_strc (pc_PV h1.1.asc) h1.2,pc_sh h1.2])
    refine (v_comp (ρ1:=[some (pc w)]) rfl e).trans ?_
    rw [st_comp μ ws h2,List.append_assoc,List.map_cons,List.singleton_append]
theorem jn_eq {ws:List (List Nat)} (h:Wd ws) (hn:∀ w ∈ ws,pc w ≠ .non) {ρ:En} (hρ:ρ[0]? = some (some (.tup (ws.map pc)))) (μ:Mu):jnE ρ μ = .ok (.str (jn 32 ws)) μ:=by
  have ec:mComp 1 [] (gN 0) (mOverT (mVar 0)) mTT stE ρ μ = .ok (.lst (ws.map .str)) μ:=by
    unfold mComp mOverT
    rw [v_var 0 hρ]
    show (if (ws.map pc).length ≤ 16777216 then _ else _) = _
    rw [if_pos (by rw [List.length_map]; have:=h.2.1; omega)]
    show (compGo (gN 0) mTT stE _ [none] μ []).bind _ = _
    rw [st_comp μ ws fun w hw => ⟨h.2.2 w hw,hn w hw⟩]
    rfl
  exact v_mth rfl (v_cons ec v_nil) (g_join (by have:=h.wt; omega))
theorem line_eq {ws:List (List Nat)} (h:Wd ws) (hn:∀ w ∈ ws,pc w ≠ .non) (μ:Mu):f_p_line_of [.tup (ws.map pc)] μ = .ok (.str (jn 32 ws ++ [10])) μ:=by
  refine v_fn 0 (v_ret (v_bin (jn_eq h hn rfl μ) rfl ?_))
  show (if (jn 32 ws).length + 1 ≤ 16777216 then some (D.str (jn 32 ws ++ [10])) else none) = _
  rw [if_pos (by have:=jn_len 32 ws; have:=h.wt; omega)]
inductive Ls:List (List (List Nat)) → List D → Prop
  | nil:Ls [] []
  | cons {ws:List (List Nat)} {r:D} {L:List (List (List Nat))} {rs:List D}:Wd ws → Rd ws r → (∀ μ,f_p_step_of [.str (jn 32 ws)] μ = .ok r μ) → Ls L rs → Ls (ws :: L) (r :: rs)
theorem Ls.len:∀ {L:List (List (List Nat))} {rs:List D},Ls L rs → rs.length = L.length
  | _,_,.nil => rfl
  | _,_,.cons _ _ _ h => by rw [List.length_cons,List.length_cons,h.len]
theorem Ls.wd:∀ {L:List (List (List Nat))} {rs:List D},Ls L rs → ∀ ws ∈ L,Wd ws
  | _,_,.nil => fun _ z => nomatch z
  | _,_,.cons h _ _ hs => List.forall_mem_cons.mpr ⟨h,hs.wd⟩
theorem Ls.set:∀ {L:List (List (List Nat))} {rs:List D} (i:Nat) {ws:List (List Nat)} {r:D},Ls L rs → Wd ws → Rd ws r → (∀ μ,f_p_step_of [.str (jn 32 ws)] μ = .ok r μ) → Ls (L.set i ws) (rs.set i r)
  | _,_,_,_,_,.nil,_,_,_ => .nil
  | _,_,0,_,_,.cons _ _ _ hs,a,b,c => .cons a b c hs
  | _,_,i + 1,_,_,.cons x y z hs,a,b,c => .cons x y z (hs.set i a b c)
theorem Ls.split:∀ {L:List (List (List Nat))} {rs:List D},Ls L rs → L ≠ [] → ∃ L' ws rs' r,L = L' ++ [ws] ∧ rs = rs' ++ [r] ∧ Ls L' rs' ∧ Wd ws ∧ Rd ws r
  | _,_,.nil,h => absurd rfl h
  | _,_,.cons (ws:=ws) (r:=r) a b c .nil,_ => ⟨[],ws,[],r,rfl,rfl,.nil,a,b⟩
  | _,_,.cons (ws:=ws) (r:=r) a b c (.cons x y z hs),_ => by
    obtain ⟨L',ws',rs',r',e1,e2,h1,h2,h3⟩:=(Ls.cons x y z hs).split (by simp)
    exact ⟨ws :: L',ws',r :: rs',r',by rw [e1]; rfl,by rw [e2]; rfl,.cons a b c h1,h2,h3⟩
theorem rd_plain {ws:List (List Nat)} {r:D} (h:Wd ws) (hr:Rd ws r):plainD r = true ∧ dpt r ≤ 1:=by
  cases hr with
  | no => exact ⟨rfl,Nat.zero_le _⟩
  | yes _ _ =>
    have:∀ vs:List (List Nat),(∀ w ∈ vs,Nc w) → plainDs (vs.map pc) = true ∧ dpts (vs.map pc) = 0:=by
      intro vs
      induction vs with
      | nil => exact fun _ => ⟨rfl,rfl⟩
      | cons w vs ih =>
        intro hv
        obtain ⟨h1,h2⟩:=List.forall_mem_cons.mp hv
        obtain ⟨i1,i2⟩:=ih h2
        have hp:plainD (pc w) = true ∧ dpt (pc w) = 0:=by
          cases hq:pc w with
          | int i => exact ⟨rfl,rfl⟩
          | non => exact ⟨rfl,rfl⟩
          | str x =>
            have:=pc_PV h1.asc
            rw [hq] at this
            cases this with
            | str hx => exact ⟨str_plain hx,rfl⟩
          | _ => have:=pc_PV h1.asc; rw [hq] at this; cases this
        constructor
        · show (plainD (pc w) && plainDs (vs.map pc)) = true
          rw [hp.1,i1]; rfl
        · show max (dpt (pc w)) (dpts (vs.map pc)) = 0
          rw [hp.2,i2]; rfl
    obtain ⟨a,b⟩:=this ws h.2.2
    exact ⟨a,by show dpts (ws.map pc) + 1 ≤ 1; omega⟩
theorem Ls.plain:∀ {L:List (List (List Nat))} {rs:List D},Ls L rs → plainDs rs = true ∧ dpts rs ≤ 1
  | _,_,.nil => ⟨rfl,Nat.zero_le _⟩
  | _,_,.cons (r:=r) (rs:=rs) h1 h2 _ hs => by
    obtain ⟨a,b⟩:=rd_plain h1 h2
    obtain ⟨c,d⟩:=hs.plain
    exact ⟨by show (plainD r && plainDs rs) = true; rw [a,c]; rfl,by show max (dpt r) (dpts rs) ≤ 1; omega⟩
end K40
set_option Elab.async false
set_option linter.all false
set_option maxRecDepth 100000
set_option maxHeartbeats 400000
namespace K40
open PySem PySem.Spec PyProof.Rows L2 M NumText
mutual
theorem eqD_self:∀ d:D,plainD d = true → eqD d d = true
  | .non,_ => rfl
  | .bl b,_ => by simp [eqD]
  | .int i,_ => by simp [eqD]
  | .str x,_ => by simp [eqD]
  | .tup xs,h => by
    simp only [eqD]
    exact eqDs_self xs (by simpa [plainD] using h)
  | .lst xs,h => by
    simp only [eqD]
    exact eqDs_self xs (by simpa [plainD] using h)
  | .dic _ _,h => by simp [plainD] at h
  | .ref _,h => by simp [plainD] at h
theorem eqDs_self:∀ ds:List D,plainDs ds = true → eqDs ds ds = true
  | [],_ => rfl
  | d :: ds,h => by
    simp only [plainDs,Bool.and_eq_true] at h
    simp only [eqDs,eqD_self d h.1,eqDs_self ds h.2,Bool.and_self]
end
theorem v_callX {φ:Fn} {ms:MAs} {ρ:En} {μ μ1:Mu} {ds:List D} {r:Res D} (h:ms ρ μ = .ok ds μ1) (hf:φ ds μ1 = r):mCallX φ ms ρ μ = r:=by unfold mCallX; rw [h]; exact hf
section
variable {ρ:En} {μ μ1:Mu} {x:Exc} {m:MX} {n r:MSt} {es:List D}
theorem x_fn (j:Nat) (h:n (es.map some ++ List.replicate j none) μ = .exc x μ1):fnOf j n es μ = .exc x μ1:=by rw [e_fnOf,h]; rfl
theorem x_seq (h:n ρ μ = .exc x μ1):mSeq n r ρ μ = .exc x μ1:=by unfold mSeq; rw [h]; rfl
theorem log_small {p:Nat} (h:p < 100000):(p:Int).natAbs.log2 < 1920:=by
  have h1:(p:Int).natAbs = p:=Int.natAbs_natCast p
  rw [h1]
  by_cases h0:p = 0
  · subst h0; decide
  · exact (Nat.log2_lt h0).mpr (Nat.lt_of_lt_of_le h (Nat.le_trans (by decide:100000 ≤ 2 ^ 17) (Nat.pow_le_pow_right (by decide) (by decide))))
theorem x_raise {p:Nat} (k:Nat) (h:m ρ μ = .ok (.int p) μ1) (hp:p < 100000):mRaise k m ρ μ = .exc ⟨k,.int p⟩ μ1:=by
  unfold mRaise
  rw [h,bind_ok]
  dsimp only
  rw [if_pos (log_small hp)]
end
theorem flat_jn:∀ xs:List (List Nat),(xs.map fun x => x ++ [10]).flatten = jn 10 (xs ++ [[]])
  | [] => rfl
  | x :: r => by
    rw [List.map_cons,List.flatten_cons,flat_jn r]
    cases r with
    | nil => simp [jn]
    | cons y s => simp [jn]
theorem jn_mem {c d:Nat}:∀ {ws:List (List Nat)},d ∈ jn c ws → d = c ∨ ∃ w ∈ ws,d ∈ w
  | [],h => nomatch h
  | [x],h => .inr ⟨x,List.mem_cons_self,h⟩
  | x :: y :: r,h => by
    rcases List.mem_append.mp (show d ∈ x ++ c :: jn c (y :: r) from h) with h | h
    · exact .inr ⟨x,List.mem_cons_self,h⟩
    · rcases List.mem_cons.mp h with h | h
      · exact .inl h
      · rcases jn_mem h with h | ⟨w,h1,h2⟩
        · exact .inl h
        · exact .inr ⟨w,List.mem_cons_of_mem _ h1,h2⟩
theorem Wd.line {ws:List (List Nat)} (h:Wd ws):(∀ c ∈ jn 32 ws,c < 128 ∧ c ≠ 10) ∧ (jn 32 ws).length ≤ 252:=by
  refine ⟨fun c hc => ?_,Nat.le_trans (jn_len 32 ws) h.wt⟩
  rcases jn_mem hc with z | ⟨w,h1,h2⟩
  · omega
  · have:=(h.2.2 w h1).1 c h2
    omega
noncomputable abbrev lns (L:List (List (List Nat))):List (List Nat):=L.map (jn 32)
theorem so_comp {μ:Mu}:∀ {L:List (List (List Nat))} {rs:List D},Ls L rs → ∀ (a:Option D) (acc:List D),compGo (gN 0) mTT (mCall f_p_step_of (mCons (mVar 0) mNil)) ((lns L).map .str) [a] μ acc = .ok (acc ++ rs) μ
  | _,_,.nil,a,acc => by simp [compGo]
  | _,_,.cons (ws:=ws) (r:=r) _ _ h hs,a,acc => by
    rw [lns,List.map_cons,List.map_cons]
    refine (v_comp (ρ1:=[some (.str (jn 32 ws))]) rfl (v_call rfl (h μ))).trans ?_
    rw [so_comp hs,List.append_assoc,List.singleton_append]
noncomputable def nn (rs:List D):Bool:=inD .non rs
theorem isnon {d:D}:eqD d .non = true → d = .non:=by
  cases d <;> intro h <;> first | rfl | cases h
section
variable {L:List (List (List Nat))} {rs:List D} {z:List Nat} (hL:Ls L rs) (hz:(∀ c ∈ z,c < 128 ∧ c ≠ 10) ∧ z.length ≤ 252) (hn:L.length ≤ 100) (μ:Mu)
noncomputable abbrev tr (L:List (List (List Nat))) (z:List Nat):List Nat:=jn 10 (lns L ++ [z])
noncomputable abbrev e1 (L:List (List (List Nat))) (z:List Nat):D:=.lst ((lns L ++ [z]).map .str)
include hL hz hn
theorem rc_1:mMth gSplit (mVar 0) (mCons (mC (.str w33)) mNil) [some (.str (tr L z)),none,none] μ = .ok (e1 L z) μ:=by
  have hw:∀ w ∈ lns L ++ [z],(∀ c ∈ w,c < 128 ∧ c ≠ 10) ∧ w.length ≤ 252:=fun w hw => by
    rcases List.mem_append.mp hw with h | h
    · obtain ⟨ws,h1,rfl⟩:=List.mem_map.mp h
      exact (hL.wd ws h1).line
    · rw [List.mem_singleton.mp h]; exact hz
  refine v_mth rfl rfl (g_split (by simp) (fun w h y => ((hw w h).1 10 y).2 rfl) ?_)
  have h1:=wt_le (k:=252) fun w h => (hw w h).2
  have h2:(lns L ++ [z]).length = L.length + 1:=by simp
  rw [h2] at h1
  omega
theorem rc_2:mComp 1 [] (gN 0) (mOverL (mSl (mVar 1) mNoP (mPart (mNeg (mC (.int 1)))))) mTT (mCall f_p_step_of (mCons (mVar 0) mNil)) [some (.str (tr L z)),some (e1 L z),none] μ = .ok (.lst rs) μ:=by
  have es:mSl (mVar 1) mNoP (mPart (mNeg (mC (.int 1)))) [some (.str (tr L z)),some (e1 L z),none] μ = .ok (.lst ((lns L).map .str)) μ:=by
    show ofO μ (some (D.lst (M.cutD ((lns L ++ [z]).map .str) none (some (-1))))) = _
    unfold M.cutD
    have:HT.sIx ((lns L ++ [z]).map D.str).length 0 none = 0:=rfl
    rw [this]
    have c2:HT.sIx ((lns L ++ [z]).map D.str).length ((lns L ++ [z]).map D.str).length (some (-1)) = (lns L).length:=by
      have:((lns L ++ [z]).map D.str).length = (lns L).length + 1:=by simp
      rw [this]
      unfold HT.sIx
      simp
      try omega
    rw [c2,Nat.sub_zero,List.drop_zero,List.map_append,List.take_left' (by simp)]
    rfl
  unfold mComp mOverL
  rw [es]
  show (if ((lns L).map D.str).length ≤ 16777216 then _ else _) = _
  rw [if_pos (by simp; omega)]
  show (compGo (gN 0) mTT _ _ [none] μ []).bind _ = _
  rw [so_comp hL]
  rfl
theorem rc_3:mTest (mBin gIn (mC .non) (mVar 2)) [some (.str (tr L z)),some (e1 L z),some (.lst rs)] μ = .ok (nn rs) μ:=by
  refine v_test (v_bin rfl rfl ?_)
  show (if inOk .non rs = true then some (D.bl (inD .non rs)) else none) = _
  have:inOk .non rs = true:=by
    unfold inOk
    rw [hL.plain.1]
    rfl
  rw [if_pos this]
  rfl
theorem rc_no {j:Nat} (hj:ixD .non rs = some j) (h3:nn rs = true):f_p_read_code [.str (tr L z)] μ = .exc ⟨0,.int ((j + 1:Nat):Int)⟩ μ:=by
  have e3:=rc_3 hL hz hn μ
  rw [h3] at e3
  have hjl:j < rs.length:=by
    unfold ixD at hj
    have:=(List.findIdx?_eq_some_iff_getElem.mp hj).1
    simpa using this
  have ei:mIndex (mVar 2) (mC .non) [some (.str (tr L z)),some (e1 L z),some (.lst rs)] μ = .ok (.int (j:Nat)) μ:=by
    show ofO μ (if inOk .non rs && decide (rs.length ≤ 16777216) then (ixD .non rs).map fun j => D.int j else none) = _
    have:inOk .non rs = true:=by
      unfold inOk
      rw [hL.plain.1]
      rfl
    rw [this,decide_eq_true (by rw [hL.len]; omega),hj]
    rfl
  refine x_fn 2 ((v_set 1 (rc_1 hL hz hn μ)).trans ((v_set 2 (rc_2 hL hz hn μ)).trans (x_seq ((v_iteT e3).trans (x_raise 0 (v_bin ei rfl ?_) (by rw [hL.len] at hjl; omega))))))
  show some (D.int ((j:Int) + 1)) = _
  rfl
theorem rc_4 {b:Bool} (hb:(z == []) = !b) (ρ2:Option D):mTest (mBin gNe (mBin gIdx (mVar 1) (mNeg (mC (.int 1)))) (mC (.str w32))) [some (.str (tr L z)),some (e1 L z),ρ2] μ = .ok b μ:=by
  refine v_test (v_bin (x:=.str z) (v_bin (y:=.int (-1)) rfl rfl ?_) rfl ?_)
  · show atI ((lns L ++ [z]).map D.str) (-1) = _
    have:ixN ((lns L ++ [z]).map D.str).length (-1) = some (lns L).length:=by
      have:((lns L ++ [z]).map D.str).length = (lns L).length + 1:=by simp
      rw [this]
      unfold ixN
      rw [if_neg (by decide),if_pos (by omega)]
      congr 1
      omega
    unfold atI
    rw [this]
    show ((lns L ++ [z]).map D.str)[(lns L).length]? = _
    rw [List.map_append,List.getElem?_append_right (by simp)]
    simp
  · refine (ne_str (str_plain fun c hc => (hz.1 c hc).1) (by decide)).trans ?_
    show some (D.bl (!(z == []))) = _
    rw [hb,Bool.not_not]
theorem rc_end (h3:nn rs = false) (hb:z ≠ []):f_p_read_code [.str (tr L z)] μ = .exc ⟨0,.int ((L.length + 1:Nat):Int)⟩ μ:=by
  have e3:=rc_3 hL hz hn μ
  rw [h3] at e3
  have e4:=rc_4 hL hz hn μ (b:=true) (beq_eq_false_iff_ne.mpr hb) (some (.lst rs))
  refine x_fn 2 ((v_set 1 (rc_1 hL hz hn μ)).trans ((v_set 2 (rc_2 hL hz hn μ)).trans ((v_skip e3).trans (x_seq ((v_iteT e4).trans (x_raise 0 (v_callB (v_cons rfl v_nil) ?_) (by omega)))))))
  show some (D.int (((lns L ++ [z]).map D.str).length:Nat)) = _
  simp
theorem rc_ok (h3:nn rs = false) (hb:z = []):f_p_read_code [.str (tr L z)] μ = .ok (.lst rs) μ:=by
  have e3:=rc_3 hL hz hn μ
  rw [h3] at e3
  have e4:=rc_4 hL hz hn μ (b:=false) (by rw [hb]; rfl) (some (.lst rs))
  exact v_fn 2 ((v_set 1 (rc_1 hL hz hn μ)).trans ((v_set 2 (rc_2 hL hz hn μ)).trans ((v_skip e3).trans ((v_skip e4).trans (v_ret rfl)))))
end
noncomputable def xm (μ:Mu) (q:Nat):Mu:=μ ++ [.xdc "line" (.int q)] ++ [.exn "BadLine" μ.length]
theorem xm_e {μ:Mu} {q:Nat}:(xm μ q)[μ.length + 1]? = some (.exn "BadLine" μ.length):=by
  unfold xm
  rw [List.getElem?_append_right (by simp)]
  simp
theorem xm_d {μ:Mu} {q:Nat}:(xm μ q)[μ.length]? = some (.xdc "line" (.int q)):=by
  unfold xm
  rw [List.append_assoc,List.getElem?_append_right (Nat.le_refl _),Nat.sub_self]
  rfl
theorem isx {μ:Mu} {q:Nat} {g:Str → Option Bool} {b:Bool} {ρ:En} (hρ:ρ[3]? = some (some (.ref (μ.length + 1)))) (hg:g "BadLine" = some b):mTru (mIsX g (mVar 3)) ρ (xm μ q) = .ok b (xm μ q):=by
  refine v_tru (d:=.bl b) ?_ rfl
  unfold mIsX
  rw [v_var 3 hρ,bind_ok]
  unfold isxD
  dsimp only
  rw [xm_e]
  dsimp only
  rw [xm_d]
  dsimp only
  rw [hg]
  rfl
theorem xat {μ:Mu} {q:Nat} {ρ:En} {ok:Str → Bool} (hρ:ρ[3]? = some (some (.ref (μ.length + 1)))) (hg:ok "BadLine" = true):mXat ok "line" (mVar 3) ρ (xm μ q) = .ok (.int q) (xm μ q):=by
  unfold mXat
  rw [v_var 3 hρ,bind_ok]
  dsimp only
  rw [xm_e]
  dsimp only
  rw [xm_d]
  dsimp only
  rw [if_pos ⟨hg,rfl⟩]
theorem read_no {t:List Nat} {q:Nat} {μ:Mu} (h:f_p_read_code [.str t] μ = .exc ⟨0,.int (q:Nat)⟩ μ):f_read [.str t] μ = .ok (.tup [.non,.int q]) (xm μ q):=by
  have es:t_read_1 [some (.str t),some .non,some (.int 0),some (.ref (μ.length + 1))] (xm μ q) = .ok (.nx [some (.str t),some .non,some (.int q),some (.ref (μ.length + 1))]) (xm μ q):=by
    unfold t_read_1
    refine (v_set 2 (d:=.int q) (μ1:=xm μ q) ?_).trans ?_
    · exact (v_ifT ((v_andT (isx rfl (by decide +kernel))).trans (isx rfl (by decide +kernel)))).trans (xat rfl (by decide +kernel))
    · exact v_iteF (isx rfl (by decide +kernel))
  have et:mTryK 1 3 (fun k => k == 0) xc (mCallX f_p_read_code (mCons (mVar 0) mNil)) t_read_1 [some (.str t),some .non,some (.int 0),none] μ = .ok (.nx [some (.str t),some .non,some (.int q),none]) (xm μ q):=by
    unfold mTryK
    rw [v_callX (v_cons rfl v_nil) h]
    dsimp only
    rw [if_pos (show ((0:Nat) == 0) = true from rfl)]
    show (noX (t_read_1 [some (.str t),some .non,some (.int 0),some (.ref (μ.length + 1))] (xm μ q))).bind _ = _
    rw [es]
    rfl
  exact v_fn 3 ((v_set 1 rfl).trans ((v_set 2 rfl).trans ((v_seqN et).trans (v_ret rfl))))
theorem read_ok {t:List Nat} {d:D} {μ:Mu} (h:f_p_read_code [.str t] μ = .ok d μ):f_read [.str t] μ = .ok (.tup [d,.int 0]) μ:=by
  have et:mTryK 1 3 (fun k => k == 0) xc (mCallX f_p_read_code (mCons (mVar 0) mNil)) t_read_1 [some (.str t),some .non,some (.int 0),none] μ = .ok (.nx [some (.str t),some d,some (.int 0),none]) μ:=by
    unfold mTryK
    rw [v_callX (v_cons rfl v_nil) h]
    rfl
  exact v_fn 3 ((v_set 1 rfl).trans ((v_set 2 rfl).trans ((v_seqN et).trans (v_ret rfl))))
theorem li_comp {μ:Mu}:∀ {L:List (List (List Nat))} {rs:List D},Ls L rs → (∀ r ∈ rs,r ≠ .non) → ∀ (a:Option D) (acc:List D),compGo (gN 0) mTT (mCall f_p_line_of (mCons (mVar 0) mNil)) rs [a] μ acc = .ok (acc ++ ((lns L).map fun x => x ++ [10]).map .str) μ
  | _,_,.nil,_,a,acc => by simp [compGo]
  | _,_,.cons (ws:=ws) h1 h2 _ hs,hn,a,acc => by
    obtain ⟨n1,n2⟩:=List.forall_mem_cons.mp hn
    cases h2 with
    | no => exact absurd rfl n1
    | yes _ hw =>
      refine (v_comp (ρ1:=[some (.tup (ws.map pc))]) rfl (v_call rfl (line_eq h1 hw μ))).trans ?_
      rw [li_comp hs n2,List.append_assoc]
      rfl
theorem flat_wt {xs:List (List Nat)} {k:Nat} (h:∀ x ∈ xs,x.length ≤ k):wt (xs.map fun x => x ++ [10]) ≤ xs.length * (k + 2):=by
  have:=wt_le (ws:=xs.map fun x => x ++ [10]) (k:=k + 1) fun w hw => by
    obtain ⟨x,hx,rfl⟩:=List.mem_map.mp hw
    have:=h x hx
    rw [List.length_append]
    simp only [List.length_singleton]
    omega
  rw [List.length_map] at this
  exact this
theorem lns_len {L:List (List (List Nat))} {rs:List D} (h:Ls L rs):∀ x ∈ lns L,(∀ c ∈ x,c < 128 ∧ c ≠ 10) ∧ x.length ≤ 252:=fun x hx => by
  obtain ⟨ws,h1,rfl⟩:=List.mem_map.mp hx
  exact (h.wd ws h1).line
theorem written_eq {L:List (List (List Nat))} {rs:List D} (h:Ls L rs) (hn:∀ r ∈ rs,r ≠ .non) (hl:L.length ≤ 100) (μ:Mu):f_p_written [.lst rs] μ = .ok (.str (tr L [])) μ:=by
  have ec:mComp 1 [] (gN 0) (mOverL (mVar 0)) mTT (mCall f_p_line_of (mCons (mVar 0) mNil)) [some (.lst rs)] μ = .ok (.lst (((lns L).map fun x => x ++ [10]).map .str)) μ:=by
    unfold mComp
    show (if rs.length ≤ 16777216 then _ else _) = _
    rw [if_pos (by rw [h.len]; omega)]
    show (compGo (gN 0) mTT _ _ [none] μ []).bind _ = _
    rw [li_comp h hn]
    rfl
  refine v_fn 0 (v_ret (v_mth rfl (v_cons ec v_nil) ((g_cat ?_).trans (by rw [flat_jn]))))
  have:=flat_wt (k:=252) fun x hx => (lns_len h x hx).2
  rw [List.length_map] at this
  omega
end K40
set_option Elab.async false
set_option linter.all false
set_option maxRecDepth 100000
set_option maxHeartbeats 400000
namespace K40
open PySem PySem.Spec PyProof.Rows L2 M NumText
noncomputable abbrev dStep:MX:=mCall f_step (mCons (mVar 1) (mCons (mBin gMul (mC (.int 4)) (mVar 0)) (mCons (mC (.int 2000)) mNil)))
theorem d_comp (ns:List Int):∀ (m p:Nat) (a:Option D) (acc:List D),∃ L ds,compGo (gN 0) mTT dStep (iL (List.range' p m)) [a,some (sc ns)] [] acc = .ok (acc ++ ds) [] ∧ Ls L ds ∧ (∀ d ∈ ds,d ≠ .non) ∧ L.length = m ∧ ∀ ws ∈ L,ws.length ≤ 6 ∧ ∀ w ∈ ws,w.length ≤ 10
  | 0,p,a,acc => ⟨[],[],by simp [compGo,iL],.nil,(fun _ z => nomatch z),rfl,fun _ z => nomatch z⟩
  | m + 1,p,a,acc => by
    obtain ⟨d,v,e,hs⟩:=step_sh ns (4 * p) 2000 (by decide) (by decide)
    obtain ⟨ws,h1,h2,h3,h4,h5⟩:=sh_ws hs
    obtain ⟨L,ds,ih,i1,i2,i3,i4⟩:=d_comp ns m (p + 1) (some (.int p)) (acc ++ [d])
    refine ⟨ws :: L,d :: ds,?_,.cons h1 h2 h5 i1,List.forall_mem_cons.mpr ⟨h3,i2⟩,by rw [List.length_cons,i3],List.forall_mem_cons.mpr ⟨h4,i4⟩⟩
    have e1:dStep [some (.int p),some (sc ns)] [] = .ok d []:=by
      refine v_call (v_cons rfl (v_cons (v_bin (x:=.int 4) (y:=.int (p:Int)) (z:=.int ((4 * p:Nat):Int)) rfl rfl ?_) (v_cons rfl v_nil))) e
      exact (g_mulL _ _ (by decide) (by decide)).trans (by congr 2)
    rw [iL_cons]
    refine (v_comp (ds:=iL (List.range' (p + 1) m)) rfl e1).trans (ih.trans ?_)
    rw [List.append_assoc,List.singleton_append]
theorem jl_comp {μ:Mu}:∀ {L:List (List (List Nat))} {rs:List D},Ls L rs → (∀ r ∈ rs,r ≠ .non) → ∀ (a:Option D) (acc:List D),compGo (gN 0) mTT jnE rs [a] μ acc = .ok (acc ++ (lns L).map .str) μ
  | _,_,.nil,_,a,acc => by simp [compGo]
  | _,_,.cons (ws:=ws) h1 h2 _ hs,hn,a,acc => by
    obtain ⟨n1,n2⟩:=List.forall_mem_cons.mp hn
    cases h2 with
    | no => exact absurd rfl n1
    | yes _ hw =>
      refine (v_comp (ρ1:=[some (.tup (ws.map pc))]) rfl (jn_eq h1 hw rfl μ)).trans ?_
      rw [jl_comp hs n2,List.append_assoc]
      rfl
noncomputable abbrev apE:MX:=mBin gAdd (mVar 0) (mC (.str w33))
noncomputable abbrev catE:MX:=mMth gJoin (mC (.str w32)) (mCons (mCompW 1 [] (gN 0) (mVar 2) mTT apE) mNil)
theorem ap_comp {μ:Mu}:∀ (xs:List (List Nat)),(∀ x ∈ xs,x.length ≤ 252) → ∀ (a:Option D) (acc:List D),compGo (gN 0) mTT apE (xs.map .str) [a] μ acc = .ok (acc ++ (xs.map fun x => x ++ [10]).map .str) μ
  | [],_,a,acc => by simp [compGo]
  | x :: xs,h,a,acc => by
    obtain ⟨h1,h2⟩:=List.forall_mem_cons.mp h
    have e:apE [some (.str x)] μ = .ok (.str (x ++ [10])) μ:=v_bin rfl rfl (by
      show (if x.length + 1 ≤ 16777216 then some (D.str (x ++ [10])) else none) = _
      rw [if_pos (by omega)])
    rw [List.map_cons]
    refine (v_comp (ρ1:=[some (.str x)]) rfl e).trans ?_
    rw [ap_comp xs h2,List.append_assoc,List.map_cons,List.map_cons,List.singleton_append]
theorem cat_eq {L:List (List (List Nat))} {rs:List D} (hL:Ls L rs) (hl:L.length ≤ 100) {ρ:En} (hρ:ρ[2]? = some (some (.ref 0))):catE ρ [.lst ((lns L).map .str)] = .ok (.str (tr L [])) [.lst ((lns L).map .str)]:=by
  have hx:=lns_len hL
  have ec:mCompW 1 [] (gN 0) (mVar 2) mTT apE ρ [.lst ((lns L).map .str)] = .ok (.lst (((lns L).map fun x => x ++ [10]).map .str)) [.lst ((lns L).map .str)]:=by
    unfold mCompW
    rw [v_var 2 hρ,bind_ok]
    show (if ((lns L).map D.str).length ≤ 16777216 then (compGo (gN 0) mTT apE ((lns L).map D.str) [none] [.dead] []).bind _ else _) = _
    rw [if_pos (by simp; omega),ap_comp _ fun x h => (hx x h).2]
    rfl
  refine v_mth rfl (v_cons ec v_nil) ((g_cat ?_).trans (by rw [flat_jn]))
  have:=flat_wt (k:=252) fun x h => (hx x h).2
  rw [List.length_map] at this
  omega
theorem tr_plain {L:List (List (List Nat))} {rs:List D} (hL:Ls L rs):plainD (.str (tr L [])) = true:=by
  refine str_plain fun c hc => ?_
  rcases jn_mem hc with z | ⟨w,h1,h2⟩
  · omega
  · rcases List.mem_append.mp h1 with h | h
    · exact ((lns_len hL w h).1 c h2).1
    · rw [List.mem_singleton.mp h] at h2; exact nomatch h2
theorem ne_tup {rs:List D} (h1:plainDs rs = true) (h2:dpts rs ≤ 1):gNe (.tup [.lst rs,.int 0]) (.tup [.lst rs,.int 0]) = some (.bl false):=by
  have h3:plainD (.tup [.lst rs,.int 0]) = true:=by simp [plainD,plainDs,h1]
  unfold gNe cmpOk
  rw [h3,decide_eq_true (by rw [Nat.min_self]; simp [dpt,dpts]; omega),eqD_self _ h3]
  rfl
theorem eq_told (q:Nat):gEq (.tup [.non,.int q]) (.tup [.non,.int q]) = some (.bl true):=by
  show some (D.bl (true && (((q:Int) == (q:Int)) && true))) = _
  simp
theorem cut_to {ws:List D} {k:Nat} (h:k ≤ ws.length):M.cutD ws none (some (k:Int)) = ws.take k:=by
  unfold M.cutD
  have c1:HT.sIx ws.length 0 none = 0:=rfl
  have c2:HT.sIx ws.length ws.length (some (k:Int)) = k:=by
    unfold HT.sIx
    simp
    rw [if_neg (by omega)]
    omega
  rw [c1,c2,Nat.sub_zero,List.drop_zero]
theorem cut_from {ws:List D} {k:Nat} (h:k ≤ ws.length):M.cutD ws (some (k:Int)) none = ws.drop k:=by
  unfold M.cutD
  have c1:HT.sIx ws.length ws.length none = ws.length:=rfl
  have c2:HT.sIx ws.length 0 (some (k:Int)) = k:=by
    unfold HT.sIx
    simp
    rw [if_neg (by omega)]
    omega
  rw [c1,c2]
  exact List.take_of_length_le (by simp)
theorem at_n {L:List D} {a:Nat} (h:a < L.length):gIdx (.lst L) (.int (a:Int)) = some L[a]:=by
  show atI L (a:Int) = _
  rw [atI_pos (by omega),Int.toNat_natCast,List.getElem?_eq_getElem h]
theorem pick {L:List D} {i:Int} (n:Nat) (hl:L.length = n) (h0:0 < n):∃ d ∈ L,gIdx (.lst L) (.int (i % (n:Int))) = some d:=by
  have a1:=Int.emod_nonneg i (b:=(n:Int)) (by omega)
  have a2:=Int.emod_lt_of_pos i (b:=(n:Int)) (by omega)
  have hk:(i % (n:Int)).toNat < L.length:=by omega
  refine ⟨L[(i % (n:Int)).toNat],List.getElem_mem hk,?_⟩
  show atI L (i % (n:Int)) = _
  rw [atI_pos a1,List.getElem?_eq_getElem hk]
theorem v_isN {m:MX} {ρ:En} {μ:Mu} {d:D} (h:m ρ μ = .ok d μ):mTest (mIsN m) ρ μ = .ok (isN d) μ:=v_test (by rw [e_isN,h]; rfl)
theorem mod_nat {ns:List Int} {k n:Nat} (h:0 < n):∃ a:Nat,a < n ∧ mix ns k % (n:Int) = (a:Int):=by
  have a1:=Int.emod_nonneg (mix ns k) (b:=(n:Int)) (by omega)
  have a2:=Int.emod_lt_of_pos (mix ns k) (b:=(n:Int)) (by omega)
  exact ⟨(mix ns k % (n:Int)).toNat,by omega,by omega⟩
theorem v_store {mo mi mv:MX} {ρ:En} {xs:List D} {j:Nat} {v:D} (hv:mv ρ [.lst xs] = .ok v [.lst xs]) (ho:mo ρ [.lst xs] = .ok (.ref 0) [.lst xs]) (hi:mi ρ [.lst xs] = .ok (.int j) [.lst xs]) (hj:j < xs.length):mStore mo mi mv ρ [.lst xs] = .ok (.nx ρ) [.lst (xs.set j v)]:=by
  unfold mStore
  rw [hv,bind_ok,ho,bind_ok,hi,bind_ok]
  unfold storeC
  show (match ixN xs.length (j:Int) with
    | some n => Res.ok (Out.nx ρ) [Cell.lst (xs.set n v)]
    | none => .bad) = _
  have:ixN xs.length (j:Int) = some j:=by
    unfold ixN
    rw [if_pos (by omega),if_pos (by omega)]
    simp
  rw [this]
end K40
set_option Elab.async false
set_option linter.all false
set_option maxRecDepth 100000
set_option maxHeartbeats 400000
namespace K40
open PySem PySem.Spec PyProof.Rows L2 M NumText
noncomputable abbrev smL:List (List Nat):=[w32,w_0,w_01,w_x,w_len,w_4294967296,w44,w_jump,w_keep,w_2001]
theorem sm_nc:∀ x ∈ smL,Nc x:=by
  have h:∀ x ∈ smL,(x.all fun c => decide (c < 128) && decide (c ≠ 32) && decide (c ≠ 10)) = true ∧ x.length ≤ 20:=by decide
  intro x hx
  obtain ⟨h1,h2⟩:=h x hx
  refine ⟨fun c hc => ?_,h2⟩
  have:=List.all_eq_true.mp h1 c hc
  simp only [Bool.and_eq_true,decide_eq_true_eq] at this
  omega
theorem ways {ws:List (List Nat)} {sm:List Nat} {k:Nat} (hw:∀ w ∈ ws,Nc w) (h6:ws.length ≤ 6) (h10:∀ w ∈ ws,w.length ≤ 10) (hs:Nc sm) (hk:k < ws.length):∀ vs ∈ [ws.take k ++ [sm] ++ ws.drop (k + 1),ws ++ [sm],ws.take k,ws.take k ++ [48 :: ws[k]]],vs.length ≤ 12 ∧ ∀ w ∈ vs,Nc w:=by
  have ht:∀ w ∈ ws.take k,Nc w:=fun w h => hw w (List.mem_of_mem_take h)
  have hd:∀ w ∈ ws.drop (k + 1),Nc w:=fun w h => hw w (List.mem_of_mem_drop h)
  have h0:Nc (48 :: ws[k]):=by
    have hm:ws[k] ∈ ws:=List.getElem_mem hk
    refine ⟨List.forall_mem_cons.mpr ⟨by decide,(hw _ hm).1⟩,?_⟩
    have:=h10 _ hm
    rw [List.length_cons]
    omega
  simp only [List.forall_mem_cons,List.not_mem_nil,false_implies,implies_true,and_true]
  refine ⟨⟨by simp; omega,fun w h => ?_⟩,⟨by simp; omega,fun w h => ?_⟩,⟨by simp; omega,ht⟩,⟨by simp; omega,fun w h => ?_⟩⟩
  · rcases List.mem_append.mp h with h | h
    · rcases List.mem_append.mp h with h | h
      · exact ht w h
      · rw [List.mem_singleton.mp h]; exact hs
    · exact hd w h
  · rcases List.mem_append.mp h with h | h
    · exact hw w h
    · rw [List.mem_singleton.mp h]; exact hs
  · rcases List.mem_append.mp h with h | h
    · exact ht w h
    · rw [List.mem_singleton.mp h]; exact h0
theorem w_eq (ws:List (List Nat)) (i:Nat) (x:List Nat):(ws.map D.str).set i (.str x) = (ws.set i x).map .str:=by rw [List.map_set]
theorem no_first {ds:List D} {a:Nat} (hn:∀ d ∈ ds,d ≠ .non) (ha:a < ds.length):ixD .non (ds.set a .non) = some a ∧ nn (ds.set a .non) = true:=by
  constructor
  · unfold ixD
    rw [List.findIdx?_eq_some_iff_getElem]
    refine ⟨by simpa using ha,?_,fun j hj => ?_⟩
    · simp [eqD]
    · have hne:ds[j]'(by omega) ≠ .non:=hn _ (List.getElem_mem _)
      simp only [List.getElem_map,List.getElem_set,id]
      rw [if_neg (by omega)]
      intro z
      exact hne (isnon z)
  · unfold nn inD
    rw [List.any_eq_true]
    exact ⟨.non,List.mem_set (by simpa using ha) _,rfl⟩
theorem all_is {μ:Mu}:∀ {L:List (List (List Nat))} {rs:List D},Ls L rs → (∀ r ∈ rs,r ≠ .non) → ∀ (a:Option D) (acc:List D),compGo (gN 0) mTT (mCall f_p_is_step (mCons (mVar 0) mNil)) rs [a] μ acc = .ok (acc ++ (rs.map fun _ => true).map .bl) μ
  | _,_,.nil,_,a,acc => by simp [compGo]
  | _,_,.cons (ws:=ws) h1 h2 _ hs,hn,a,acc => by
    obtain ⟨n1,n2⟩:=List.forall_mem_cons.mp hn
    cases h2 with
    | no => exact absurd rfl n1
    | yes he _ =>
      refine (v_comp (ρ1:=[some (.tup (ws.map pc))]) rfl (v_call rfl (he μ))).trans ?_
      rw [all_is hs n2,List.append_assoc]
      rfl
theorem last_ne {ws:List (List Nat)} {r:D} (h:Wd ws) (hr:Rd ws r) (hn:r ≠ .non):jn 32 ws ≠ []:=by
  intro z
  have e:ws = [[]]:=jn_inj (c:=32) h.1 (by simp) (fun w hw y => ((h.2.2 w hw).1 32 y).2.1 rfl) (by simp) (z.trans rfl)
  subst e
  cases hr with
  | no => exact hn rfl
  | yes he _ =>
    have:=he []
    have e2:f_p_is_step [.tup (([[]]:List (List Nat)).map pc)] [] = .ok (.bl false) []:=rfl
    rw [e2] at this
    cases this
noncomputable abbrev told (d:D) (k:Nat):D:=.tup [d,.int k]
noncomputable abbrev tail10:MSt:=(mSeq (mSet 9 (mCall f_read (mCons catE mNil)))
    (mSeq (mIte (mTest (mIsN (mBin gIdx (mVar 9) (mC (.int 0)))))
    (mRet (mBin gEq (mBin gIdx (mVar 9) (mC (.int 1))) (mBin gAdd (mVar 4) (mC (.int 1)))))
    mSkip)
    (mSeq (mIte (mOr (mNot (mTru (mCallB gAll (mCons (mComp 1 [] (gN 0) (mOverL (mBin gIdx (mVar 9) (mC (.int 0)))) mTT (mCall f_p_is_step (mCons (mVar 0) mNil))) mNil)))) (mTest (mBin gNe (mCall f_p_written (mCons (mBin gIdx (mVar 9) (mC (.int 0))) mNil)) catE)))
    (mRet (mC (.bl false)))
    mSkip)
    (mRet (mBin gEq (mCall f_read (mCons (mMth gJoin (mC (.str w33)) (mCons (mVar 2) mNil)) mNil)) (mTup (mCons (mC .non) (mCons (mCallB gLen (mCons (mVar 2) mNil)) mNil))))))))
theorem tail_eq {L:List (List (List Nat))} {ds:List D} {a:Nat} {vs:List (List Nat)} (hL:Ls L ds) (hn:∀ d ∈ ds,d ≠ .non) (hl:L.length ≤ 10) (ha:a < L.length) (hv:Wd vs) {x0 x1 x3 x5 x6 x7 x8:Option D} :
    ∃ μ,tail10 [x0,x1,some (.ref 0),x3,some (.int a),x5,x6,x7,x8,none] [.lst ((lns (L.set a vs)).map .str)] = .ok (.rt (.bl true)) μ:=by
  obtain ⟨r,hr,hR⟩:=step_rd hv
  have hL':=hL.set a hv hR hr
  have hl':(L.set a vs).length ≤ 100:=by rw [List.length_set]; omega
  have hz:(∀ c ∈ ([]:List Nat),c < 128 ∧ c ≠ 10) ∧ ([]:List Nat).length ≤ 252:=⟨(fun _ z => nomatch z),by decide⟩
  have ec:=fun (ρ:En) h => cat_eq (ρ:=ρ) hL' hl' h
  by_cases hrn:r = .non
  · subst hrn
    obtain ⟨f1,f2⟩:=no_first hn (a:=a) (by rw [hL.len]; exact ha)
    have e9:=read_no (rc_no hL' hz hl' [.lst ((lns (L.set a vs)).map .str)] f1 f2)
    refine ⟨xm [.lst ((lns (L.set a vs)).map .str)] (a + 1),(v_set 9 (v_call (v_cons (ec _ rfl) v_nil) e9)).trans (v_take (v_isN (d:=.non) rfl) (v_bin (x:=.int ((a + 1:Nat):Int)) (y:=.int ((a:Int) + 1)) rfl rfl ?_))⟩
    show some (D.bl ((((a + 1:Nat):Int)) == ((a:Int) + 1))) = _
    simp
  · have hn':∀ d ∈ ds.set a r,d ≠ .non:=fun d hd => by
      rcases List.mem_or_eq_of_mem_set hd with h | h
      · exact hn d h
      · rw [h]; exact hrn
    have h3:nn (ds.set a r) = false:=by
      cases hq:nn (ds.set a r) with
      | false => rfl
      | true =>
        obtain ⟨y,hy,e⟩:=List.any_eq_true.mp (show (ds.set a r).any (fun y => eqD y .non) = true from hq)
        exact absurd (isnon e) (hn' y hy)
    have e9:=read_ok (rc_ok hL' hz hl' [.lst ((lns (L.set a vs)).map .str)] h3 rfl)
    obtain ⟨L2,wl,rs2,rl,q1,q2,hL2,hwl,hRl⟩:=hL'.split (by intro z; have:=congrArg List.length z; rw [List.length_set] at this; simp at this; rw [this] at ha; exact absurd ha (Nat.not_lt_zero _))
    have hn2:∀ d ∈ rs2,d ≠ .non:=fun d hd => hn' d (by rw [q2]; exact List.mem_append_left _ hd)
    have hnl:rl ≠ .non:=hn' rl (by rw [q2]; simp)
    have h32:nn rs2 = false:=by
      cases hq:nn rs2 with
      | false => rfl
      | true =>
        obtain ⟨y,hy,e⟩:=List.any_eq_true.mp (show rs2.any (fun y => eqD y .non) = true from hq)
        exact absurd (isnon e) (hn2 y hy)
    have hlen:(L.set a vs).length = L2.length + 1:=by rw [q1]; simp
    have ex:=read_no (rc_end hL2 hwl.line (by omega) [.lst ((lns (L.set a vs)).map .str)] h32 (last_ne hwl hRl hnl))
    have et:tr L2 (jn 32 wl) = jn 10 (lns (L.set a vs)):=by
      show jn 10 (lns L2 ++ [jn 32 wl]) = _
      rw [q1,lns,lns,List.map_append]
      rfl
    rw [et] at ex
    have ea:mComp 1 [] (gN 0) (mOverL (mBin gIdx (mVar 9) (mC (.int 0)))) mTT (mCall f_p_is_step (mCons (mVar 0) mNil)) [x0,x1,some (.ref 0),x3,some (.int a),x5,x6,x7,x8,some (told (.lst (ds.set a r)) 0)] [.lst ((lns (L.set a vs)).map .str)] = .ok (.lst (((ds.set a r).map fun _ => true).map .bl)) [.lst ((lns (L.set a vs)).map .str)]:=by
      unfold mComp
      show (if (ds.set a r).length ≤ 16777216 then _ else _) = _
      rw [if_pos (by rw [hL'.len]; omega)]
      show (compGo (gN 0) mTT _ _ [none] _ []).bind _ = _
      rw [all_is hL' hn']
      rfl
    have eg:gAll [.lst (((ds.set a r).map fun _ => true).map .bl)] = some (.bl true):=by
      show (blsOf _).map _ = _
      rw [bls_of]
      show some (D.bl (((ds.set a r).map fun _ => true).all id)) = _
      rw [List.all_map,show (ds.set a r).all (id ∘ fun _ => true) = true from List.all_eq_true.mpr fun _ _ => rfl]
    have ej:mMth gJoin (mC (.str w33)) (mCons (mVar 2) mNil) [x0,x1,some (.ref 0),x3,some (.int a),x5,x6,x7,x8,some (told (.lst (ds.set a r)) 0)] [.lst ((lns (L.set a vs)).map .str)] = .ok (.str (jn 10 (lns (L.set a vs)))) [.lst ((lns (L.set a vs)).map .str)]:=by
      refine v_mth rfl rfl (g_join ?_)
      have h1:=wt_le (k:=252) fun x h => (lns_len hL' x h).2
      have h2:(lns (L.set a vs)).length ≤ 100:=by rw [List.length_map]; exact hl'
      omega
    refine ⟨_,(v_set 9 (v_call (v_cons (ec _ rfl) v_nil) e9)).trans ((v_skip (v_isN (d:=.lst (ds.set a r)) rfl)).trans ((v_skip ((v_orF (v_not (v_tru (d:=.bl true) (v_callB (v_cons ea v_nil) eg) rfl))).trans (v_test (v_bin (v_call (v_cons (v_bin rfl rfl rfl) v_nil) (written_eq hL' hn' hl' _)) (ec _ rfl) ((ne_str (tr_plain hL') (tr_plain hL')).trans (by simp)))))).trans (v_ret (v_bin (v_call (v_cons ej v_nil) ex) (v_tup (v_cons rfl (v_cons (v_callB (d:=.int ((L2.length + 1:Nat):Int)) rfl ?_) v_nil))) (eq_told _)))))⟩
    show some (D.int ((((lns (L.set a vs)).map D.str).length:Nat):Int)) = _
    rw [List.length_map,List.length_map,hlen]
end K40
set_option Elab.async false
set_option linter.all false
set_option maxRecDepth 100000
set_option maxHeartbeats 1000000
namespace K40
open PySem PySem.Spec PyProof.Rows L2 M NumText
theorem jn_no (vs:List (List Nat)) (h:vs.length ≤ 12 ∧ ∀ w ∈ vs,Nc w):∃ us,Wd us ∧ jn 32 us = jn 32 vs:=by
  cases vs with
  | nil => exact ⟨[[]],⟨by simp,by simp,fun w hw => by rw [List.mem_singleton.mp hw]; exact ⟨(fun _ z => nomatch z),by decide⟩⟩,rfl⟩
  | cons v vs => exact ⟨v :: vs,⟨by simp,h.1,h.2⟩,rfl⟩
theorem add_l {xs ys:List (List Nat)} (h:xs.length + ys.length ≤ 1000):gAdd (.lst (xs.map .str)) (.lst (ys.map .str)) = some (.lst ((xs ++ ys).map .str)):=by
  show (if (xs.map D.str).length + (ys.map D.str).length ≤ 16777216 then some (D.lst (xs.map D.str ++ ys.map D.str)) else none) = _
  rw [if_pos (by rw [List.length_map,List.length_map]; omega),List.map_append]
theorem sl_to {ws:List (List Nat)} {k:Nat} (h:k ≤ ws.length) {ρ:En} {μ:Mu} (h5:ρ[5]? = some (some (.lst (ws.map .str)))) (h6:ρ[6]? = some (some (.int (k:Nat)))):mSl (mVar 5) mNoP (mPart (mVar 6)) ρ μ = .ok (.lst ((ws.take k).map .str)) μ:=by
  unfold mSl mPart mNoP
  rw [v_var 5 h5,bind_ok,bind_ok,v_var 6 h6]
  show Res.ok (D.lst (M.cutD (ws.map D.str) none (some (k:Int)))) μ = _
  rw [cut_to (by rw [List.length_map]; exact h),List.map_take]
theorem sl_from {ws:List (List Nat)} {k:Nat} (h:k + 1 ≤ ws.length) {ρ:En} {μ:Mu} (h5:ρ[5]? = some (some (.lst (ws.map .str)))) (h6:ρ[6]? = some (some (.int (k:Nat)))):mSl (mVar 5) (mPart (mBin gAdd (mVar 6) (mC (.int 1)))) mNoP ρ μ = .ok (.lst ((ws.drop (k + 1)).map .str)) μ:=by
  have e:mBin gAdd (mVar 6) (mC (.int 1)) ρ μ = .ok (.int ((k + 1:Nat):Int)) μ:=v_bin (v_var 6 h6) rfl rfl
  unfold mSl mPart
  rw [v_var 5 h5,bind_ok,e]
  show Res.ok (D.lst (M.cutD (ws.map D.str) (some ((k + 1:Nat):Int)) none)) μ = _
  rw [cut_from (by rw [List.length_map]; exact h),List.map_drop]
noncomputable abbrev waysE:MX:=mLst (mCons (mBin gAdd (mBin gAdd (mSl (mVar 5) mNoP (mPart (mVar 6))) (mLst (mCons (mVar 7) mNil))) (mSl (mVar 5) (mPart (mBin gAdd (mVar 6) (mC (.int 1)))) mNoP)) (mCons (mBin gAdd (mVar 5) (mLst (mCons (mVar 7) mNil))) (mCons (mSl (mVar 5) mNoP (mPart (mVar 6))) (mCons (mBin gAdd (mSl (mVar 5) mNoP (mPart (mVar 6))) (mLst (mCons (mBin gAdd (mC (.str w_0)) (mBin gIdx (mVar 5) (mVar 6))) mNil))) mNil))))
theorem ways_eq {ws:List (List Nat)} {sm:List Nat} {k:Nat} (hw:∀ w ∈ ws,Nc w) (h6:ws.length ≤ 6) (hk:k < ws.length) {ρ:En} {μ:Mu} (r5:ρ[5]? = some (some (.lst (ws.map .str)))) (r6:ρ[6]? = some (some (.int (k:Nat)))) (r7:ρ[7]? = some (some (.str sm))) :
    waysE ρ μ = .ok (.lst ([ws.take k ++ [sm] ++ ws.drop (k + 1),ws ++ [sm],ws.take k,ws.take k ++ [48 :: ws[k]]].map fun vs => .lst (vs.map .str))) μ:=by
  have l1:(ws.take k).length ≤ 6:=by rw [List.length_take]; omega
  have l2:(ws.drop (k + 1)).length ≤ 6:=by rw [List.length_drop]; omega
  have s1:=sl_to (μ:=μ) (Nat.le_of_lt hk) r5 r6
  have s2:=sl_from (μ:=μ) hk r5 r6
  have s3:mLst (mCons (mVar 7) mNil) ρ μ = .ok (.lst ([sm].map .str)) μ:=v_lst (v_cons (v_var 7 r7) v_nil)
  have s4:mLst (mCons (mBin gAdd (mC (.str w_0)) (mBin gIdx (mVar 5) (mVar 6))) mNil) ρ μ = .ok (.lst ([48 :: ws[k]].map .str)) μ:=by
    refine v_lst (v_cons (v_bin (x:=.str w_0) (y:=.str ws[k]) rfl (v_bin (v_var 5 r5) (v_var 6 r6) ?_) ?_) v_nil)
    · refine (at_n (L:=ws.map D.str) (by rw [List.length_map]; exact hk)).trans ?_
      rw [List.getElem_map]
    · show (if w_0.length + ws[k].length ≤ 16777216 then some (D.str (w_0 ++ ws[k])) else none) = _
      rw [if_pos (by have:=(hw _ (List.getElem_mem hk)).2; have:w_0.length = 1:=rfl; omega)]
      rfl
  exact v_lst (v_cons (v_bin (v_bin s1 s3 (add_l (by simp; omega))) s2 (add_l (by simp; omega))) (v_cons (v_bin (v_var 5 r5) s3 (add_l (by simp; omega))) (v_cons s1 (v_cons (v_bin s1 s4 (add_l (by simp; omega))) v_nil))))
noncomputable abbrev mixE (k:Nat):MX:=mCall f_mix (mCons (mVar 0) (mCons (mC (.int (k:Nat))) mNil))
theorem law_true (ns:List Int) (hl:ns.length ≤ 63):∃ μ,f_law [.lst (ns.map .int)] [] = .ok (.bl true) μ:=by
  obtain ⟨m,hm,em⟩:=mod_nat (ns:=ns) (k:=60) (n:=11) (by decide)
  obtain ⟨L,ds,e0,hL,hn,hlen,h6⟩:=d_comp ns m 0 none []
  have hl10:L.length ≤ 10:=by omega
  have eA:mComp 1 [0] (gN 0) (mRange1 (mBin gMod (mixE 60) (mC (.int 11)))) mTT dStep [some (sc ns),none,none,none,none,none,none,none,none,none] [] = .ok (.lst ds) []:=by
    have er:mBin gMod (mixE 60) (mC (.int 11)) [some (sc ns),none,none,none,none,none,none,none,none,none] [] = .ok (.int (m:Nat)) []:=v_bin (v_call rfl (mix_eq ns 60 [])) rfl ((g_mod _ 11 (by decide)).trans (by rw [← em]; rfl))
    unfold mComp
    rw [v_range er (by omega),bind_ok,if_pos (by rw [iL,List.length_map,List.length_range']; omega)]
    show (compGo (gN 0) mTT dStep _ [none,some (sc ns)] [] []).bind _ = _
    rw [e0]
    rfl
  have eB:mCompC 1 [] (gN 0) (mOverL (mVar 1)) mTT jnE [some (sc ns),some (.lst ds),none,none,none,none,none,none,none,none] [] = .ok (.ref 0) [.lst ((lns L).map .str)]:=by
    unfold mCompC
    show (if ds.length ≤ 16777216 then _ else _) = _
    rw [if_pos (by rw [hL.len]; omega)]
    show (compGo (gN 0) mTT jnE _ [none] [] []).bind _ = _
    rw [jl_comp hL hn]
    rfl
  have eC:mCall f_p_written (mCons (mCallB gListC (mCons (mVar 1) mNil)) mNil) [some (sc ns),some (.lst ds),some (.ref 0),none,none,none,none,none,none,none] [.lst ((lns L).map .str)] = .ok (.str (tr L [])) [.lst ((lns L).map .str)]:=v_call (v_cons (v_callB rfl rfl) v_nil) (written_eq hL hn (by omega) _)
  have hz:(∀ c ∈ ([]:List Nat),c < 128 ∧ c ≠ 10) ∧ ([]:List Nat).length ≤ 252:=⟨(fun _ z => nomatch z),by decide⟩
  have h3:nn ds = false:=by
    cases hq:nn ds with
    | false => rfl
    | true =>
      obtain ⟨y,hy,e⟩:=List.any_eq_true.mp (show ds.any (fun y => eqD y .non) = true from hq)
      exact absurd (isnon e) (hn y hy)
  suffices h:∀ {rest:MSt},(∃ μ,rest [some (sc ns),some (.lst ds),some (.ref 0),some (.str (tr L [])),none,none,none,none,none,none] [.lst ((lns L).map .str)] = .ok (.rt (.bl true)) μ) → ∃ μ,mSeq (mIte (mOr (mNot (mTru (mIsI .str (mVar 3)))) (mTest (mBin gNe (mVar 3) catE))) (mRet (mC (.bl false))) mSkip) (mSeq (mIte (mTest (mBin gNe (mCall f_read (mCons (mVar 3) mNil)) (mTup (mCons (mVar 1) (mCons (mC (.int 0)) mNil))))) (mRet (mC (.bl false))) mSkip) rest) [some (sc ns),some (.lst ds),some (.ref 0),some (.str (tr L [])),none,none,none,none,none,none] [.lst ((lns L).map .str)] = .ok (.rt (.bl true)) μ by
    suffices g:∃ μ,b_law ([D.lst (ns.map .int)].map some ++ List.replicate 9 none) [] = .ok (.rt (.bl true)) μ by
      obtain ⟨μ,g⟩:=g
      exact ⟨μ,v_fn 9 g⟩
    unfold b_law
    refine Exists.imp (fun μ g => (v_set 1 eA).trans ((v_set 2 eB).trans ((v_set 3 eC).trans g))) (h ?_)
    by_cases hL0:L = []
    · subst hL0
      have ex:=read_no (rc_end (z:=w_x) .nil ⟨by decide,by decide⟩ (by decide) [.lst []] rfl (by decide))
      exact ⟨_,v_take (v_not (v_tru (d:=.ref 0) (k:=false) rfl rfl)) (v_bin (v_call rfl ex) rfl (eq_told 1))⟩
    · have hpos:0 < L.length:=List.length_pos_iff.mpr hL0
      have et:mTru (mVar 2) [some (sc ns),some (.lst ds),some (.ref 0),some (.str (tr L [])),none,none,none,none,none,none] [.lst ((lns L).map .str)] = .ok true [.lst ((lns L).map .str)]:=v_tru (d:=.ref 0) rfl (by
        show truD (.lst ((lns L).map .str)) = _
        cases L with
        | nil => exact absurd rfl hL0
        | cons a b => rfl)
      obtain ⟨a,ha,ea⟩:=mod_nat (ns:=ns) (k:=61) hpos
      have e4:mBin gMod (mixE 61) (mCallB gLen (mCons (mVar 2) mNil)) [some (sc ns),some (.lst ds),some (.ref 0),some (.str (tr L [])),none,none,none,none,none,none] [.lst ((lns L).map .str)] = .ok (.int (a:Nat)) [.lst ((lns L).map .str)]:=by
        refine v_bin (v_call rfl (mix_eq ns 61 _)) (v_callB (d:=.int (L.length:Nat)) rfl ?_) ((g_mod _ _ (by omega)).trans (by rw [← ea]))
        show some (D.int (((lns L).map D.str).length:Nat)) = _
        rw [List.length_map,List.length_map]
      have hw:=hL.wd L[a] (List.getElem_mem ha)
      obtain ⟨hw6,hw10⟩:=h6 L[a] (List.getElem_mem ha)
      generalize hws:L[a] = ws at hw hw6 hw10
      have e5:mMth gSplit (mBin gIdx (mVar 2) (mVar 4)) (mCons (mC (.str w31)) mNil) [some (sc ns),some (.lst ds),some (.ref 0),some (.str (tr L [])),some (.int (a:Nat)),none,none,none,none,none] [.lst ((lns L).map .str)] = .ok (.lst (ws.map .str)) [.lst ((lns L).map .str)]:=by
        refine v_mth (v_bin rfl rfl ?_) rfl (g_split hw.1 (fun w h y => ((hw.2.2 w h).1 32 y).2.1 rfl) (by have:=hw.wt; omega))
        refine (at_n (L:=(lns L).map D.str) (by rw [List.length_map,List.length_map]; exact ha)).trans ?_
        rw [List.getElem_map,List.getElem_map,hws]
      have hwp:0 < ws.length:=List.length_pos_iff.mpr hw.1
      obtain ⟨k,hk,ek⟩:=mod_nat (ns:=ns) (k:=62) hwp
      have e6:mBin gMod (mixE 62) (mCallB gLen (mCons (mVar 5) mNil)) [some (sc ns),some (.lst ds),some (.ref 0),some (.str (tr L [])),some (.int (a:Nat)),some (.lst (ws.map .str)),none,none,none,none] [.lst ((lns L).map .str)] = .ok (.int (k:Nat)) [.lst ((lns L).map .str)]:=by
        refine v_bin (v_call rfl (mix_eq ns 62 _)) (v_callB (d:=.int (ws.length:Nat)) rfl ?_) ((g_mod _ _ (by omega)).trans (by rw [← ek]))
        show some (D.int ((ws.map D.str).length:Nat)) = _
        rw [List.length_map]
      obtain ⟨d7,hd7,e7⟩:=pick (L:=smL.map .str) (i:=mix ns 59) 10 rfl (by decide)
      obtain ⟨sm,hsm,rfl⟩:=List.mem_map.mp hd7
      have e7':∀ ρ μ,ρ[0]? = some (some (sc ns)) → mBin gIdx (mLst (mCons (mC (.str w32)) (mCons (mC (.str w_0)) (mCons (mC (.str w_01)) (mCons (mC (.str w_x)) (mCons (mC (.str w_len)) (mCons (mC (.str w_4294967296)) (mCons (mC (.str w44)) (mCons (mC (.str w_jump)) (mCons (mC (.str w_keep)) (mCons (mC (.str w_2001)) mNil))))))))))) (mBin gMod (mixE 59) (mC (.int 10))) ρ μ = .ok (.str sm) μ:=fun ρ μ h => v_bin (x:=.lst (smL.map .str)) rfl (v_bin (v_call (v_cons (v_var 0 h) rfl) (mix_eq ns 59 μ)) rfl (g_mod _ 10 (by decide))) e7
      have hW:=ways hw.2.2 hw6 hw10 (sm_nc sm hsm) hk
      obtain ⟨d8,hd8,e8⟩:=pick (L:=[ws.take k ++ [sm] ++ ws.drop (k + 1),ws ++ [sm],ws.take k,ws.take k ++ [48 :: ws[k]]].map fun vs => .lst (vs.map .str)) (i:=mix ns 58) 4 rfl (by decide)
      obtain ⟨vs,hvs,rfl⟩:=List.mem_map.mp hd8
      obtain ⟨us,hus,ejn⟩:=jn_no vs (hW vs hvs)
      have hvw:wt vs ≤ 1048576:=by
        have:=wt_le (k:=20) fun w h => ((hW vs hvs).2 w h).2
        have:=(hW vs hvs).1
        omega
      refine Exists.imp (fun μ g => (v_skip (v_not et)).trans ((v_set 4 e4).trans ((v_set 5 e5).trans ((v_set 6 e6).trans ((v_set 7 (e7' _ _ rfl)).trans ((v_set 8 (ways_eq hw.2.2 hw6 hk rfl rfl rfl)).trans ((v_set 5 (v_bin rfl (v_bin (v_call rfl (mix_eq ns 58 _)) rfl (g_mod _ 4 (by decide))) e8)).trans ((v_seqN (v_store (v_mth rfl rfl (g_join hvw)) rfl rfl (by rw [List.length_map,List.length_map]; exact ha))).trans g)))))))) ?_
      rw [w_eq,← ejn,show (lns L).set a (jn 32 us) = lns (L.set a us) from List.map_set.symm]
      exact tail_eq hL hn hl10 ha hus
  intro rest ⟨μ,hr⟩
  refine ⟨μ,(v_skip ((v_orF rfl).trans (v_test (v_bin rfl (cat_eq hL (by omega) rfl) ((ne_str (tr_plain hL) (tr_plain hL)).trans (by simp)))))).trans ((v_skip (v_test (v_bin (v_call rfl (read_ok (rc_ok hL hz (by omega) _ h3 rfl))) (v_tup rfl) (ne_tup hL.plain.1 hL.plain.2)))).trans hr)⟩
end K40
noncomputable def PySem.W.Fast.tw8645155525749986031 : Unit := ()
noncomputable def PySem.W.Fast.tw17482969399959168097 : Unit := ()
noncomputable def PySem.W.Fast.tw14397674742282561130 : Unit := ()
noncomputable def PySem.W.Fast.tw8207655880061050650 : PySem.Program := PySem.Challenge.pw_netsieve_k40_lines
theorem PySem.W.Fast.te8207655880061050650 : PySem.Challenge.pw_netsieve_k40_lines = PySem.W.Fast.tw8207655880061050650 := rfl
noncomputable def PySem.W.Fast.tw5433819537939659730 : Unit := ()
noncomputable def PySem.W.Fast.tw10040520759298472297 : Unit := ()
noncomputable def PySem.W.Fast.tw17747036488279445753 : Unit := ()
noncomputable def PySem.W.Fast.tw15077899217906834274 : Unit := ()
noncomputable def PySem.W.Fast.tw12785242638557994612 : Unit := ()
noncomputable def PySem.W.Fast.tw12260078559700222896 : Unit := ()
noncomputable def PySem.W.Fast.tw10690834676251462635 : Unit := ()
noncomputable def PySem.W.Fast.tw5954748297098158094 : Unit := ()
noncomputable def PySem.W.Fast.tw14954630338079905931 : Unit := ()
noncomputable def PySem.W.Fast.tw9872929112038453967 : Unit := ()
noncomputable def PySem.W.Fast.tw166947192942734979 : Unit := ()
noncomputable def PySem.W.Fast.tw9042247482736311130 : Unit := ()
noncomputable def PySem.W.Fast.tw4565687082830859229 : Unit := ()
noncomputable def PySem.W.Fast.tw1785760183571103874 : Unit := ()
noncomputable def PySem.W.Fast.tw12156602909603885672 : Unit := ()
noncomputable def PySem.W.Fast.tw3366288435766777895 : Unit := ()
noncomputable def PySem.W.Fast.tw14076513089489549761 : Unit := ()
noncomputable def PySem.W.Fast.tw9621449878535095933 : Unit := ()
noncomputable def PySem.W.Fast.tw3175628746922316814 : Unit := ()
noncomputable def PySem.W.Fast.tw7375042645064655743 : Unit := ()
noncomputable def PySem.W.Fast.tw3677598448171980201 : Unit := ()
noncomputable def PySem.W.Fast.tw14965519406784252240 : Unit := ()
noncomputable def PySem.W.Fast.tw14842380611884911418 : Unit := ()
noncomputable def PySem.W.Fast.tw3390727270693292536 : Unit := ()
noncomputable def PySem.W.Fast.tw14188970882095922499 : Unit := ()
noncomputable def PySem.W.Fast.tw11513638465383041414 : Unit := ()
open PySem PySem.W PyProof.Rows
set_option maxRecDepth 100000 in
set_option maxHeartbeats 0 in
theorem PySem.Challenge.cw_netsieve_k40_lines_holds : PySem.Challenge.rw_netsieve_k40_lines.Holds := by
  w_on; o_law; k_head; (case hw => w_witness2)
  k_fill
  refine M.walk_lawM (l := PySem.Challenge.rw_netsieve_k40_lines) (k := 8) (x := "_law_script") (φ := K40.f_law) rfl rfl ⟨rfl, by decide, by decide⟩ (fun w h Y => PySem.W.kIn_of Y) ?F (fun ns hl => K40.law_true ns hl)
  case F =>
    intro w mg fa h KX G hmg
    refine K40.finish hmg ?T
    refine' K40.mkT KX G ?n_len ?n_range ?n_max ?n_str ?n_list ?n_isinstance ?n_int ?n_bool ?n_tuple ?n_zip ?n_all ?n_ValueError ?a_MOST_FIGURES ?a_ROUND ?a_PARTS ?l_PARTS ?h_PARTS ?l0_PARTS ?l1_PARTS ?l2_PARTS ?l3_PARTS ?l4_PARTS ?l5_PARTS ?l6_PARTS ?l7_PARTS ?l8_PARTS ?l9_PARTS ?l10_PARTS ?l11_PARTS ?l12_PARTS ?l13_PARTS ?l14_PARTS ?a_SIZES ?l_SIZES ?a_SLOTS ?a_FARTHEST ?a_BASES ?l_BASES ?a_OPS ?l_OPS ?a_TESTS ?l_TESTS ?a_DIVIDING ?l_DIVIDING ?a_SHIFTING ?l_SHIFTING ?a_WIDTH ?a_SieveError ?a_BadLine ?a_NotLetIn ?a_BadFilter ?i_BadLine ?l_BadLine ?c_BadLine ?k_BadLine ?o_BadLine ?v_BadLine ?y1_BadLine ?y2_BadLine ?y3_BadLine ?y4_BadLine ?y5_BadLine ?y6_BadLine ?y7_BadLine ?y8_BadLine ?u1_SieveError ?u2_SieveError ?u3_SieveError ?h1_SieveError ?h2_SieveError ?h3_SieveError ?s_BadLine_SieveError ?z1_BadLine ?z2_BadLine ?z3_BadLine ?z4_BadLine ?k_BadLine_BadLine ?k_BadLine_ValueError ?k_BadLine_BadFilter_NotLetIn ?d_cell ?d_mix ?d_k ?d_op ?d_step ?d_p_line_of ?d_p_written ?d_p_is_whole ?d_p_is_number ?d_p_number_of ?d_p_part_of ?d_p_is_part ?d_p_can_be_done_by ?d_p_is_step ?d_p_step_of ?d_p_read_code ?d_read ?d_law
    (case n_len => k_is); (case n_range => k_is); (case n_max => k_is); (case n_str => k_is)
    (case n_list => k_is); (case n_isinstance => k_is); (case n_int => k_is); (case n_bool => k_is)
    (case n_tuple => k_is); (case n_zip => k_is); (case n_all => k_is); (case n_ValueError => k_is)
    (case a_MOST_FIGURES => k_is); (case a_ROUND => k_is); (case a_PARTS => k_is); (case l_PARTS => k_is)
    (case h_PARTS => rfl); (case l0_PARTS => k_is); (case l1_PARTS => k_is); (case l2_PARTS => k_is)
    (case l3_PARTS => k_is); (case l4_PARTS => k_is); (case l5_PARTS => k_is); (case l6_PARTS => k_is)
    (case l7_PARTS => k_is); (case l8_PARTS => k_is); (case l9_PARTS => k_is); (case l10_PARTS => k_is)
    (case l11_PARTS => k_is); (case l12_PARTS => k_is); (case l13_PARTS => k_is); (case l14_PARTS => k_is)
    (case a_SIZES => k_is); (case l_SIZES => k_is); (case a_SLOTS => k_is); (case a_FARTHEST => k_is)
    (case a_BASES => k_is); (case l_BASES => k_is); (case a_OPS => k_is); (case l_OPS => k_is)
    (case a_TESTS => k_is); (case l_TESTS => k_is); (case a_DIVIDING => k_is); (case l_DIVIDING => k_is)
    (case a_SHIFTING => k_is); (case l_SHIFTING => k_is); (case a_WIDTH => k_is); (case a_SieveError => k_is)
    (case a_BadLine => k_is); (case a_NotLetIn => k_is); (case a_BadFilter => k_is); (case i_BadLine => k_is)
    (case l_BadLine => k_is); (case c_BadLine => k_is); (case k_BadLine => k_is); (case o_BadLine => kernel_rfl)
    (case v_BadLine => kernel_rfl); (case y1_BadLine => k_is); (case y2_BadLine => k_is); (case y3_BadLine => k_is)
    (case y4_BadLine => k_is); (case y5_BadLine => k_is); (case y6_BadLine => k_is); (case y7_BadLine => k_is)
    (case y8_BadLine => k_is); (case u1_SieveError => k_is); (case u2_SieveError => k_is); (case u3_SieveError => k_is)
    (case h1_SieveError => k_is); (case h2_SieveError => kernel_rfl); (case h3_SieveError => k_is); (case s_BadLine_SieveError => k_is)
    (case z1_BadLine => k_is); (case z2_BadLine => k_is); (case z3_BadLine => k_is); (case z4_BadLine => k_is)
    (case k_BadLine_BadLine => kernel_rfl); (case k_BadLine_ValueError => kernel_rfl); (case k_BadLine_BadFilter_NotLetIn => kernel_rfl); (case d_cell => walk_at "dm")
    (case d_mix => walk_at "dm"); (case d_k => walk_at "dm"); (case d_op => walk_at "dm"); (case d_step => walk_at "dm")
    (case d_p_line_of => walk_at "dm"); (case d_p_written => walk_at "dm"); (case d_p_is_whole => walk_at "dm"); (case d_p_is_number => walk_at "dm")
    (case d_p_number_of => walk_at "dm"); (case d_p_part_of => walk_at "dm"); (case d_p_is_part => walk_at "dm"); (case d_p_can_be_done_by => walk_at "dm")
    (case d_p_is_step => walk_at "dm"); (case d_p_step_of => walk_at "dm"); (case d_p_read_code => walk_at "dm"); (case d_read => walk_at "dm")
    (case d_law => walk_at "dm")
