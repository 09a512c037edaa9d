import PyProof.Rows.All
import Wide.All
import OpenK.AllK
import Wide.FinOn
import Lean
import PyProof.EqAt
import PyProof.EqKinds
import PyProof.TupleCall
import PySem.Challenge.RW_netsieve_k13_packets_taken
set_option Elab.async false
set_option linter.all false
set_option maxRecDepth 100000
namespace L2
open PySem PySem.Spec PyProof.Rows
noncomputable abbrev Key:=Sum Int Str
noncomputable def keyIs:Key → Value → Bool
  | .inl k,v => Value.isInt k v
  | .inr x,v => Value.isStrOf x v
noncomputable def keyH (w:World):Key → Int
  | .inl k => hashInt k
  | .inr x => hashStr w x
theorem keyIs_shape:∀ {k:Key} {v:Value},keyIs k v = true → (∃ i t,k = Sum.inl i ∧ v = Value.int i t) ∨ (∃ x t,k = Sum.inr x ∧ v = Value.str x t)
  | .inl i,v,h => by
    obtain ⟨t,e⟩:=Value.isInt_shape (k:=i) (v:=v) h
    exact .inl ⟨i,t,rfl,e⟩
  | .inr x,v,h => by
    obtain ⟨t,e⟩:=Value.isStrOf_shape (x:=x) (v:=v) h
    exact .inr ⟨x,t,rfl,e⟩
theorem keyIs_int (i:Int) (t:Tok):keyIs (.inl i) (.int i t) = true:=by simp [keyIs,Value.isInt]
theorem keyIs_str (x:Str) (t:Tok):keyIs (.inr x) (.str x t) = true:=by simp [keyIs,Value.isStrOf]
theorem key_ll (a b:Int):decide ((Sum.inl a:Key) = Sum.inl b) = (a == b):=by
  by_cases e:a = b
  · subst e; simp
  · have h:¬ (Sum.inl a:Key) = Sum.inl b:=fun q => e (Sum.inl.inj q)
    rw [decide_eq_false h]
    exact (beq_eq_false_iff_ne.mpr e).symm
theorem key_rr (a b:Str):decide ((Sum.inr a:Key) = Sum.inr b) = decide (a = b):=by
  by_cases e:a = b
  · subst e; simp
  · have h:¬ (Sum.inr a:Key) = Sum.inr b:=fun q => e (Sum.inr.inj q)
    rw [decide_eq_false h,decide_eq_false e]
theorem key_lr (a:Int) (b:Str):decide ((Sum.inl a:Key) = Sum.inr b) = false:=decide_eq_false (fun q => nomatch q)
theorem key_rl (a:Str) (b:Int):decide ((Sum.inr a:Key) = Sum.inl b) = false:=decide_eq_false (fun q => nomatch q)
noncomputable def mixKind (prog:Program) (w:World):PySem.KeyKind prog w Key where
  is:=keyIs
  hash:=keyH w
  inj:=fun v a b ha hb => by
    rcases keyIs_shape ha with ⟨i,t,rfl,rfl⟩ | ⟨x,t,rfl,rfl⟩
    · rcases keyIs_shape hb with ⟨j,u,rfl,e⟩ | ⟨y,u,rfl,e⟩
      · injection e with e1 _; rw [e1]
      · exact nomatch e
    · rcases keyIs_shape hb with ⟨j,u,rfl,e⟩ | ⟨y,u,rfl,e⟩
      · exact nomatch e
      · injection e with e1 _; rw [e1]
  byValue:=fun k v h => by
    rcases keyIs_shape h with ⟨i,t,rfl,rfl⟩ | ⟨x,t,rfl,rfl⟩ <;> rfl
  pyHash:=fun hv h => by
    rcases keyIs_shape hv with ⟨i,t,rfl,rfl⟩ | ⟨x,t,rfl,rfl⟩
    · exact wpAny_pyHash_int h
    · exact wpAny_pyHash_str h
  eqBool:=fun hu hv h => by
    rcases keyIs_shape hu with ⟨i,t,rfl,rfl⟩ | ⟨x,t,rfl,rfl⟩
    · rcases keyIs_shape hv with ⟨j,u,rfl,rfl⟩ | ⟨y,u,rfl,rfl⟩
      · rw [key_ll] at h; exact wpAny_eqBool_int h
      · rw [key_lr] at h; exact SeqAt.EqAt.int_str i t y u _ _ _ _ h
    · rcases keyIs_shape hv with ⟨j,u,rfl,rfl⟩ | ⟨y,u,rfl,rfl⟩
      · rw [key_rl] at h; exact SeqAt.EqAt.str_int x t j u _ _ _ _ h
      · rw [key_rr] at h; exact wpAny_eqBool_str h
  «strs»:=fun k x t v h => by
    rcases keyIs_shape h with ⟨i,u,rfl,e⟩ | ⟨y,u,rfl,e⟩
    · exact nomatch e
    · injection e with e1 _
      subst e1
      cases v <;> rfl
theorem mixKind_int (prog:Program) (w:World) (i:Int) (t:Tok):(mixKind prog w).is (.inl i) (.int i t) = true:=keyIs_int i t
theorem mixKind_str (prog:Program) (w:World) (x:Str) (t:Tok):(mixKind prog w).is (.inr x) (.str x t) = true:=keyIs_str x t
end L2
namespace L2
open PySem PySem.Spec PyProof.Rows
inductive V where
  | non | bl (b:Bool) | int (i:Int) | str (x:Str) | byt (b:Array UInt8) | flt (b:UInt64) | ref (a:Addr) | ty (n:String)
  deriving DecidableEq
noncomputable def RelV:V → Value → Prop
  | .non,u => u = Value.none
  | .bl b,u => u = Value.bool b
  | .int i,u => ∃ t,u = Value.int i t
  | .str x,u => ∃ t,u = Value.str x t
  | .byt b,u => ∃ t,u = Value.bytes b t
  | .flt b,u => ∃ t,u = Value.float b t
  | .ref a,u => u = Value.ref a
  | .ty n,u => u = Value.type n
noncomputable abbrev Vals:List V → List Value → Prop:=Paired RelV
theorem Vals.length {xs:List V} {us:List Value} (r:Vals xs us):xs.length = us.length:=Paired.length r
theorem Vals.get:∀ {xs:List V} {us:List Value} {i:Nat} {x:V},Vals xs us → xs[i]? = some x → ∃ u,us[i]? = some u ∧ RelV x u
  | _,_,_,_,.nil,e => by simp at e
  | _,_,0,_,.cons r _,e => by simp at e; subst e; exact ⟨_,rfl,r⟩
  | _,_,i + 1,x,.cons _ t,e => by
    obtain ⟨u,h1,h2⟩:=Vals.get (i:=i) (x:=x) t (by simpa using e)
    exact ⟨u,by simpa using h1,h2⟩
theorem Vals.append:∀ {xs ys:List V} {us ws:List Value},Vals xs us → Vals ys ws → Vals (xs ++ ys) (us ++ ws)
  | _,_,_,_,.nil,s => s
  | _,_,_,_,.cons r t,s => .cons r (Vals.append t s)
theorem Vals.take:∀ {xs:List V} {us:List Value} (n:Nat),Vals xs us → Vals (xs.take n) (us.take n)
  | _,_,0,_ => .nil
  | _,_,_ + 1,.nil => .nil
  | _,_,n + 1,.cons r t => .cons r (Vals.take n t)
theorem Vals.drop:∀ {xs:List V} {us:List Value} (n:Nat),Vals xs us → Vals (xs.drop n) (us.drop n)
  | _,_,0,r => r
  | _,_,_ + 1,.nil => .nil
  | _,_,n + 1,.cons _ t => Vals.drop n t
noncomputable def RelO:Option V → Option Value → Prop
  | some v,some u => RelV v u
  | none,none => True
  | _,_ => False
noncomputable def KV {κ:Type}:List (κ × V) → List (κ × Value) → Prop:=Paired fun (p:κ × V) (q:κ × Value) => p.1 = q.1 ∧ RelV p.2 q.2
noncomputable def kV:Key → V
  | .inl i => .int i
  | .inr x => .str x
inductive HO where
  | lst (xs:List V)
  | tup (xs:List V)
  | dK (kvs:List (Key × V)) | dT (kvs:List (List Key × V))
  | set (S:Int → Bool) (n:Nat)
  | ins (C dx:Addr) (fs:List (Str × V))
  | own (x:Addr)
  | xd (fs:List (Str × V))
  | met (f x:Addr)
  | rng (lo hi:Int)
  | frz (o:Obj) (u:HO)
  | tbl (ps:Array Value)
  | ext (φ:Heap → Prop)
noncomputable abbrev Hp:=Addr → Option HO
noncomputable def upd (H:Hp) (a:Addr) (o:HO):Hp:=fun b => if b = a then some o else H b
theorem upd_same {H:Hp} {a:Addr} {o:HO}:upd H a o a = some o:=by unfold upd; rw [if_pos rfl]
theorem upd_ne {H:Hp} {a b:Addr} {o:HO} (h:b ≠ a):upd H a o b = H b:=by unfold upd; rw [if_neg h]
theorem upd_upd {H:Hp} {a:Addr} {o u:HO}:upd (upd H a o) a u = upd H a u:=by
  funext b; unfold upd; split <;> rfl
theorem ne_of {H:Hp} {a b:Addr} {o u:HO} (h:H a = some o) (h':H b = some u) (d:o ≠ u):a ≠ b:=by
  intro e; subst e; rw [h] at h'; exact d (Option.some.inj h')
theorem ne_of_none {H:Hp} {a b:Addr} {o:HO} (h:H a = some o) (h':H b = none):a ≠ b:=by
  intro e; subst e; rw [h] at h'; cases h'
section
variable (P:Program) (w:World)
noncomputable def ObjOk (H:Hp) (h:Heap) (a:Addr):HO → Prop
  | .lst xs => xs.length ≤ sizeLine ∧ ∃ (its:List Value) (n:Nat),Vals xs its ∧ h.get? a = some { cls:=.type "list",data:=.seq its.toArray n }
  | .tup xs => xs.length ≤ sizeLine ∧ ∃ its:List Value,Vals xs its ∧ IsTup h a its.toArray
  | .dK kvs => kvs.length ≤ sizeLine ∧ (a == sysModules) = false ∧ ∃ vs,KV kvs vs ∧ h.DictOf (mixKind P w) a vs
  | .dT kvs => kvs.length ≤ sizeLine ∧ (a == sysModules) = false ∧ ∃ xs:List (List Key × Addr × Value),
      Paired (fun (p:List Key × V) (q:List Key × Addr × Value) => p.1 = q.1 ∧ H q.2.1 = some (.tup (p.1.map kV)) ∧ RelV p.2 q.2.2) kvs xs ∧
      ∃ o es ep,h.get? a = some o ∧ o.ExactDict ∧ o.data = .dict es ep ∧ es.toList = xs.map (entryOfKey (tupleKind (mixKind P w))) ∧ (xs.map (·.1)).Nodup
  | .set S n => h.SetOf (intKind P w) a S n
  | .ins C dx fs => H dx = some (.own a) ∧ fs.length ≤ 1000 ∧ dx ≠ a ∧ h.get? a = some (PySem.W.instObj C dx) ∧
      ∃ mA,h.Ns1 dx mA ∧ (∀ f,RelO (fs.lookup f) (mA f)) ∧ PySem.Within mA (fs.map (·.1))
  | .own _ => ∃ o,h.get? a = some o
  | .xd fs => ∃ mA,h.Ns1 a mA ∧ ∀ f,RelO (fs.lookup f) (mA f)
  | .rng lo hi => ∃ t u v,h.get? a = some { cls:=.type "range",data:=.fields #[.int lo t,.int hi u,.int 1 v] }
  | .frz o u => h.get? a = some o ∧ ObjOk H h a u
  | .tbl ps => h.get? a = some { cls:=.none,data:=.fields ps }
  | .met f x => h.get? a = some (PySem.W.methodObj (.ref f) (.ref x))
  | .ext φ => φ h ∧ (∃ o,h.get? a = some o) ∧ ∀ h1 h2:Heap,φ h1 → (∀ o,h1.get? a = some o → h2.get? a = some o) → φ h2
noncomputable def HOk (H:Hp) (h:Heap):Prop:=∀ a o,H a = some o → ObjOk P w H h a o
end
section
variable {P:Program} {w:World} {H H':Hp} {h h':Heap} {a:Addr} {o:HO}
theorem ObjOk.lt (x:ObjOk P w H h a o):a < h.objs.size:=by
  cases o with
  | lst xs => obtain ⟨_,_,_,_,e⟩:=x; exact Heap.lt_size e
  | tup xs => obtain ⟨_,_,_,p⟩:=x; exact p.lt
  | dK kvs => obtain ⟨_,_,_,_,o,_,_,e,_⟩:=x; exact Heap.lt_size e
  | dT kvs => obtain ⟨_,_,_,_,o,_,_,e,_⟩:=x; exact Heap.lt_size e
  | set S n => obtain ⟨o,_,_,_,e,_⟩:=x; exact Heap.lt_size e
  | ins C dx fs => obtain ⟨_,_,_,e,_⟩:=x; exact Heap.lt_size e
  | own y => obtain ⟨_,e⟩:=x; exact Heap.lt_size e
  | xd fs => obtain ⟨_,⟨_,_,_,e,_⟩,_⟩:=x; exact Heap.lt_size e
  | rng lo hi => obtain ⟨_,_,_,e⟩:=x; exact Heap.lt_size e
  | frz ob u => obtain ⟨e,_⟩:=x; exact Heap.lt_size e
  | tbl ps => exact Heap.lt_size (show h.get? a = some _ from x)
  | met f y => exact Heap.lt_size (show h.get? a = some _ from x)
  | ext φ => obtain ⟨_,⟨_,e⟩,_⟩:=x; exact Heap.lt_size e
theorem Paired.mapP {α β:Type} {F G:α → β → Prop}:∀ {l₁:List α} {l₂:List β},Paired F l₁ l₂ → (∀ a b,F a b → G a b) → Paired G l₁ l₂
  | _,_,.nil,_ => .nil
  | _,_,.cons r t,f => .cons (f _ _ r) (Paired.mapP t f)
theorem ObjOk.stay (x:ObjOk P w H h a o) (k:∀ b u,(b = a ∨ H b = some (.own a)) → h.get? b = some u → h'.get? b = some u)
    (ho:∀ b,H b = some (.own a) → H' b = some (.own a)) (ht:∀ b xs,H b = some (.tup xs) → H' b = some (.tup xs)):ObjOk P w H' h' a o:=by
  induction o with
  | lst xs => obtain ⟨z,its,n,r,e⟩:=x; exact ⟨z,its,n,r,k _ _ (.inl rfl) e⟩
  | tup xs => obtain ⟨z,its,r,ob,e,c⟩:=x; exact ⟨z,its,r,ob,k _ _ (.inl rfl) e,c⟩
  | dK kvs => obtain ⟨z,y,vs,r,ob,es,ep,e,c⟩:=x; exact ⟨z,y,vs,r,ob,es,ep,k _ _ (.inl rfl) e,c⟩
  | dT kvs =>
    obtain ⟨z,y,xs,r,ob,es,ep,e,c⟩:=x
    exact ⟨z,y,xs,Paired.mapP r fun p q z => ⟨z.1,ht _ _ z.2.1,z.2.2⟩,ob,es,ep,k _ _ (.inl rfl) e,c⟩
  | set S n => obtain ⟨ob,es,ep,t,e,c⟩:=x; exact ⟨ob,es,ep,t,k _ _ (.inl rfl) e,c⟩
  | ins C dx fs =>
    obtain ⟨d,z,ne,e,mA,⟨od,es,ep,e2,c⟩,r⟩:=x
    exact ⟨ho _ d,z,ne,k _ _ (.inl rfl) e,mA,⟨od,es,ep,k _ _ (.inr d) e2,c⟩,r⟩
  | own y => obtain ⟨ob,e⟩:=x; exact ⟨ob,k _ _ (.inl rfl) e⟩
  | xd fs => obtain ⟨mA,⟨od,es,ep,e,c⟩,r⟩:=x; exact ⟨mA,⟨od,es,ep,k _ _ (.inl rfl) e,c⟩,r⟩
  | rng lo hi => obtain ⟨t,u,v,e⟩:=x; exact ⟨t,u,v,k _ _ (.inl rfl) e⟩
  | frz ob u ih => obtain ⟨e,q⟩:=x; exact ⟨k _ _ (.inl rfl) e,ih q⟩
  | tbl ps =>
    have e:h.get? a = some { cls:=.none,data:=.fields ps }:=x
    show h'.get? a = some { cls:=.none,data:=.fields ps }
    exact k a _ (.inl rfl) e
  | met f y =>
    have e:h.get? a = some (PySem.W.methodObj (.ref f) (.ref y)):=x
    show h'.get? a = some (PySem.W.methodObj (.ref f) (.ref y))
    exact k a _ (.inl rfl) e
  | ext φ => obtain ⟨p,⟨o,e⟩,st⟩:=x; exact ⟨st _ _ p fun o q => k _ _ (.inl rfl) q,⟨o,k _ _ (.inl rfl) e⟩,st⟩
theorem HOk.lt (x:HOk P w H h) (e:H a = some o):a < h.objs.size:=(x a o e).lt
theorem HOk.fresh (x:HOk P w H h) (e:h.objs.size ≤ a):H a = none:=by
  cases q:H a with
  | none => rfl
  | some u => exact absurd (Nat.lt_of_lt_of_le (x.lt q) e) (Nat.lt_irrefl _)
theorem HOk.kept (x:HOk P w H h) (k:∀ b u,h.get? b = some u → h'.get? b = some u):HOk P w H h':=fun a o e =>
  (x a o e).stay (fun b u _ q => k b u q) (fun _ q => q) fun _ _ q => q
theorem HOk.laid (x:HOk P w H h) (k:∀ b u,h.get? b = some u → h'.get? b = some u) (hp:h.objs.size ≤ a) (new:ObjOk P w (upd H a o) h' a o):HOk P w (upd H a o) h':=fun b u e => by
  have hn:=x.fresh hp
  by_cases hb:b = a
  · subst hb; rw [upd_same] at e; cases e; exact new
  · rw [upd_ne hb] at e
    exact (x b u e).stay (fun c v _ q => k c v q) (fun c q => by rw [upd_ne (ne_of_none q hn)]; exact q) fun c xs q => by rw [upd_ne (ne_of_none q hn)]; exact q
end
noncomputable def Rd (H:Hp) (a:Addr) (u:HO):Prop:=H a = some u ∨ ∃ o,H a = some (.frz o u)
theorem Rd.ok {P:Program} {w:World} {H:Hp} {h:Heap} {a:Addr} {u:HO} (r:Rd H a u) (x:HOk P w H h):ObjOk P w H h a u:=by
  rcases r with r | ⟨o,r⟩
  · exact x a u r
  · obtain ⟨_,q⟩:=x a _ r
    exact q
noncomputable def Mut:Option HO → Prop
  | some (.lst _) => True
  | some (.dK _) => True
  | some (.dT _) => True
  | some (.set _ _) => True
  | some (.ins _ _ _) => True
  | some (.ext _) => True
  | _ => False
section
variable {P:Program} {w:World} {H:Hp} {h h':Heap} {x e:Addr} {o':HO}
theorem HOk.write (ok:HOk P w H h) (mu:Mut (H x)) (he:e = x ∨ H e = some (.own x)) (k:∀ b u,b ≠ e → h.get? b = some u → h'.get? b = some u) (heo:∃ u,h'.get? e = some u)
    (new:ObjOk P w (upd H x o') h' x o'):HOk P w (upd H x o') h':=fun b u q => by
  have nown:∀ c y,H c = some (.own y) → c ≠ x:=fun c y r z => by subst z; rw [r] at mu; exact mu
  have ntup:∀ c xs,H c = some (.tup xs) → c ≠ x:=fun c xs r z => by subst z; rw [r] at mu; exact mu
  by_cases hb:b = x
  · subst hb; rw [upd_same] at q; cases q; exact new
  · rw [upd_ne hb] at q
    by_cases hbe:b = e
    · have q':H b = some (.own x):=by
        rcases he with z | z
        · exact absurd (hbe.trans z) hb
        · rw [hbe]; exact z
      rw [q] at q'; cases q'
      obtain ⟨v,hv⟩:=heo
      exact ⟨v,by rw [hbe]; exact hv⟩
    · refine (ok b u q).stay (fun c v hc r => k c v ?_ r) (fun c r => by rw [upd_ne (nown c b r)]; exact r) fun c xs r => by rw [upd_ne (ntup c xs r)]; exact r
      rcases hc with rfl | hc
      · exact hbe
      · rintro rfl
        rcases he with z | z
        · exact nown c b hc z
        · rw [hc] at z; cases z; exact hb rfl
end
structure Un (fs ex:List Addr) (H H':Hp) (h h':Heap):Prop where
  keep:∀ b o,h.get? b = some o → H b = none → b ∉ fs → b ∉ ex → h'.get? b = some o
  slot:∀ b o,h.get? b = some o → H b = none → b ∈ fs → b ∉ ex → ∃ sl,h'.get? b = some { o with slots:=sl }
  free:∀ b o,h.get? b = some o → H b = none → b ∉ ex → H' b = none
  there:∀ b o,h.get? b = some o → b ∉ ex → ∃ o',h'.get? b = some o'
  tups:∀ b xs,H b = some (.tup xs) → H' b = some (.tup xs)
  frzs:∀ b o u,H b = some (.frz o u) → H' b = some (.frz o u)
  tbls:∀ b ps,H b = some (.tbl ps) → ∃ more,H' b = some (.tbl (ps ++ more))
section
variable {fs fs' ex ex':List Addr} {H H1 H2:Hp} {h h1 h2 h':Heap} {a x e:Addr} {o:HO}
theorem Un.any (u:Un fs ex H H1 h h1) {b:Addr} {ob:Obj} (q:h.get? b = some ob) (n:H b = none) (hx:b ∉ ex):∃ sl,h1.get? b = some { ob with slots:=sl }:=by
  by_cases hb:b ∈ fs
  · exact u.slot b ob q n hb hx
  · exact ⟨ob.slots,u.keep b ob q n hb hx⟩
theorem Un.trans (a:Un fs ex H H1 h h1) (b:Un fs ex H1 H2 h1 h2):Un fs ex H H2 h h2 where
  keep:=fun c ob q n hc hx => b.keep c ob (a.keep c ob q n hc hx) (a.free c ob q n hx) hc hx
  slot:=fun c ob q n hc hx => by
    obtain ⟨sl,e1⟩:=a.slot c ob q n hc hx
    obtain ⟨sl',e2⟩:=b.slot c _ e1 (a.free c ob q n hx) hc hx
    exact ⟨sl',e2⟩
  free:=fun c ob q n hx => by
    obtain ⟨o',e1⟩:=a.there c ob q hx
    exact b.free c o' e1 (a.free c ob q n hx) hx
  there:=fun c ob q hx => by
    obtain ⟨o',e1⟩:=a.there c ob q hx
    exact b.there c o' e1 hx
  tups:=fun c xs q => b.tups c xs (a.tups c xs q)
  frzs:=fun c ob xs q => b.frzs c ob xs (a.frzs c ob xs q)
  tbls:=fun c ps q => by
    obtain ⟨m1,e1⟩:=a.tbls c ps q
    obtain ⟨m2,e2⟩:=b.tbls c _ e1
    exact ⟨m1 ++ m2,by rw [e2,Array.append_assoc]⟩
theorem Un.kept (k:∀ b u,h.get? b = some u → h'.get? b = some u):Un fs ex H H h h' :=
  ⟨fun b ob q _ _ _ => k b ob q,fun b ob q _ _ _ => ⟨ob.slots,k b ob q⟩,fun _ _ _ n _ => n,fun b ob q _ => ⟨ob,k b ob q⟩,fun _ _ q => q,fun _ _ _ q => q,fun _ ps q => ⟨#[],by rw [q]; simp⟩⟩
theorem Un.refl:Un fs ex H H h h:=Un.kept fun _ _ q => q
theorem Un.laid (k:∀ b u,h.get? b = some u → h'.get? b = some u) (hp:h.objs.size ≤ a) (hn:H a = none):Un fs ex H (upd H a o) h h' where
  keep:=fun b u q _ _ _ => k b u q
  slot:=fun b u q _ _ _ => ⟨u.slots,k b u q⟩
  free:=fun b u q n _ => by rw [upd_ne (Nat.ne_of_lt (Nat.lt_of_lt_of_le (Heap.lt_size q) hp))]; exact n
  there:=fun b u q _ => ⟨u,k b u q⟩
  tups:=fun b xs q => by rw [upd_ne (ne_of_none q hn)]; exact q
  frzs:=fun b u xs q => by rw [upd_ne (ne_of_none q hn)]; exact q
  tbls:=fun b ps q => ⟨#[],by rw [upd_ne (ne_of_none q hn),q]; simp⟩
theorem Un.write (mu:Mut (H x)) (he:e = x ∨ H e = some (.own x)) (k:∀ b u,b ≠ e → h.get? b = some u → h'.get? b = some u) (heo:∃ u,h'.get? e = some u):Un fs ex H (upd H x o) h h':=by
  have hx:∀ b,H b = none → b ≠ x:=fun b n z => by subst z; rw [n] at mu; exact mu
  have hb:∀ b,H b = none → b ≠ e:=fun b n z => by
    subst z
    rcases he with r | r
    · exact hx b n r
    · rw [n] at r; cases r
  have hm:∀ b u,H b = some u → ¬ Mut (some u) → b ≠ x:=fun b u q nm z => by subst z; rw [q] at mu; exact nm mu
  refine ⟨fun b u q n _ _ => k b u (hb b n) q,fun b u q n _ _ => ⟨u.slots,k b u (hb b n) q⟩,fun b u q n _ => by rw [upd_ne (hx b n)]; exact n,fun b u q _ => ?_,
    fun b xs q => by rw [upd_ne (hm b _ q fun z => z)]; exact q,fun b u xs q => by rw [upd_ne (hm b _ q fun z => z)]; exact q,fun b ps q => ⟨#[],by rw [upd_ne (hm b _ q fun z => z),q]; simp⟩⟩
  by_cases hbe:b = e
  · subst hbe; exact heo
  · exact ⟨u,k b u hbe q⟩
end
noncomputable def trk (h:Heap) (H:Hp):List Addr:=(List.range h.objs.size).filter fun a => (H a).isSome
noncomputable def hidT (h:Heap) (H:Hp):Heap:=PySem.W.hideAll h (trk h H)
theorem hidT_size (h:Heap) (H:Hp):(hidT h H).objs.size = h.objs.size:=PySem.W.hideAll_size _ _
theorem hidT_get {h:Heap} {H:Hp} {b:Addr} {o:Obj} (e:h.get? b = some o) (n:H b = none):(hidT h H).get? b = some o :=
  PySem.W.hideAll_get _ e fun hm => by
    have q:(H b).isSome = true:=(List.mem_filter.mp hm).2
    rw [n] at q; simp at q
theorem of_hidT {h:Heap} {H:Hp} {b:Addr} {o:Obj} (e:(hidT h H).get? b = some o):h.get? b = some o ∧ H b = none:=by
  have e':h.get? b = some o:=PySem.W.of_hideAll (trk h H) e
  refine ⟨e',?_⟩
  cases q:H b with
  | none => rfl
  | some x =>
    have hm:b ∈ trk h H:=List.mem_filter.mpr ⟨List.mem_range.mpr (Heap.lt_size e'),by simp [q]⟩
    have z:(hidT h H).get? b = none:=PySem.W.hideAll_none (trk h H) hm
    rw [z] at e; cases e
noncomputable def allNews (g h:Heap) (L:Addr):List (Addr × Obj):=(List.range h.objs.size).filterMap fun a => if a = L ∨ (g.get? a).isSome = true then none else (h.get? a).map fun o => (a,o)
noncomputable def rest (g h:Heap) (L d:Addr):List (Addr × Obj):=(allNews g h L).filter fun p => decide (p.1 ≠ d)
end L2
namespace L2
open PySem PySem.Spec PyProof.Rows
structure Mod (K:PySem.W.Frag) (mg:Str → Option Value) (base:Heap):Prop where
  kin:K.In base
  glob:base.Ns mainGlobals mg
  blt:∃ mb,base.Ns builtinsNs mb ∧ ∀ x:Str,x ≠ "__name__" → mb x = bootBuiltins x
  nolimit:base.NoLimit
structure Cx where
  prog:Program
  w:World
  K:PySem.W.Frag
  mg:Str → Option Value
  base:Heap
  A:Around
  N:List Str
  s₀:Shared
  H₀:Hp
  env:Env
  outer:List Env
  stack:List Env
  ex:List Addr
  fn:Str → Bool
  calm:Bool
  pn:List (Addr × Obj)
  xe:Value → Shared → Prop
noncomputable def frs (l:List Env):List Addr:=l.filterMap (·.frame)
noncomputable abbrev Cx.fs (X:Cx):List Addr:=frs X.outer
noncomputable def Vis (sc:Scope) (x:Str):Prop:=sc.names.lookup x = some .local ∨ sc.names.lookup x = some .cell ∨ sc.names.lookup x = some .free
noncomputable def Loc (sc:Scope) (x:Str):Prop:=sc.names.lookup x = some .local ∨ sc.names.lookup x = some .cell
noncomputable def Look (env:Env) (h:Heap) (m:Str → Option Value) (x:Str) (u:Value):Prop :=
  (env.kindOf x = some .local ∧ m x = some u) ∨ ((env.kindOf x = some .cell ∨ env.kindOf x = some .free) ∧ ∃ c,env.cells.lookup x = some c ∧ h.IsCell c (some u))
structure Cx.Ok (X:Cx):Prop where
  mod:Mod X.K X.mg X.base
  kind:X.env.scope.kind = .function
  glob:X.env.globals = mainGlobals
  blt:X.env.builtins = builtinsNs
  above:X.s₀.heap.objs.size ≤ X.env.locals
  inj:∀ x y c,X.env.cells.lookup x = some c → X.env.cells.lookup y = some c → x = y
  has:∀ x,(X.env.kindOf x = some .cell ∨ X.env.kindOf x = some .free) → ∃ c,X.env.cells.lookup x = some c
  cab:∀ x c,X.fn x = true → X.env.cells.lookup x = some c → X.s₀.heap.objs.size ≤ c
  hd:X.calm = true → X.A.handled = none
  frames:X.A.frames = some X.stack
  stk:X.stack = X.outer ∨ (X.stack = X.env :: X.outer ∧ X.env.frame = some X.env.locals)
  exf:∀ b ∈ X.ex,b ≠ X.env.locals ∧ ∀ x c,X.env.cells.lookup x = some c → c ≠ b
  bs:∀ b o,X.base.get? b = some o → X.s₀.heap.get? b = some o ∧ X.H₀ b = none
  bsz:X.base.objs.size ≤ X.s₀.heap.objs.size
  noex:∀ b o,X.base.get? b = some o → b ∉ X.ex
  exfs:∀ b ∈ X.ex,b ∉ X.fs
  funs:X.s₀.heap.FunFrames X.base X.outer
  frf:∀ b ∈ X.fs,X.H₀ b = none
structure Inv (X:Cx) (pins:List (Addr × Obj)) (σ:List (Option V)) (H:Hp) (s:Shared):Prop where
  ok:X.Ok
  os:s.os = X.s₀.os
  bare:AllBare s.gens
  base:Un X.fs X.ex X.H₀ H X.s₀.heap s.heap
  loc:∃ m,s.heap.Ns X.env.locals m ∧ ∀ (i:Nat) (x:Str) (v:V),X.N[i]? = some x → σ[i]? = some (some v) → Vis X.env.scope x → ∃ u,RelV v u ∧ Look X.env s.heap m x u
  cell:∀ x c,X.env.cells.lookup x = some c → ∃ v,s.heap.IsCell c v
  free:H X.env.locals = none
  freeC:∀ x c,X.env.cells.lookup x = some c → H c = none
  pin:∀ p ∈ X.pn ++ pins,s.heap.get? p.1 = some p.2 ∧ H p.1 = none ∧ p.1 ≠ X.env.locals ∧ p.1 ∉ X.fs ∧ ∀ v,p.2.data ≠ .cell v
  hok:HOk X.prog X.w H s.heap
  len:σ.length = X.N.length
section
variable {X:Cx} {pins:List (Addr × Obj)} {σ:List (Option V)} {H H':Hp} {s:Shared} {h':Heap}
theorem Cx.Ok.nofr (ok:X.Ok) {b:Addr} {o:Obj} (e:X.base.get? b = some o):b ∉ X.fs:=fun hb => by
  have:=(ok.funs.mem hb).1
  rw [e] at this; cases this
theorem Inv.bs (I:Inv X pins σ H s):∀ b o,X.base.get? b = some o → s.heap.get? b = some o ∧ H b = none:=fun b o e =>
  ⟨I.base.keep b o (I.ok.bs b o e).1 (I.ok.bs b o e).2 (I.ok.nofr e) (I.ok.noex b o e),I.base.free b o (I.ok.bs b o e).1 (I.ok.bs b o e).2 (I.ok.noex b o e)⟩
theorem Inv.bk (I:Inv X pins σ H s):∀ b o,X.base.get? b = some o → s.heap.get? b = some o:=fun b o e => (I.bs b o e).1
theorem Inv.mod (I:Inv X pins σ H s):Mod X.K X.mg X.base:=I.ok.mod
theorem Inv.kIn (I:Inv X pins σ H s):X.K.In s.heap:=I.ok.mod.kin.keeps I.bk
theorem Inv.fr (I:Inv X pins σ H s):∃ m,Fr X.base X.env.locals s.heap m :=
  let ⟨m,hn,_⟩:=I.loc
  ⟨m,hn,I.bk,Nat.le_trans I.ok.bsz I.ok.above⟩
theorem Inv.lt (I:Inv X pins σ H s):X.env.locals < s.heap.objs.size:=let ⟨_,hn,_⟩:=I.loc; hn.lt
theorem Inv.sz (I:Inv X pins σ H s):X.s₀.heap.objs.size ≤ s.heap.objs.size:=Nat.le_trans I.ok.above (Nat.le_of_lt I.lt)
theorem Inv.nofs (I:Inv X pins σ H s) {a:Addr} (h:s.heap.objs.size ≤ a):a ∉ X.fs:=fun hb => by
  obtain ⟨_,o,ho,_⟩:=I.ok.funs.mem hb
  exact absurd (Nat.lt_of_lt_of_le (Heap.lt_size ho) (Nat.le_trans I.sz h)) (Nat.lt_irrefl _)
theorem Inv.cne (I:Inv X pins σ H s):∀ x c,X.env.cells.lookup x = some c → c ≠ X.env.locals:=fun x c e z => by
  obtain ⟨v,o,ho,hd⟩:=I.cell x c e
  obtain ⟨m,⟨o',es,ep,ho',hd',_⟩,_⟩:=I.loc
  rw [z,ho'] at ho; cases ho; rw [hd'] at hd; cases hd
theorem Inv.funs (I:Inv X pins σ H s):s.heap.FunFrames X.base X.outer:=by
  have all:∀ (l:List Env),(∀ b ∈ frs l,b ∈ X.fs) → X.s₀.heap.FunFrames X.base l → s.heap.FunFrames X.base l:=by
    intro l
    induction l with
    | nil => intro _ _; trivial
    | cons env r ih =>
      intro hs hl
      obtain ⟨hk,⟨L,o,hf,hn,ho,hd⟩,hr⟩:=hl
      have hL:L ∈ X.fs:=hs L (by unfold frs; rw [List.filterMap_cons,hf]; exact List.mem_cons_self)
      obtain ⟨sl,e⟩:=I.base.slot L o ho (I.ok.frf L hL) hL fun z => I.ok.exfs L z hL
      exact ⟨hk,⟨L,_,hf,hn,e,hd⟩,ih (fun b hb => hs b (by unfold frs; rw [List.filterMap_cons,hf]; exact List.mem_cons_of_mem _ hb)) hr⟩
  exact all X.outer (fun _ hb => hb) I.ok.funs
theorem Inv.stack (I:Inv X pins σ H s):s.heap.FunFrames X.base X.stack:=by
  rcases I.ok.stk with e | ⟨e,hf⟩
  · rw [e]; exact I.funs
  · rw [e]
    obtain ⟨m,hn,_⟩:=I.loc
    refine .cons (by rw [I.ok.kind]; decide) hf hn ?_ I.funs
    exact Heap.get?_none_of_le (Nat.le_trans I.ok.bsz I.ok.above)
theorem Inv.stkSub (I:Inv X pins σ H s):∀ b ∈ frs X.stack,b ∈ X.env.locals :: X.fs:=fun b hb => by
  rcases I.ok.stk with e | ⟨e,hf⟩
  · rw [e] at hb; exact List.mem_cons_of_mem _ hb
  · rw [e] at hb
    unfold frs at hb
    rw [List.filterMap_cons,hf] at hb
    exact hb
theorem Inv.stkFree (I:Inv X pins σ H s):∀ b ∈ frs X.stack,H b = none:=fun b hb => by
  rcases List.mem_cons.mp (I.stkSub b hb) with e | hb
  · rw [e]; exact I.free
  · obtain ⟨_,o,ho,_⟩:=I.ok.funs.mem hb
    exact I.base.free b o ho (I.ok.frf b hb) fun z => I.ok.exfs b z hb
theorem Inv.step {g':Array GenState} {t':Nat} {d':Drawn} {ch:List Addr} (I:Inv X pins σ H s)
    (hch:∀ b ∈ ch,(b ∈ X.ex ∨ X.s₀.heap.objs.size ≤ b) ∧ b ≠ X.env.locals ∧ (∀ x c,X.env.cells.lookup x = some c → c ≠ b) ∧ ∀ p ∈ X.pn ++ pins,p.1 ≠ b)
    (keep:∀ b o,b ≠ X.env.locals → b ∉ X.fs → b ∉ ch → s.heap.get? b = some o → H b = none → h'.get? b = some o)
    (slot:∀ b o,b ≠ X.env.locals → b ∈ X.fs → b ∉ ch → s.heap.get? b = some o → H b = none → ∃ sl,h'.get? b = some { o with slots:=sl }) (free:∀ b o,b ∉ ch → s.heap.get? b = some o → H b = none → H' b = none)
    (there:∀ b o,b ∉ ch → s.heap.get? b = some o → ∃ o',h'.get? b = some o')
    (tups:∀ b xs,H b = some (.tup xs) → H' b = some (.tup xs)) (frzs:∀ b o u,H b = some (.frz o u) → H' b = some (.frz o u)) (tbls:∀ b ps,H b = some (.tbl ps) → ∃ more,H' b = some (.tbl (ps ++ more)))
    (ns:∀ m,s.heap.Ns X.env.locals m → h'.Ns X.env.locals m) (hok:HOk X.prog X.w H' h') (hg:AllBare g') :
    Inv X pins σ H' { s with heap:=h',gens:=g',drawn:=d',toks:=t' }:=by
  have neL:∀ b o,X.s₀.heap.get? b = some o → b ≠ X.env.locals:=fun b o e => Nat.ne_of_lt (Nat.lt_of_lt_of_le (Heap.lt_size e) I.ok.above)
  have neC:∀ b o,X.s₀.heap.get? b = some o → b ∉ X.ex → b ∉ ch:=fun b o e hx hb => by
    rcases (hch b hb).1 with z | z
    · exact hx z
    · exact absurd (Nat.lt_of_lt_of_le (Heap.lt_size e) z) (Nat.lt_irrefl _)
  have cellK:∀ x c,X.env.cells.lookup x = some c → ∀ v,s.heap.IsCell c v → h'.IsCell c v:=fun x c e v ⟨o,ho,hd⟩ => by
    have nch:c ∉ ch:=fun z => (hch c z).2.2.1 x c e rfl
    by_cases hc:c ∈ X.fs
    · obtain ⟨sl,q⟩:=slot c o (I.cne x c e) hc nch ho (I.freeC x c e)
      exact ⟨_,q,hd⟩
    · exact ⟨o,keep c o (I.cne x c e) hc nch ho (I.freeC x c e),hd⟩
  refine ⟨I.ok,I.os,hg,⟨fun b o e n hb hx => ?_,fun b o e n hb hx => ?_,fun b o e n hx => ?_,fun b o e hx => ?_,fun b xs e => tups b xs (I.base.tups b xs e),fun b o xs e => frzs b o xs (I.base.frzs b o xs e),fun b ps e => ?_⟩,?_,fun x c e => ?_,?_,fun x c e => ?_,fun p hp => ?_,hok,I.len⟩
  · exact keep b o (neL b o e) hb (neC b o e hx) (I.base.keep b o e n hb hx) (I.base.free b o e n hx)
  · obtain ⟨sl,e1⟩:=I.base.slot b o e n hb hx
    obtain ⟨sl',e2⟩:=slot b _ (neL b o e) hb (neC b o e hx) e1 (I.base.free b o e n hx)
    exact ⟨sl',e2⟩
  · obtain ⟨o',e1⟩:=I.base.there b o e hx
    exact free b o' (neC b o e hx) e1 (I.base.free b o e n hx)
  · obtain ⟨o',e1⟩:=I.base.there b o e hx
    exact there b o' (neC b o e hx) e1
  · obtain ⟨m1,e1⟩:=I.base.tbls b ps e
    obtain ⟨m2,e2⟩:=tbls b _ e1
    exact ⟨m1 ++ m2,by rw [e2,Array.append_assoc]⟩
  · obtain ⟨m,hn,hl⟩:=I.loc
    refine ⟨m,ns m hn,fun i x v e1 e2 e3 => ?_⟩
    obtain ⟨u,r,l⟩:=hl i x v e1 e2 e3
    refine ⟨u,r,?_⟩
    rcases l with l | ⟨k,c,e,z⟩
    · exact .inl l
    · exact .inr ⟨k,c,e,cellK x c e _ z⟩
  · obtain ⟨v,z⟩:=I.cell x c e
    exact ⟨v,cellK x c e v z⟩
  · obtain ⟨m,⟨o,_,_,ho,_⟩,_⟩:=I.loc
    exact free _ o (fun z => (hch _ z).2.1 rfl) ho I.free
  · obtain ⟨v,o,ho,hd⟩:=I.cell x c e
    exact free c o (fun z => (hch c z).2.2.1 x c e rfl) ho (I.freeC x c e)
  · obtain ⟨e,n,ne,nf,d⟩:=I.pin p hp
    have nch:p.1 ∉ ch:=fun z => (hch p.1 z).2.2.2 p hp rfl
    exact ⟨keep p.1 p.2 ne nf nch e n,free p.1 p.2 nch e n,ne,nf,d⟩
theorem Inv.un {t':Nat} (I:Inv X pins σ H s) (u:Un X.fs [] H H' s.heap h') (hok:HOk X.prog X.w H' h'):Inv X pins σ H' { s with heap:=h',toks:=t' }:=by
  obtain ⟨m,⟨o,es,ep,ho,r⟩,_⟩:=id I.loc
  obtain ⟨sl,hL⟩:=u.any ho I.free (by simp)
  exact I.step (g':=s.gens) (d':=s.drawn) (ch:=[]) (fun _ z => nomatch z) (fun b o _ hb _ e n => u.keep b o e n hb (by simp)) (fun b o _ hb _ e n => u.slot b o e n hb (by simp)) (fun b o _ e n => u.free b o e n (by simp)) (fun b o _ e => u.there b o e (by simp)) u.tups u.frzs u.tbls (fun m' hm => by
    obtain ⟨o',es',ep',ho',r'⟩:=hm
    rw [ho] at ho'; cases ho'
    exact ⟨_,es',ep',hL,r'⟩) hok I.bare
theorem Inv.call {g':Array GenState} {t':Nat} {d':Drawn} {ch:List Addr} (I:Inv X pins σ H s) (u:Un (frs X.stack) ch H H' s.heap h') (hok:HOk X.prog X.w H' h') (hg:AllBare g')
    (hch:∀ b ∈ ch,(b ∈ X.ex ∨ X.s₀.heap.objs.size ≤ b) ∧ b ≠ X.env.locals ∧ (∀ x c,X.env.cells.lookup x = some c → c ≠ b) ∧ ∀ p ∈ X.pn ++ pins,p.1 ≠ b) :
    Inv X pins σ H' { s with heap:=h',gens:=g',drawn:=d',toks:=t' }:=by
  obtain ⟨m,⟨o,es,ep,ho,r⟩,_⟩:=id I.loc
  obtain ⟨sl,hL⟩:=u.any ho I.free fun z => (hch _ z).2.1 rfl
  exact I.step (ch:=ch) hch (fun b o hL hb hc e n => u.keep b o e n (fun z => (List.mem_cons.mp (I.stkSub b z)).elim hL hb) hc) (fun b o _ _ hc e n => u.any e n hc) (fun b o hc e n => u.free b o e n hc) (fun b o hc e => u.there b o e hc) u.tups u.frzs u.tbls (fun m' hm => by
    obtain ⟨o',es',ep',ho',r'⟩:=hm
    rw [ho] at ho'; cases ho'
    exact ⟨_,es',ep',hL,r'⟩) hok hg
theorem Inv.turned {t':Nat} {it:Addr} (I:Inv X pins σ H s) (k:∀ b o,b ≠ it → s.heap.get? b = some o → h'.get? b = some o) (hn:H it = none) (hL:it ≠ X.env.locals)
    (h1:it ∈ X.ex ∨ X.s₀.heap.objs.size ≤ it) (h2:∀ x c,X.env.cells.lookup x = some c → c ≠ it) (h3:∀ p ∈ X.pn ++ pins,p.1 ≠ it):Inv X pins σ H { s with heap:=h',toks:=t' }:=by
  have nit:∀ b u,H b = some u → b ≠ it:=fun b u e z => by rw [z,hn] at e; cases e
  refine I.step (g':=s.gens) (d':=s.drawn) (ch:=[it]) (fun b hb => ?_) (fun b o _ _ hc e _ => k b o (fun z => hc (by simp [z])) e) (fun b o _ _ hc e _ => ⟨o.slots,k b o (fun z => hc (by simp [z])) e⟩) (fun _ _ _ _ n => n)
    (fun b o hc e => ⟨o,k b o (fun z => hc (by simp [z])) e⟩) (fun _ _ e => e) (fun _ _ _ e => e) (fun b ps e => ⟨#[],by rw [e]; simp⟩) (fun m hm => ?_) (fun b u e => ?_) I.bare
  · have e:b = it:=by simpa using hb
    subst e
    exact ⟨h1,hL,h2,h3⟩
  · obtain ⟨o,es,ep,ho,r⟩:=hm
    exact ⟨o,es,ep,k _ o (Ne.symm hL) ho,r⟩
  · refine (I.hok b u e).stay (fun c v hc q => k c v ?_ q) (fun _ q => q) fun _ _ q => q
    rcases hc with z | z
    · rw [z]; exact nit b u e
    · exact nit c _ z
theorem Inv.tok (I:Inv X pins σ H s) (t:Nat):Inv X pins σ H { s with toks:=t }:=I.un (h':=s.heap) (t':=t) Un.refl I.hok
theorem Inv.kept {t':Nat} (I:Inv X pins σ H s) (k:∀ b u,s.heap.get? b = some u → h'.get? b = some u):Inv X pins σ H { s with heap:=h',toks:=t' }:=I.un (Un.kept k) (I.hok.kept k)
theorem Inv.laid {a:Addr} {o:HO} {t':Nat} (I:Inv X pins σ H s) (k:∀ b u,s.heap.get? b = some u → h'.get? b = some u) (hp:s.heap.objs.size ≤ a) (new:ObjOk X.prog X.w (upd H a o) h' a o) :
    Inv X pins σ (upd H a o) { s with heap:=h',toks:=t' }:=I.un (Un.laid k hp (I.hok.fresh hp)) (I.hok.laid k hp new)
theorem Inv.write {x e:Addr} {o:HO} {t':Nat} (I:Inv X pins σ H s) (mu:Mut (H x)) (he:e = x ∨ H e = some (.own x)) (k:∀ b u,b ≠ e → s.heap.get? b = some u → h'.get? b = some u) (heo:∃ u,h'.get? e = some u)
    (new:ObjOk X.prog X.w (upd H x o) h' x o):Inv X pins σ (upd H x o) { s with heap:=h',toks:=t' }:=I.un (Un.write mu he k heo) (I.hok.write mu he k heo new)
theorem Inv.pins_of {pins':List (Addr × Obj)} (I:Inv X pins σ H s) (h:∀ p ∈ pins',s.heap.get? p.1 = some p.2 ∧ H p.1 = none ∧ p.1 ≠ X.env.locals ∧ p.1 ∉ X.fs ∧ ∀ v,p.2.data ≠ .cell v):Inv X pins' σ H s :=
  ⟨I.ok,I.os,I.bare,I.base,I.loc,I.cell,I.free,I.freeC,fun p hp => (List.mem_append.mp hp).elim (fun z => I.pin p (List.mem_append_left _ z)) (h p),I.hok,I.len⟩
theorem nodup_ix {N:List Str} (hN:N.Nodup) {i j:Nat} {x:Str} (a:N[i]? = some x) (b:N[j]? = some x):i = j:=by
  obtain ⟨h1,e1⟩:=List.getElem?_eq_some_iff.mp a
  obtain ⟨h2,e2⟩:=List.getElem?_eq_some_iff.mp b
  exact (List.getElem_inj hN).mp (e1.trans e2.symm)
theorem store_ok2 {M:Model} {A:Around} {E:Value → Shared → Prop} {i:Nat} {x:Str} {v:V} {u:Value} {Q:Unit → Shared → Prop} (I:Inv X pins σ H s) (hN:X.N.Nodup) (hi:X.N[i]? = some x) (hx:Loc X.env.scope x) (r:RelV v u)
    (h:∀ s',Inv X pins (σ.set i (some v)) H s' → (∃ a,Heap.SameBut a s.heap s'.heap ∧ (a = X.env.locals ∨ X.env.cells.lookup x = some a)) → Q () s') (hf:X.fn x = true ∨ X.env.scope.names.lookup x = some .local:=by first | exact .inl rfl | exact .inr rfl | assumption):wpAny M A (storeName X.env x u) Q E s:=by
  obtain ⟨m,hn,hl⟩:=id I.loc
  have hcls:(X.env.scope.kind == .class || (X.env.scope.kind == .module && X.env.locals != X.env.globals)) = false:=by rw [I.ok.kind]; rfl
  have hiσ:i < σ.length:=by rw [I.len]; exact (List.getElem?_eq_some_iff.mp hi).1
  have cne:=I.cne
  have tracked:∀ {a:Addr} {h':Heap},(∃ o,s.heap.get? a = some o ∧ H a = none) → Heap.SameBut a s.heap h' → HOk X.prog X.w H h':=fun {a h'} ha hs b ob e => by
    obtain ⟨_,_,hfree⟩:=ha
    refine (I.hok b ob e).stay (fun c w' hc q => (hs.2 c ?_).trans q) (fun _ q => q) fun _ _ q => q
    rintro rfl
    rcases hc with rfl | hc
    · rw [hfree] at e; cases e
    · rw [hfree] at hc; cases hc
  rcases hx with hk | hk
  · refine wpAny_storeName_local hk hn (fun h' hn' hs => ?_) hcls
    obtain ⟨oL,_,_,hoL,_⟩:=id hn
    refine h _ ⟨I.ok,I.os,I.bare,⟨fun b o e n hb hx => ?_,fun b o e n hb hx => ?_,I.base.free,fun b o e hx => ?_,I.base.tups,I.base.frzs,I.base.tbls⟩,⟨_,hn',fun j y v' e1 e2 e3 => ?_⟩,fun y c e => ?_,I.free,I.freeC,fun p hp => ?_,tracked ⟨oL,hoL,I.free⟩ hs,by simpa using I.len⟩ ⟨_,hs,.inl rfl⟩
    · exact (hs.2 b (Nat.ne_of_lt (Nat.lt_of_lt_of_le (Heap.lt_size e) I.ok.above))).trans (I.base.keep b o e n hb hx)
    · obtain ⟨sl,e1⟩:=I.base.slot b o e n hb hx
      exact ⟨sl,(hs.2 b (Nat.ne_of_lt (Nat.lt_of_lt_of_le (Heap.lt_size e) I.ok.above))).trans e1⟩
    · obtain ⟨o',e1⟩:=I.base.there b o e hx
      exact ⟨o',(hs.2 b (Nat.ne_of_lt (Nat.lt_of_lt_of_le (Heap.lt_size e) I.ok.above))).trans e1⟩
    · by_cases hj:j = i
      · subst hj
        rw [hi] at e1; cases e1
        rw [List.getElem?_set_self hiσ] at e2
        cases e2
        exact ⟨u,r,.inl ⟨hk,by simp⟩⟩
      · rw [List.getElem?_set_ne (Ne.symm hj)] at e2
        obtain ⟨u',r',q⟩:=hl j y v' e1 e2 e3
        refine ⟨u',r',?_⟩
        rcases q with ⟨k,e⟩ | ⟨k,c,e,z⟩
        · refine .inl ⟨k,?_⟩
          have:y ≠ x:=fun e => hj (nodup_ix hN e1 (e ▸ hi))
          simp [this,e]
        · exact .inr ⟨k,c,e,z.sameBut hs (cne y c e)⟩
    · obtain ⟨w',z⟩:=I.cell y c e
      exact ⟨w',z.sameBut hs (cne y c e)⟩
    · obtain ⟨e,n,ne,nf,d⟩:=I.pin p hp
      exact ⟨(hs.2 p.1 ne).trans e,n,ne,nf,d⟩
  · have hfn:X.fn x = true:=by
      rcases hf with z | z
      · exact z
      · rw [z] at hk; cases hk
    obtain ⟨c,hc⟩:=I.ok.has x (.inl hk)
    obtain ⟨w',z⟩:=I.cell x c hc
    refine wpAny_storeName_cell I.ok.kind hk hc z (fun h' hc' hs => ?_)
    obtain ⟨oc,hoc,hocd⟩:=id z
    refine h { s with heap:=h' } ⟨I.ok,I.os,I.bare,⟨fun b o e n hb hx => ?_,fun b o e n hb hx => ?_,I.base.free,fun b o e hx => ?_,I.base.tups,I.base.frzs,I.base.tbls⟩,⟨m,hn.sameBut hs (Ne.symm (cne x c hc)),fun j y v' e1 e2 e3 => ?_⟩,fun y c' e => ?_,I.free,I.freeC,fun p hp => ?_,tracked ⟨oc,hoc,I.freeC x c hc⟩ hs,by simpa using I.len⟩ ⟨c,hs,.inr hc⟩
    · exact (hs.2 b (Nat.ne_of_lt (Nat.lt_of_lt_of_le (Heap.lt_size e) (I.ok.cab x c hfn hc)))).trans (I.base.keep b o e n hb hx)
    · obtain ⟨sl,e1⟩:=I.base.slot b o e n hb hx
      exact ⟨sl,(hs.2 b (Nat.ne_of_lt (Nat.lt_of_lt_of_le (Heap.lt_size e) (I.ok.cab x c hfn hc)))).trans e1⟩
    · obtain ⟨o',e1⟩:=I.base.there b o e hx
      exact ⟨o',(hs.2 b (Nat.ne_of_lt (Nat.lt_of_lt_of_le (Heap.lt_size e) (I.ok.cab x c hfn hc)))).trans e1⟩
    · by_cases hj:j = i
      · subst hj
        rw [hi] at e1; cases e1
        rw [List.getElem?_set_self hiσ] at e2
        cases e2
        exact ⟨u,r,.inr ⟨.inl hk,c,hc,hc'⟩⟩
      · rw [List.getElem?_set_ne (Ne.symm hj)] at e2
        obtain ⟨u',r',q⟩:=hl j y v' e1 e2 e3
        refine ⟨u',r',?_⟩
        rcases q with q | ⟨k,c',e,z'⟩
        · exact .inl q
        · refine .inr ⟨k,c',e,z'.sameBut hs ?_⟩
          rintro rfl
          exact hj (nodup_ix hN e1 (I.ok.inj _ _ _ e hc ▸ hi))
    · by_cases hcc:c' = c
      · subst hcc; exact ⟨_,hc'⟩
      · obtain ⟨w2,z2⟩:=I.cell y c' e
        exact ⟨w2,z2.sameBut hs hcc⟩
    · obtain ⟨e,n,ne,nf,d⟩:=I.pin p hp
      refine ⟨(hs.2 p.1 ?_).trans e,n,ne,nf,d⟩
      intro q
      rw [q,hoc] at e
      have q':oc = p.2:=Option.some.inj e
      exact d w' (by rw [← q']; exact hocd)
theorem store_ok {M:Model} {A:Around} {E:Value → Shared → Prop} {i:Nat} {x:Str} {v:V} {u:Value} {Q:Unit → Shared → Prop} (I:Inv X pins σ H s) (hN:X.N.Nodup) (hi:X.N[i]? = some x) (hx:Loc X.env.scope x) (r:RelV v u)
    (h:∀ s',Inv X pins (σ.set i (some v)) H s' → Q () s') (hf:X.fn x = true ∨ X.env.scope.names.lookup x = some .local:=by first | exact .inl rfl | exact .inr rfl | assumption):wpAny M A (storeName X.env x u) Q E s :=
  store_ok2 I hN hi hx r (fun s' I' _ => h s' I') hf
theorem Inv.call' {s':Shared} {ch:List Addr} (I:Inv X pins σ H s) (ho:s'.os = s.os) (u:Un (frs X.stack) ch H H' s.heap s'.heap) (hok:HOk X.prog X.w H' s'.heap) (hg:AllBare s'.gens)
    (hch:∀ b ∈ ch,(b ∈ X.ex ∨ X.s₀.heap.objs.size ≤ b) ∧ b ≠ X.env.locals ∧ (∀ x c,X.env.cells.lookup x = some c → c ≠ b) ∧ ∀ p ∈ X.pn ++ pins,p.1 ≠ b):Inv X pins σ H' s':=by
  obtain ⟨h',g',d',t',o'⟩:=s'
  have e:o' = s.os:=ho
  subst e
  exact I.call (g':=g') (t':=t') (d':=d') u hok hg hch
end
noncomputable abbrev XK:=Value → Option Addr → Hp → Prop
noncomputable abbrev St:=List (Option V)
noncomputable abbrev VK:=V → Hp → Prop
noncomputable abbrev TE:=St → Hp → VK → Prop
noncomputable abbrev TT:=St → Hp → (Bool → Hp → Prop) → Prop
noncomputable abbrev TA:=St → Hp → (List V → Hp → Prop) → Prop
structure Ends where
  nx:St → Hp → Prop
  rt:VK
  bk:St → Hp → Prop:=fun _ _ => False
  ct:St → Hp → Prop:=fun _ _ => False
noncomputable abbrev TS:=Ends → St → Hp → Prop
noncomputable def EP (X:Cx) (pins:List (Addr × Obj)) (σ:St) (Q:VK) (u:Value) (s':Shared):Prop:=∃ v H',Inv X pins σ H' s' ∧ RelV v u ∧ Q v H'
noncomputable def TP (X:Cx) (pins:List (Addr × Obj)) (σ:St) (Q:Bool → Hp → Prop) (b:Bool) (s':Shared):Prop:=∃ H',Inv X pins σ H' s' ∧ Q b H'
noncomputable def AP (X:Cx) (pins:List (Addr × Obj)) (σ:St) (Q:List V → Hp → Prop) (us:List Value) (s':Shared):Prop:=∃ vs H',Inv X pins σ H' s' ∧ Vals vs us ∧ Q vs H'
noncomputable def SP (X:Cx) (pins:List (Addr × Obj)) (D:Ends) (f:Flow) (s':Shared):Prop :=
  match f with
  | .next => ∃ σ' H',Inv X pins σ' H' s' ∧ D.nx σ' H'
  | .brk => ∃ σ' H',Inv X pins σ' H' s' ∧ D.bk σ' H'
  | .cont => ∃ σ' H',Inv X pins σ' H' s' ∧ D.ct σ' H'
  | .ret u => ∃ v σ' H',Inv X pins σ' H' s' ∧ RelV v u ∧ D.rt v H'
noncomputable def PE (X:Cx) (e:Expr) (t:TE):Prop :=
  ∀ (pins:List (Addr × Obj)) (s:Shared) (σ:St) (H:Hp) (Q:VK),Inv X pins σ H s → t σ H Q → wpAny (model X.prog X.w) X.A (eval e X.env) (EP X pins σ Q) X.xe s
noncomputable def PT (X:Cx) (e:Expr) (t:TT):Prop :=
  ∀ (pins:List (Addr × Obj)) (s:Shared) (σ:St) (H:Hp) (Q:Bool → Hp → Prop),Inv X pins σ H s → t σ H Q → wpAny (model X.prog X.w) X.A (isTrue e X.env (eval e X.env)) (TP X pins σ Q) X.xe s
noncomputable def PW (X:Cx) (e:Expr) (t:TT):Prop :=
  ∀ (whole:Sem Value) (pins:List (Addr × Obj)) (s:Shared) (σ:St) (H:Hp) (Q:Bool → Hp → Prop),Inv X pins σ H s → t σ H Q → wpAny (model X.prog X.w) X.A (isTrue e X.env whole) (TP X pins σ Q) X.xe s
theorem PW.pt {X:Cx} {e:Expr} {t:TT} (h:PW X e t):PT X e t:=h _
noncomputable def PA (X:Cx) (es:List Expr) (t:TA):Prop :=
  ∀ (pos:Pos) (pins:List (Addr × Obj)) (s:Shared) (σ:St) (H:Hp) (Q:List V → Hp → Prop),Inv X pins σ H s → t σ H Q → wpAny (model X.prog X.w) X.A (spliced (backTo pos (starEach es X.env))) (AP X pins σ Q) X.xe s
noncomputable def PS (X:Cx) (st:Stmt) (t:TS):Prop :=
  ∀ (pins:List (Addr × Obj)) (s:Shared) (σ:St) (H:Hp) (D:Ends),Inv X pins σ H s → t D σ H → wpAny (model X.prog X.w) X.A (exec st X.env) (SP X pins D) X.xe s
noncomputable def PSs (X:Cx) (st:List Stmt) (t:TS):Prop :=
  ∀ (pins:List (Addr × Obj)) (s:Shared) (σ:St) (H:Hp) (D:Ends),Inv X pins σ H s → t D σ H → wpAny (model X.prog X.w) X.A (execs st X.env) (SP X pins D) X.xe s
theorem thn {α:Type} {t:Sem α} {Q Q':α → Shared → Prop} {M:Model} {A:Around} {E:Value → Shared → Prop} {s:Shared} (h:wpAny M A t Q E s) (hQ:∀ a s,Q a s → Q' a s):wpAny M A t Q' E s:=wpAny_mono h hQ fun _ _ x => x
end L2
namespace L2
open PySem PySem.Spec PyProof.Rows
section
variable {X:Cx}
theorem bin {a b:Expr} {ta tb:TE} (ha:PE X a ta) (hb:PE X b tb) {pins:List (Addr × Obj)} {s:Shared} {σ:St} {H:Hp} {R:V → V → Hp → Prop} (I:Inv X pins σ H s) (h:ta σ H fun x H1 => tb σ H1 fun y H2 => R x y H2)
    {α:Type} {Q:α → Shared → Prop} {f:Value → Value → Sem α}
    (hf:∀ v u s2 x y H2,Inv X pins σ H2 s2 → RelV x v → RelV y u → R x y H2 → wpAny (model X.prog X.w) X.A (f v u) Q X.xe s2) :
    wpAny (model X.prog X.w) X.A (eval a X.env) (fun v s₁ => wpAny (model X.prog X.w) X.A (eval b X.env) (fun u s₂ => wpAny (model X.prog X.w) X.A (f v u) Q X.xe s₂) X.xe s₁) X.xe s:=by
  refine thn (ha pins s σ H _ I h) fun v s1 ⟨x,H1,I1,r1,q1⟩ => ?_
  refine thn (hb pins s1 σ H1 _ I1 q1) fun u s2 ⟨y,H2,I2,r2,q2⟩ => ?_
  exact hf v u s2 x y H2 I2 r1 r2 q2
noncomputable def tVar (i:Nat):TE:=fun σ H Q => ∃ v,σ[i]? = some (some v) ∧ Q v H
noncomputable def tC (v:V):TE:=fun _ H Q => Q v H
theorem pe_var {i:Nat} {x:Str} {pos:Pos} (hN:X.N[i]? = some x) (hv:Vis X.env.scope x) (hd:(x == ("__debug__":Str)) = false:=by decide) (hcd:(x == ("__classdict__":Str)) = false:=by decide):PE X (.Name x pos) (tVar i):=by
  intro pins s σ H Q I h
  obtain ⟨v,e,h⟩:=h
  obtain ⟨m,hn,hl⟩:=I.loc
  obtain ⟨u,r,l⟩:=hl i x v hN e hv
  have fin:EP X pins σ Q u s:=⟨v,H,I,r,h⟩
  rcases l with ⟨hk,hm⟩ | ⟨hk,c,hc,hcell⟩
  · exact wpAny_Name (wpAny_loadName_local I.ok.kind hk hn hm fin) hd
  · rcases hk with hk | hk
    · exact wpAny_Name (wpAny_loadName_cell I.ok.kind hk hc hcell fin) hd
    · exact wpAny_Name (wpAny_loadName_free I.ok.kind hk hc hcell fin hcd) hd
theorem pe_int {i j pos}:PE X (.Constant (.int i) j pos) (tC (.int i)):=fun _ _ _ H _ I h => wpAny_Constant_int ⟨.int i,H,I.tok _,⟨_,rfl⟩,h⟩
theorem pe_bl {b j pos}:PE X (.Constant (.bool b) j pos) (tC (.bl b)):=fun _ _ _ H _ I h => Constant_bool ⟨.bl b,H,I,rfl,h⟩
theorem pe_non {j pos}:PE X (.Constant .none j pos) (tC .non):=fun _ _ _ H _ I h => Constant_none ⟨.non,H,I,rfl,h⟩
theorem pe_str {x j pos}:PE X (.Constant (.str x) j pos) (tC (.str x)):=fun _ _ _ H _ I h => Calls.Constant_str ⟨.str x,H,I.tok _,⟨_,rfl⟩,h⟩
noncomputable def Gl (X:Cx) (x:Str):Prop:=X.env.kindOf x = some .globalImplicit
theorem ld_glob {E:Value → Shared → Prop} {pins:List (Addr × Obj)} {s:Shared} {σ:St} {H:Hp} {x:Str} {u:Value} {pos:Pos} {Q:Value → Shared → Prop} (I:Inv X pins σ H s) (hg:Gl X x) (hm:X.mg x = some u) (h:Q u s)
    (hd:(x == ("__debug__":Str)) = false:=by decide):wpAny (model X.prog X.w) X.A (eval (.Name x pos) X.env) Q E s :=
  Calls.Name_function_global I.ok.kind hg (Calls.loadGlobal_global (by rw [I.ok.glob]; exact I.mod.glob.keeps I.bk) hm h) hd
theorem ld_blt {E:Value → Shared → Prop} {pins:List (Addr × Obj)} {s:Shared} {σ:St} {H:Hp} {x:Str} {u:Value} {pos:Pos} {Q:Value → Shared → Prop} (I:Inv X pins σ H s) (hg:Gl X x) (hm:X.mg x = none) (hv:bootBuiltins x = some u) (h:Q u s)
    (hn:x ≠ "__name__":=by decide) (hd:(x == ("__debug__":Str)) = false:=by decide):wpAny (model X.prog X.w) X.A (eval (.Name x pos) X.env) Q E s:=by
  obtain ⟨mb,h1,h2⟩:=I.mod.blt
  exact Calls.Name_function_global I.ok.kind hg (Calls.loadGlobal_builtin (by rw [I.ok.glob]; exact I.mod.glob.keeps I.bk) hm (by rw [I.ok.blt]; exact h1.keeps I.bk) ((h2 x hn).trans hv) h) hd
theorem pe_glob {x:Str} {v:V} {u:Value} {pos:Pos} (hg:Gl X x) (hm:X.mg x = some u) (r:RelV v u) (hd:(x == ("__debug__":Str)) = false:=by decide):PE X (.Name x pos) (tC v) :=
  fun _ _ _ H _ I h => ld_glob I hg hm ⟨v,H,I,r,h⟩ hd
theorem pe_bltn {x:Str} {v:V} {u:Value} {pos:Pos} (hg:Gl X x) (hm:X.mg x = none) (hv:bootBuiltins x = some u) (r:RelV v u) (hn:x ≠ "__name__":=by decide) (hd:(x == ("__debug__":Str)) = false:=by decide):PE X (.Name x pos) (tC v) :=
  fun _ _ _ H _ I h => ld_blt I hg hm hv ⟨v,H,I,r,h⟩ hn hd
variable {a b:Expr} {ta tb:TE} {pos:Pos}
noncomputable def PC (X:Cx) (op:CmpOp) (a b:Expr) (t:TE):Prop :=
  ∀ (pins:List (Addr × Obj)) (s:Shared) (σ:St) (H:Hp) (Q:VK),Inv X pins σ H s → t σ H Q →
    wpAny (model X.prog X.w) X.A (eval a X.env) (fun v s₁ => wpAny (model X.prog X.w) X.A (eval b X.env) (fun u s₂ => wpAny (model X.prog X.w) X.A (compareOp op v u) (EP X pins σ Q) X.xe s₂) X.xe s₁) X.xe s
theorem nobehind (b:Expr) {op:CmpOp} (h:op ≠ .In) (h2:op ≠ .NotIn):behindInMarks op b = false:=by
  have e1:(op == CmpOp.In) = false:=by cases op <;> first | rfl | exact absurd rfl h
  have e2:(op == CmpOp.NotIn) = false:=by cases op <;> first | rfl | exact absurd rfl h2
  cases b <;> simp [behindInMarks,e1,e2]
noncomputable def tIsN (ta:TE):TE:=fun σ H Q => ta σ H fun x H1 => Q (.bl (decide (x = .non))) H1
theorem RelV.none_iff {x:V} {v:Value} (r:RelV x v):(v == Value.none) = decide (x = .non):=by
  cases x with
  | non => cases r; rfl
  | bl _ => cases r; rfl
  | int _ => obtain ⟨t,rfl⟩:=r; rfl
  | str _ => obtain ⟨t,rfl⟩:=r; rfl
  | byt _ => obtain ⟨t,rfl⟩:=r; rfl
  | flt _ => obtain ⟨t,rfl⟩:=r; rfl
  | ref _ => cases r; rfl
  | ty _ => cases r; rfl
theorem pc_isN {j pos'} (ha:PE X a ta):PC X .Is a (.Constant .none j pos') (tIsN ta):=by
  intro pins s σ H Q I h
  refine thn (ha pins s σ H _ I h) fun v s1 ⟨x,H1,I1,r1,q1⟩ => ?_
  exact Constant_none (is_none_gen ⟨.bl _,H1,I1,by rw [r1.none_iff]; rfl,q1⟩)
noncomputable def tB (t:TE):TT:=fun σ H Q => t σ H fun x H1 => ∃ c,x = .bl c ∧ Q c H1
theorem pt_cmp {op:CmpOp} {t:TE} (h:PC X op a b t) (h1:behindInMarks op b = false:=by first | exact nobehind _ (by decide) (by decide) | rfl):PT X (.Compare a [op] [b] pos) (tB t):=by
  intro pins s σ H Q I hw
  refine wpAny_isTrue_Compare1 (thn (h pins s σ H _ I hw) fun v s1 h1 => thn h1 fun u s2 h2 => thn h2 fun c s3 ⟨x,H1,I1,r1,q1⟩ => ?_) h1
  obtain ⟨d,rfl,q⟩:=q1
  cases r1
  exact wpAny_truthy_bool ⟨H1,I1,q⟩
variable {tA tB':TT} {rest:List Expr}
noncomputable def tAnd (t u:TT):TT:=fun σ H Q => t σ H fun c H1 => if c = true then u σ H1 Q else Q false H1
noncomputable def tOr (t u:TT):TT:=fun σ H Q => t σ H fun c H1 => if c = true then Q true H1 else u σ H1 Q
noncomputable def tNot (t:TT):TT:=fun σ H Q => t σ H fun c H1 => Q (!c) H1
theorem pw_and1 (ha:PT X a tA):PW X (.BoolOp .And [a] pos) tA:=by
  intro wh pins s σ H Q I h
  refine isTrue_and (thn (ha pins s σ H Q I h) fun c s1 e => ?_)
  cases c with
  | true => exact isTrue_and_nil e
  | false => exact e
theorem pw_or1 (ha:PT X a tA):PW X (.BoolOp .Or [a] pos) tA:=by
  intro wh pins s σ H Q I h
  refine isTrue_or (thn (ha pins s σ H Q I h) fun c s1 e => ?_)
  cases c with
  | false => exact isTrue_or_nil e
  | true => exact e
theorem pw_and (ha:PT X a tA) (hb:PW X (.BoolOp .And (b :: rest) pos) tB'):PW X (.BoolOp .And (a :: b :: rest) pos) (tAnd tA tB'):=by
  intro wh pins s σ H Q I h
  refine isTrue_and (thn (ha pins s σ H _ I h) fun c s1 ⟨H1,I1,q1⟩ => ?_)
  cases c with
  | true => exact hb wh pins s1 σ H1 Q I1 q1
  | false => exact ⟨H1,I1,q1⟩
theorem pw_or (ha:PT X a tA) (hb:PW X (.BoolOp .Or (b :: rest) pos) tB'):PW X (.BoolOp .Or (a :: b :: rest) pos) (tOr tA tB'):=by
  intro wh pins s σ H Q I h
  refine isTrue_or (thn (ha pins s σ H _ I h) fun c s1 ⟨H1,I1,q1⟩ => ?_)
  cases c with
  | true => exact ⟨H1,I1,q1⟩
  | false => exact hb wh pins s1 σ H1 Q I1 q1
theorem pt_not (ha:PT X a tA):PT X (.UnaryOp .Not a pos) (tNot tA):=by
  intro pins s σ H Q I h
  exact isTrue_not (ha pins s σ H (fun c H1 => Q (!c) H1) I h)
noncomputable def tNotV (ta:TE):TE:=fun σ H Q => ta σ H fun x H1 => ∃ c,x = .bl c ∧ Q (.bl (!c)) H1
theorem pe_not (ha:PE X a ta):PE X (.UnaryOp .Not a pos) (tNotV ta):=by
  intro pins s σ H Q I h
  refine UnaryOp_ (thn (ha pins s σ H _ I h) fun v s1 ⟨x,H1,I1,r1,q1⟩ => ?_)
  obtain ⟨c,rfl,q1⟩:=q1
  cases r1
  exact not_of (wpAny_truthy_bool ⟨.bl (!c),H1,I1,rfl,q1⟩)
noncomputable def tIf (t:TT) (ta tb:TE):TE:=fun σ H Q => t σ H fun c H1 => if c = true then ta σ H1 Q else tb σ H1 Q
theorem pe_ifExp {c:Expr} (hc:PT X c tA) (ha:PE X a ta) (hb:PE X b tb):PE X (.IfExp c a b pos) (tIf tA ta tb):=by
  intro pins s σ H Q I h
  refine wpAny_IfExp (thn (hc pins s σ H _ I h) fun d s1 ⟨H1,I1,q1⟩ => ?_)
  cases d with
  | true => exact ha pins s1 σ H1 Q I1 q1
  | false => exact hb pins s1 σ H1 Q I1 q1
end
end L2
namespace L2
open PySem PySem.Spec PyProof.Rows
noncomputable def SqL (K:PySem.W.Frag) (H:Hp) (a:Addr) (xs:List V):Prop :=
  Rd H a (.lst xs) ∨
    ∃ (o:Obj) (its:Array Value) (n:Nat),K.lookup a = some o ∧ o.cls = .type "list" ∧ o.dict = none ∧ o.data = .seq its n ∧ its.size ≤ sizeLine ∧ Vals xs its.toList
noncomputable def SqT (K:PySem.W.Frag) (H:Hp) (a:Addr) (xs:List V):Prop :=
  Rd H a (.tup xs) ∨
    ∃ (o:Obj) (its:Array Value) (n:Nat),K.lookup a = some o ∧ o.cls = .type "tuple" ∧ o.data = .seq its n ∧ its.size ≤ sizeLine ∧ Vals xs its.toList
noncomputable def absV:Value → Option V
  | .none => some .non
  | .bool b => some (.bl b)
  | .int i _ => some (.int i)
  | .str x _ => some (.str x)
  | .bytes b _ => some (.byt b)
  | .float b _ => some (.flt b)
  | .ref a => some (.ref a)
  | .type n => some (.ty n)
  | _ => none
theorem RelV.abs {x:V} {u:Value} (r:RelV x u):absV u = some x:=by
  cases x with
  | non => cases r; rfl
  | bl _ => cases r; rfl
  | int _ => obtain ⟨t,rfl⟩:=r; rfl
  | str _ => obtain ⟨t,rfl⟩:=r; rfl
  | byt _ => obtain ⟨t,rfl⟩:=r; rfl
  | flt _ => obtain ⟨t,rfl⟩:=r; rfl
  | ref _ => cases r; rfl
  | ty _ => cases r; rfl
theorem RelV.inj {x y:V} {u:Value} (r:RelV x u) (q:RelV y u):x = y:=Option.some.inj (r.abs.symm.trans q.abs)
theorem Vals.inj:∀ {xs ys:List V} {us:List Value},Vals xs us → Vals ys us → xs = ys
  | _,_,_,.nil,.nil => rfl
  | _,_,_,.cons r t,.cons r' t' => by rw [r.inj r',Vals.inj t t']
section
variable {X:Cx} {pins:List (Addr × Obj)} {σ:St} {H:Hp} {s:Shared} {a:Addr} {xs ys:List V}
theorem SqL.of {K:PySem.W.Frag} (h:H a = some (.lst xs)):SqL K H a xs:=.inl (.inl h)
theorem SqT.of {K:PySem.W.Frag} (h:H a = some (.tup xs)):SqT K H a xs:=.inl (.inl h)
theorem Inv.list (I:Inv X pins σ H s) (h:SqL X.K H a xs):∃ its:List Value,Vals xs its ∧ PlainL s.heap a its.toArray ∧ xs.length ≤ sizeLine:=by
  rcases h with h | ⟨o,its,n,hk,hc,hd,hs,hz,r⟩
  · obtain ⟨z,its,n,r,e⟩:=h.ok I.hok
    exact ⟨its,r,⟨_,n,e,rfl,rfl,rfl⟩,z⟩
  · refine ⟨its.toList,r,⟨o,n,I.kIn a o hk,hc,hd,by simpa using hs⟩,?_⟩
    have e:=r.length
    simp only [Array.length_toList] at e
    omega
theorem Inv.tuple (I:Inv X pins σ H s) (h:SqT X.K H a xs):∃ its:List Value,Vals xs its ∧ IsTup s.heap a its.toArray ∧ xs.length ≤ sizeLine:=by
  rcases h with h | ⟨o,its,n,hk,hc,hs,hz,r⟩
  · obtain ⟨z,its,r,p⟩:=h.ok I.hok
    exact ⟨its,r,p,z⟩
  · refine ⟨its.toList,r,⟨o,I.kIn a o hk,hc,n,by simpa using hs⟩,?_⟩
    have e:=r.length
    simp only [Array.length_toList] at e
    omega
theorem Inv.list_inj (I:Inv X pins σ H s) (h:SqL X.K H a xs) (h':SqL X.K H a ys):xs = ys:=by
  obtain ⟨its,r,⟨o,n,e,_,_,d⟩,_⟩:=I.list h
  obtain ⟨its',r',⟨o',n',e',_,_,d'⟩,_⟩:=I.list h'
  rw [e] at e'; cases e'
  rw [d] at d'
  injection d' with d1 _
  have:its = its':=by simpa using congrArg Array.toList d1
  subst this
  exact r.inj r'
end
noncomputable abbrev Cx.wish (X:Cx) (E:Value → Shared → Prop):Cx:={ X with xe:=E }
noncomputable abbrev Cx.nox (X:Cx):Cx:=X.wish fun _ _ => False
theorem Cx.Ok.wish {X:Cx} (ok:X.Ok) (E:Value → Shared → Prop):(X.wish E).Ok :=
  ⟨ok.mod,ok.kind,ok.glob,ok.blt,ok.above,ok.inj,ok.has,ok.cab,ok.hd,ok.frames,ok.stk,ok.exf,ok.bs,ok.bsz,ok.noex,ok.exfs,ok.funs,ok.frf⟩
theorem Cx.Ok.unwish {X:Cx} {E:Value → Shared → Prop} (ok:(X.wish E).Ok):X.Ok :=
  ⟨ok.mod,ok.kind,ok.glob,ok.blt,ok.above,ok.inj,ok.has,ok.cab,ok.hd,ok.frames,ok.stk,ok.exf,ok.bs,ok.bsz,ok.noex,ok.exfs,ok.funs,ok.frf⟩
section
variable {X:Cx} {pins:List (Addr × Obj)} {σ:St} {H:Hp} {s:Shared} {E:Value → Shared → Prop}
theorem Inv.wish (I:Inv X pins σ H s) (E:Value → Shared → Prop):Inv (X.wish E) pins σ H s:=⟨I.ok.wish E,I.os,I.bare,I.base,I.loc,I.cell,I.free,I.freeC,I.pin,I.hok,I.len⟩
theorem Inv.unwish (I:Inv (X.wish E) pins σ H s):Inv X pins σ H s:=⟨I.ok.unwish,I.os,I.bare,I.base,I.loc,I.cell,I.free,I.freeC,I.pin,I.hok,I.len⟩
theorem SP.unwish {D:Ends} {f:Flow} {s':Shared} (h:SP (X.wish E) pins D f s'):SP X pins D f s':=by
  cases f with
  | next => obtain ⟨σ',H',I,q⟩:=h; exact ⟨σ',H',I.unwish,q⟩
  | brk => obtain ⟨σ',H',I,q⟩:=h; exact ⟨σ',H',I.unwish,q⟩
  | cont => obtain ⟨σ',H',I,q⟩:=h; exact ⟨σ',H',I.unwish,q⟩
  | ret u => obtain ⟨v,σ',H',I,r,q⟩:=h; exact ⟨v,σ',H',I.unwish,r,q⟩
theorem PSs.nox {st:List Stmt} {t:TS} (h:PSs X.nox st t):PSs X st t:=fun pins s σ H D I hw =>
  wpAny_mono (h pins s σ H D (I.wish _) hw) (fun _ _ q => q.unwish) fun _ _ z => False.elim z
end
section
variable {X:Cx} {st:Stmt} {rest:List Stmt} {t u:TS} {e:Expr} {te:TE} {pos:Pos}
noncomputable def tNext:TS:=fun D σ H => D.nx σ H
noncomputable def tSeq (t u:TS):TS:=fun D σ H => t { D with nx:=u D } σ H
theorem pss_nil:PSs X [] tNext:=fun _ _ σ H _ I h => wpAny_execs_nil ⟨σ,H,I,h⟩
theorem pss_cons (h1:PS X st t) (h2:PSs X rest u):PSs X (st :: rest) (tSeq t u):=by
  intro pins s σ H D I h
  refine wpAny_execs_cons (thn (h1 pins s σ H { D with nx:=u D } I h) fun f s1 q => ?_)
  cases f with
  | next =>
    obtain ⟨σ',H',I',q⟩:=q
    exact h2 pins s1 σ' H' D I' q
  | ret v => exact q
  | brk => exact q
  | cont => exact q
theorem pss_one (h1:PS X st t):PSs X [st] t:=by
  intro pins s σ H D I h
  refine wpAny_execs_cons (thn (h1 pins s σ H D I h) fun f s1 q => ?_)
  cases f with
  | next => exact wpAny_execs_nil q
  | ret v => exact q
  | brk => exact q
  | cont => exact q
theorem Inv.quiet {pins:List (Addr × Obj)} {σ:St} {H:Hp} {s:Shared} (I:Inv X pins σ H s):interactive X.env = false:=by simp [interactive,I.ok.kind]
noncomputable def tDrop (te:TE):TS:=fun D σ H => te σ H fun _ H1 => D.nx σ H1
theorem ps_expr (he:PE X e te) (hs:swapsWith e none pos.line X.env = pure false:=by rfl):PS X (.Expr e pos) (tDrop te):=by
  intro pins s σ H D I h
  exact wpAny_Expr_any (thn (he pins s σ H _ I h) fun v s1 ⟨x,H1,I1,r1,q1⟩ => ⟨σ,H1,I1,q1⟩) I.quiet hs
noncomputable def tRet (te:TE):TS:=fun D σ H => te σ H D.rt
theorem ps_ret (he:PE X e te):PS X (.Return (some e) pos) (tRet te):=by
  intro pins s σ H D I h
  exact wpAny_Return_some (thn (he pins s σ H _ I h) fun v s1 ⟨x,H1,I1,r1,q1⟩ => ⟨x,σ,H1,I1,r1,q1⟩)
noncomputable def tIfS (c:TT) (t u:TS):TS:=fun D σ H => c σ H fun b H1 => if b = true then t D σ H1 else u D σ H1
theorem ps_if {c:Expr} {a b:List Stmt} {tc:TT} (hc:PT X c tc) (ha:PSs X a t) (hb:PSs X b u):PS X (.If c a b pos) (tIfS tc t u):=by
  intro pins s σ H D I h
  refine wpAny_If (thn (hc pins s σ H _ I h) fun d s1 ⟨H1,I1,q1⟩ => ?_)
  cases d with
  | true => exact ha pins s1 σ H1 D I1 q1
  | false => exact hb pins s1 σ H1 D I1 q1
end
noncomputable abbrev TG:=V → St → Hp → (St → Hp → Prop) → Prop
noncomputable def PG (X:Cx) (target:Expr) (t:TG):Prop :=
  ∀ (pins:List (Addr × Obj)) (s:Shared) (σ:St) (H:Hp) (v:V) (u:Value) (Q:St → Hp → Prop),Inv X pins σ H s → RelV v u → t v σ H Q →
    wpAny (model X.prog X.w) X.A (assign target X.env u) (fun _ s' => ∃ σ' H',Inv X pins σ' H' s' ∧ Q σ' H') X.xe s
noncomputable abbrev TSet:=V → V → V → Hp → (Hp → Prop) → Prop
section
variable {X:Cx} {pos:Pos}
noncomputable def gName (i:Nat):TG:=fun v σ H Q => Q (σ.set i (some v)) H
theorem pg_name {i:Nat} {x:Str} (hN:X.N.Nodup) (hi:X.N[i]? = some x) (hx:Loc X.env.scope x) (hf:X.fn x = true ∨ X.env.scope.names.lookup x = some .local:=by first | exact .inl rfl | exact .inr rfl | assumption):PG X (.Name x pos) (gName i):=by
  intro pins s σ H v u Q I r h
  exact wpAny_assign_Name (store_ok I hN hi hx r (fun s' I' => ⟨_,H,I',h⟩) hf)
noncomputable def gSub (to ti:TE) (t:TSet):TG:=fun v σ H Q => to σ H fun o H1 => ti σ H1 fun i H2 => t o i v H2 fun H3 => Q σ H3
noncomputable def tAsg (te:TE) (g:TG):TS:=fun D σ H => te σ H fun x H1 => g x σ H1 D.nx
theorem ps_set {i:Nat} {x:Str} {e:Expr} {te:TE} {pos':Pos} (hN:X.N.Nodup) (hi:X.N[i]? = some x) (hx:Loc X.env.scope x) (he:PE X e te) (hs:swapsWith e (some (.Name x pos')) pos.line X.env = pure false:=by rfl) (hf:X.fn x = true ∨ X.env.scope.names.lookup x = some .local:=by first | exact .inl rfl | exact .inr rfl | assumption) :
    PS X (.Assign [.Name x pos'] e pos) (tAsg te (gName i)):=by
  intro pins s σ H D I h
  refine wpAny_Assign_Name (thn (he pins s σ H _ I h) fun v s1 ⟨y,H1,I1,r1,q1⟩ => ?_) hs
  exact store_ok I1 hN hi hx r1 (fun s2 I2 => ⟨_,H1,I2,q1⟩) hf
end
section
variable {X:Cx} {pos:Pos}
noncomputable def tWhile (c:TT) (tb:TS):TS:=fun D σ H => ∃ W:Nat → St → Hp → Prop,(∃ m,W m σ H) ∧ ∀ m σ H,W m σ H →
  c σ H fun b H1 => if b = true then ∃ N:St → Hp → Prop,(∀ σ' H',N σ' H' → ∃ m',m' < m ∧ W m' σ' H') ∧ tb { D with nx:=N,ct:=N,bk:=D.nx } σ H1 else D.nx σ H1
theorem ps_while {c:Expr} {body:List Stmt} {tc:TT} {tb:TS} (hp:PassesOwn (model X.prog X.w) X.A X.env X.xe) (hc:PT X c tc) (hb:PSs X body tb):PS X (.While c body [] pos) (tWhile tc tb):=by
  intro pins s σ H D I h
  obtain ⟨W,⟨m0,w0⟩,turn⟩:=h
  refine wpAny_While (codeAny_whileLoop (fun n s' => ∃ σ' H',Inv X pins σ' H' s' ∧ W n σ' H') ?_ m0 ⟨σ,H,I,w0⟩)
  rintro n s1 ⟨σ1,H1,I1,w1⟩
  refine wpAny_passesOwn hp (thn (hc pins s1 σ1 H1 _ I1 (turn n σ1 H1 w1)) fun b s2 ⟨H2,I2,q2⟩ => ?_)
  cases b with
  | true =>
    obtain ⟨N,hN,q2⟩:=q2
    rw [if_pos rfl]
    refine wpAny_passesOwn hp (thn (hb pins s2 σ1 H2 _ I2 q2) fun f s3 q3 => ?_)
    cases f with
    | next =>
      obtain ⟨σ3,H3,I3,n3⟩:=q3
      obtain ⟨m',hm,w3⟩:=hN σ3 H3 n3
      exact ⟨m',hm,σ3,H3,I3,w3⟩
    | cont =>
      obtain ⟨σ3,H3,I3,n3⟩:=q3
      obtain ⟨m',hm,w3⟩:=hN σ3 H3 n3
      exact ⟨m',hm,σ3,H3,I3,w3⟩
    | brk => exact q3
    | ret v => exact q3
  | false =>
    rw [if_neg Bool.false_ne_true]
    exact wpAny_execs_nil ⟨σ1,H2,I2,q2⟩
end
structure It where
  go:Nat → Hp → Prop
  yld:Nat → Hp → V → Hp → Prop
  stop:Nat → Hp → Prop
noncomputable def FpOk (X:Cx) (pins:List (Addr × Obj)) (H:Hp) (b:Addr):Prop :=
  H b = none ∧ b ≠ X.env.locals ∧ b ∉ X.fs ∧ (b ∈ X.ex ∨ X.s₀.heap.objs.size ≤ b) ∧ (∀ x c,X.env.cells.lookup x = some c → c ≠ b) ∧ ∀ p ∈ X.pn ++ pins,p.1 ≠ b
theorem Inv.fpOk {X:Cx} {pins:List (Addr × Obj)} {σ:St} {H H':Hp} {s:Shared} {b:Addr} (I:Inv X pins σ H s) (hb:s.heap.objs.size ≤ b) (hn:H' b = none):FpOk X pins H' b:=by
  refine ⟨hn,Nat.ne_of_gt (Nat.lt_of_lt_of_le I.lt hb),I.nofs hb,.inr (Nat.le_trans I.sz hb),fun x c e z => ?_,fun p hp z => ?_⟩
  · obtain ⟨v,q⟩:=I.cell x c e
    exact absurd (Nat.lt_of_lt_of_le q.lt (by rw [z]; exact hb)) (Nat.lt_irrefl _)
  · exact absurd (Nat.lt_of_lt_of_le (Heap.lt_size (I.pin p hp).1) (by rw [z]; exact hb)) (Nat.lt_irrefl _)
structure Turn (P:Program) (w:World) (K:PySem.W.Frag) (tg:Expr) (J:It) (fp:List Addr) (it:Addr) (tn:Nat → Heap → Prop):Prop where
  mem:it ∈ fp
  obj:∀ i h,tn i h → ∀ b ∈ fp,∃ o,h.get? b = some o ∧ ∀ v,o.data ≠ .cell v
  keep:∀ i h h',tn i h → (∀ b ∈ fp,∀ o,h.get? b = some o → h'.get? b = some o) → tn i h'
  item:∀ (X:Cx),X.prog = P → X.w = w → X.K = K → X.calm = true → ∀ (i:Nat) (pins:List (Addr × Obj)) (s:Shared) (σ:St) (H:Hp) (E:Value → Shared → Prop),Inv X pins σ H s → (∀ b ∈ fp,FpOk X pins H b) → tn i s.heap → J.go i H →
    wpAny (model P w) X.A (pyNext (.ref it)) (fun r s1 => ∃ u,r = some u ∧
      wpAny (model P w) X.A (letOwnedTupleGo tg (.ref it) u) (fun _ s2 => ∃ x H',Inv X pins σ H' s2 ∧ RelV x u ∧ J.yld i H x H' ∧ tn (i + 1) s2.heap ∧ ∀ b ∈ fp,H' b = none) E s1) E s
  done:∀ (X:Cx),X.prog = P → X.w = w → X.K = K → X.calm = true → ∀ (i:Nat) (pins:List (Addr × Obj)) (s:Shared) (σ:St) (H:Hp) (E:Value → Shared → Prop),Inv X pins σ H s → (∀ b ∈ fp,FpOk X pins H b) → tn i s.heap → J.stop i H →
    wpAny (model P w) X.A (pyNext (.ref it)) (fun r s1 => r = none ∧ Inv X pins σ H s1) E s
  self:∀ (A:Around) (i:Nat) (s:Shared) (Q:Value → Shared → Prop) (E:Value → Shared → Prop),tn i s.heap → Q (.ref it) s → wpAny (model P w) A (pyIter (.ref it)) Q E s
noncomputable abbrev TI:=St → Hp → (It → Hp → Prop) → Prop
noncomputable def PIE (X:Cx) (pins:List (Addr × Obj)) (σ:St) (tg:Expr) (R:It → Hp → Prop) (itv:Value) (s2:Shared):Prop :=
  ∃ (it:Addr) (fp:List Addr) (tn:Nat → Heap → Prop) (J:It) (H':Hp),itv = .ref it ∧ Inv X pins σ H' s2 ∧ Turn X.prog X.w X.K tg J fp it tn ∧ tn 0 s2.heap ∧ (∀ b ∈ fp,FpOk X pins H' b) ∧ R J H'
noncomputable def PI (X:Cx) (tg iter:Expr) (wi:TI):Prop :=
  ∀ (pins:List (Addr × Obj)) (s:Shared) (σ:St) (H:Hp) (R:It → Hp → Prop),Inv X pins σ H s → wi σ H R →
    wpAny (model X.prog X.w) X.A (eval iter X.env) (fun v s1 => wpAny (model X.prog X.w) X.A (pyIter v) (PIE X pins σ tg R) X.xe s1) X.xe s
theorem go_of {M:Model} {A:Around} {E:Value → Shared → Prop} {s:Shared} {tg:Expr} {it:Addr} {u:Value} {o:Obj} {n:String} {vs:Array Value} {Q:Unit → Shared → Prop} (ho:s.heap.get? it = some o) (hc:o.cls = .type n) (hd:o.data = .fields vs)
    (hn:["enumerate","zip","dict_itemiterator","dict_reverseitemiterator","odict_iterator","itertools.zip_longest","itertools.pairwise"].contains n = false) (hQ:Q () s):wpAny M A (letOwnedTupleGo tg (.ref it) u) Q E s:=by
  unfold letOwnedTupleGo
  cases tg <;> first
    | exact wpAny_pure hQ
    | (cases u <;> first
        | exact wpAny_pure hQ
        | (refine wpAny_bind (wpAny_load ho ?_)
           rw [hc,hd]
           show wpAny M A (if (["enumerate","zip","dict_itemiterator","dict_reverseitemiterator","odict_iterator","itertools.zip_longest","itertools.pairwise"].contains n && vs[0]? == some (rawInt _)) = true then _ else _) Q E s
           rw [if_neg (by intro h; rw [hn,Bool.false_and] at h; cases h)]
           exact wpAny_pure hQ))
noncomputable def Itl (K:PySem.W.Frag) (a:Addr):It :=
  ⟨fun i H => ∃ xs x,SqL K H a xs ∧ xs[i]? = some x,fun i H x H' => H' = H ∧ ∀ xs,SqL K H a xs → xs[i]? = some x,fun i H => ∃ xs,SqL K H a xs ∧ xs.length ≤ i⟩
noncomputable def Itr (lo:Int) (n:Nat):It:=⟨fun i _ => i < n,fun i H x H' => H' = H ∧ x = .int (lo + i),fun i _ => n ≤ i⟩
theorem turn_list {P:Program} {w:World} {K:PySem.W.Frag} {tg:Expr} (a it:Addr):Turn P w K tg (Itl K a) [it] it (fun i h => h.IsListIter it a i) where
  mem:=by simp
  obj:=fun i h st b hb => by
    have e:b = it:=by simpa using hb
    subst e
    obtain ⟨o,e,c,d⟩:=st
    exact ⟨o,e,fun v z => by rw [d] at z; cases z⟩
  keep:=fun i h h' st k => st.at fun o e => k it (by simp) o e
  item:=by
    intro X hP hw hK hc i pins s σ H E I hf st hg
    subst hP hw hK
    obtain ⟨xs,x,hq,hx⟩:=hg
    obtain ⟨its,rv,p,hz⟩:=I.list hq
    obtain ⟨u,hu,ru⟩:=rv.get hx
    obtain ⟨f0,f1,f2,f3,f4,f5⟩:=hf it (by simp)
    refine wpAny_pyNext_list_item st p.isList (x:=u) (by simpa using hu) fun h' st' sb => ?_
    have I1:Inv X pins σ H { s with heap:=h' }:=I.turned (t':=s.toks) (fun b o hb e => (sb.2 b hb).trans e) f0 f1 f3 f4 f5
    obtain ⟨o,e,c,d⟩:=id st'
    exact ⟨u,rfl,go_of (s:={ s with heap:=h' }) e c d (by decide) ⟨x,H,I1,ru,⟨rfl,fun ys hy => by rw [I.list_inj hy hq]; exact hx⟩,st',fun b hb => (hf b hb).1⟩⟩
  done:=by
    intro X hP hw hK hc i pins s σ H E I hf st hg
    subst hP hw hK
    obtain ⟨xs,hq,hx⟩:=hg
    obtain ⟨its,rv,p,hz⟩:=I.list hq
    obtain ⟨f0,f1,f2,f3,f4,f5⟩:=hf it (by simp)
    have hl:=rv.length
    exact wpAny_pyNext_list_end (I.ok.hd hc) st p.isList (by simp; omega) fun h' eb => ⟨rfl,I.turned (t':=s.toks) (fun b o hb e => eb b o hb e) f0 f1 f3 f4 f5⟩
  self:=fun _ _ _ _ _ st h => wpAny_pyIter_listiter st h
theorem turn_range {P:Program} {w:World} {K:PySem.W.Frag} {tg:Expr} (it:Addr) (lo:Int) (n:Nat):Turn P w K tg (Itr lo n) [it] it (fun i h => IsRangeIter h it (lo + (i:Nat) * 1) ((n:Int) - (i:Nat)) 1) where
  mem:=by simp
  obj:=fun i h st b hb => by
    have e:b = it:=by simpa using hb
    subst e
    exact ⟨_,st,fun v z => by
      have z':Data.fields _ = Data.cell v:=z
      cases z'⟩
  keep:=fun i h h' st k => k it (by simp) _ st
  item:=by
    intro X hP hw hK hc i pins s σ H E I hf st hg
    subst hP hw hK
    obtain ⟨f0,f1,f2,f3,f4,f5⟩:=hf it (by simp)
    have W:=Walks.range (prog:=X.prog) (w:=X.w) (I.ok.hd hc) it lo 1 n
    refine W.item i s _ _ hg st fun v h' tk hv st' kk => ?_
    obtain ⟨t,rfl⟩:=hv
    have I1:Inv X pins σ H { s with heap:=h',toks:=tk }:=I.turned (fun b o hb e => kk b o (by simpa using hb) e) f0 f1 f3 f4 f5
    refine ⟨_,rfl,go_of (s:={ s with heap:=h',toks:=tk }) (n:="range_iterator") st' rfl rfl (by decide) ⟨.int (lo + i),H,I1,⟨t,?_⟩,⟨rfl,rfl⟩,st',fun b hb => (hf b hb).1⟩⟩
    rw [Int.mul_one]
  done:=by
    intro X hP hw hK hc i pins s σ H E I hf st hg
    subst hP hw hK
    obtain ⟨f0,f1,f2,f3,f4,f5⟩:=hf it (by simp)
    exact wpAny_pyNext_range_end (I.ok.hd hc) st (by have:n ≤ i:=hg; omega) fun h' eb => ⟨rfl,I.turned (t':=s.toks) (fun b o hb e => eb b o hb e) f0 f1 f3 f4 f5⟩
  self:=fun _ _ _ _ _ st h => wpAny_pyIter_rangeiter st h
end L2
namespace L2
open PySem PySem.Spec PyProof.Rows
section
variable {X:Cx} {tg:Expr}
noncomputable def iList (K:PySem.W.Frag) (tl:TE):TI:=fun σ H R => tl σ H fun x H1 => ∃ a,x = .ref a ∧ (∃ xs,SqL K H1 a xs) ∧ R (Itl K a) H1
theorem pi_list {l:Expr} {tl:TE} (hl:PE X l tl):PI X tg l (iList X.K tl):=by
  intro pins s σ H R I h
  refine thn (hl pins s σ H _ I h) fun v s1 ⟨x,H1,I1,r1,q1⟩ => ?_
  obtain ⟨a,e,⟨xs,hq⟩,q⟩:=q1
  subst e
  cases r1
  obtain ⟨its,rv,p,hz⟩:=I1.list hq
  refine wpAny_pyIter_list p.isList ?_
  refine ⟨s1.heap.objs.size,[s1.heap.objs.size],_,_,H1,rfl,I1.kept (t':=s1.toks) fun b o e => Heap.get?_push_of_some _ e,turn_list a _,⟨_,Heap.get?_push_size _ rfl,rfl,rfl⟩,fun b hb => ?_,q⟩
  have e:b = s1.heap.objs.size:=by simpa using hb
  subst e
  exact I1.fpOk (Nat.le_refl _) (I1.hok.fresh (Nat.le_refl _))
theorem range_it {pins:List (Addr × Obj)} {σ:St} {H:Hp} {s:Shared} {R:It → Hp → Prop} {E:Value → Shared → Prop} {lo hi:Int} {t u v:Tok} {tk:Nat} (I:Inv X pins σ H s) (h1:-(2 ^ 62) ≤ lo) (h2:lo < 2 ^ 62) (h3:-(2 ^ 62) ≤ hi) (h4:hi < 2 ^ 62)
    (q:R (Itr lo (hi - lo).toNat) H):wpAny (model X.prog X.w) X.A (pyIter (.ref s.heap.objs.size)) (PIE X pins σ tg R) E { s with heap:=s.heap.push { cls:=.type "range",data:=.fields #[.int lo t,.int hi u,.int 1 v] },toks:=tk }:=by
  refine wpAny_pyIter_range (IsRange.new ..) (small_one h1 h2 h3 h4) ?_
  have I1:Inv X pins σ H { s with heap:=s.heap.push { cls:=.type "range",data:=.fields #[.int lo t,.int hi u,.int 1 v] },toks:=tk }:=I.kept fun b o e => Heap.get?_push_of_some _ e
  refine ⟨(s.heap.push { cls:=.type "range",data:=.fields #[.int lo t,.int hi u,.int 1 v] }).objs.size,[(s.heap.push { cls:=.type "range",data:=.fields #[.int lo t,.int hi u,.int 1 v] }).objs.size],_,_,H,rfl,
    I1.kept (t':=tk) fun b o e => Heap.get?_push_of_some _ e,turn_range _ lo (hi - lo).toNat,?_,fun b hb => ?_,q⟩
  · have e1:lo + ((0:Nat):Int) * 1 = lo:=by simp
    have e2:(((hi - lo).toNat:Nat):Int) - ((0:Nat):Int) = Builtin.Range.rangeSize lo hi 1:=by rw [rangeSize_one]; split <;> omega
    show IsRangeIter _ _ (lo + ((0:Nat):Int) * 1) ((((hi - lo).toNat:Nat):Int) - ((0:Nat):Int)) 1
    rw [e1,e2]
    exact Heap.get?_push_size _ rfl
  · have e:b = (s.heap.push { cls:=.type "range",data:=.fields #[.int lo t,.int hi u,.int 1 v] }).objs.size:=by simpa using hb
    subst e
    exact I1.fpOk (Nat.le_refl _) (I1.hok.fresh (Nat.le_refl _))
noncomputable def iRng1 (ta:TA):TI:=fun σ H R => ta σ H fun vs H1 => ∃ j:Int,vs = [.int j] ∧ -(2 ^ 62) ≤ j ∧ j < 2 ^ 62 ∧ R (Itr 0 j.toNat) H1
theorem pi_range1 {a:Expr} {ta:TA} {p pos:Pos} (hg:Gl X "range") (hm:X.mg "range" = none) (ha:PA X [a] ta) (hs:starEach [a] X.env = [(false,eval a X.env)]:=by rfl):PI X tg (.Call (.Name "range" p) [a] [] pos) (iRng1 ta):=by
  intro pins s σ H R I h
  refine Call_ (ld_blt I hg hm boot_range (PyProof.Rows.callWith_type1 (thn (ha pos pins s σ H _ I h) fun us s1 ⟨vs,H1,I1,r1,q1⟩ => ?_) hs rfl))
  obtain ⟨j,e,q1,q2,q⟩:=q1
  subst e
  cases r1 with
  | cons r rr =>
    cases rr
    obtain ⟨t,rfl⟩:=r
    exact call_range_1 (range_it I1 (by omega) (by omega) q1 q2 (by simpa using q))
noncomputable def tFor (wi:TI) (g:TG) (tb:TS):TS:=fun D σ H => wi σ H fun J H1 => ∃ W:Nat → Nat → St → Hp → Prop,(∃ m,W 0 m σ H1) ∧ ∀ i m σ H,W i m σ H →
  (J.stop i H ∧ D.nx σ H) ∨ (J.go i H ∧ ∃ N:St → Hp → Prop,(∀ σ' H',N σ' H' → ∃ m',m' < m ∧ W (i + 1) m' σ' H') ∧ ∀ x H',J.yld i H x H' → g x σ H' fun σ2 H2 => tb { D with nx:=N,ct:=N,bk:=D.nx } σ2 H2)
noncomputable def pinsAt (fp:List Addr) (h:Heap):List (Addr × Obj):=fp.filterMap fun b => (h.get? b).map fun o => (b,o)
theorem mem_pinsAt {fp:List Addr} {h:Heap} {b:Addr} {o:Obj} (hb:b ∈ fp) (e:h.get? b = some o):(b,o) ∈ pinsAt fp h:=List.mem_filterMap.mpr ⟨b,hb,by rw [e]; rfl⟩
theorem of_pinsAt {fp:List Addr} {h:Heap} {p:Addr × Obj} (hp:p ∈ pinsAt fp h):p.1 ∈ fp ∧ h.get? p.1 = some p.2:=by
  obtain ⟨b,hb,e⟩:=List.mem_filterMap.mp hp
  cases q:h.get? b with
  | none => rw [q] at e; cases e
  | some o =>
    rw [q] at e
    have e':(b,o) = p:=Option.some.inj e
    subst e'
    exact ⟨hb,q⟩
theorem Inv.pinned {pins:List (Addr × Obj)} {σ:St} {H:Hp} {s:Shared} {fp:List Addr} (I:Inv X pins σ H s) (hf:∀ b ∈ fp,FpOk X pins H b) (ho:∀ b ∈ fp,∃ o,s.heap.get? b = some o ∧ ∀ v,o.data ≠ .cell v):Inv X (pins ++ pinsAt fp s.heap) σ H s :=
  I.pins_of fun p hp => (List.mem_append.mp hp).elim (fun z => I.pin p (List.mem_append_right _ z)) fun z => by
    obtain ⟨hb,e⟩:=of_pinsAt z
    obtain ⟨f0,f1,f2,_⟩:=hf p.1 hb
    obtain ⟨o,e',d⟩:=ho p.1 hb
    rw [e] at e'; cases e'
    exact ⟨e,f0,f1,f2,d⟩
theorem Inv.unpinned {pins pl:List (Addr × Obj)} {σ:St} {H:Hp} {s:Shared} (I:Inv X (pins ++ pl) σ H s):Inv X pins σ H s:=I.pins_of fun p hp => I.pin p (List.mem_append_right _ (List.mem_append_left _ hp))
theorem ps_for {iter:Expr} {body:List Stmt} {wi:TI} {g:TG} {tb:TS} {pos:Pos} (hp:PassesOwn (model X.prog X.w) X.A X.env X.xe) (hc:X.calm = true) (hi:PI X tg iter wi) (hg:PG X tg g) (hb:PSs X body tb)
    (hs:∀ x,foldedSetIterable iter X.env x = pure x:=by intro _; rfl):PS X (.For tg iter body [] pos) (tFor wi g tb):=by
  intro pins s σ H D I h
  refine wpAny_For (thn (hi pins s σ H _ I h) fun v s1 h1 => thn h1 fun itv s2 h2 => ?_) hs
  obtain ⟨it,fp,tn,J,H2,e,I2,T,st2,f2,W,⟨m0,w0⟩,turn⟩:=h2
  subst e
  have stat:∀ {H':Hp},(∀ b ∈ fp,H' b = none) → ∀ b ∈ fp,FpOk X pins H' b:=fun hn b hb => ⟨hn b hb,(f2 b hb).2⟩
  refine codeAny_forLoop_any (fun n s' => ∃ i σ' H',Inv X pins σ' H' s' ∧ tn i s'.heap ∧ (∀ b ∈ fp,H' b = none) ∧ W i n σ' H') ?_ m0 ⟨0,σ,H2,I2,st2,fun b hb => (f2 b hb).1,w0⟩
  rintro n s3 ⟨i,σ3,H3,I3,st3,fr3,w3⟩
  rcases turn i n σ3 H3 w3 with ⟨stop,qn⟩ | ⟨go,N,hN,step⟩
  · refine wpAny_passesOwn hp (thn (T.done X rfl rfl rfl hc i pins s3 σ3 H3 X.xe I3 (stat fr3) st3 stop) fun r s4 ⟨hr,I4⟩ => ?_)
    subst hr
    exact wpAny_execs_nil ⟨σ3,H3,I4,qn⟩
  · refine wpAny_passesOwn hp (thn (T.item X rfl rfl rfl hc i pins s3 σ3 H3 X.xe I3 (stat fr3) st3 go) fun r s4 ⟨u,hr,h4⟩ => ?_)
    subst hr
    refine wpAny_passesOwn hp (thn h4 fun _ s5 ⟨x,H5,I5,r5,y5,st5,fr5⟩ => ?_)
    have I5':=I5.pinned (stat fr5) (T.obj _ _ st5)
    refine wpAny_passesOwn hp (thn (hg _ s5 σ3 H5 x u _ I5' r5 (step x H5 y5)) fun _ s6 ⟨σ6,H6,I6,q6⟩ => ?_)
    refine wpAny_passesOwn hp (thn (hb _ s6 σ6 H6 _ I6 q6) fun f s7 q7 => ?_)
    have again:∀ {σ7:St} {H7:Hp},Inv X (pins ++ pinsAt fp s5.heap) σ7 H7 s7 → N σ7 H7 → ∃ m,m < n ∧ ∃ i σ' H',Inv X pins σ' H' s7 ∧ tn i s7.heap ∧ (∀ b ∈ fp,H' b = none) ∧ W i m σ' H':=fun {σ7 H7} I7 n7 => by
      obtain ⟨m',hm,w7⟩:=hN σ7 H7 n7
      refine ⟨m',hm,i + 1,σ7,H7,I7.unpinned,T.keep _ _ _ st5 fun b hb o e => (I7.pin (b,o) (List.mem_append_right _ (List.mem_append_right _ (mem_pinsAt hb e)))).1,fun b hb => ?_,w7⟩
      obtain ⟨o,e,d⟩:=T.obj _ _ st5 b hb
      exact (I7.pin (b,o) (List.mem_append_right _ (List.mem_append_right _ (mem_pinsAt hb e)))).2.1
    cases f with
    | next => obtain ⟨σ7,H7,I7,n7⟩:=q7; exact again I7 n7
    | cont => obtain ⟨σ7,H7,I7,n7⟩:=q7; exact again I7 n7
    | brk => obtain ⟨σ7,H7,I7,q7⟩:=q7; exact ⟨σ7,H7,I7.unpinned,q7⟩
    | ret v => obtain ⟨x7,σ7,H7,I7,r7,q7⟩:=q7; exact ⟨x7,σ7,H7,I7.unpinned,r7,q7⟩
end
end L2
namespace L2
open PySem PySem.Spec PyProof.Rows
noncomputable abbrev R2:=V → V → Hp → VK → Prop
noncomputable def OpR (X:Cx) (f:Value → Value → Sem Value) (r:R2):Prop :=
  ∀ (pins:List (Addr × Obj)) (s:Shared) (σ:St) (H:Hp) (x y:V) (v u:Value) (Q:VK),Inv X pins σ H s → RelV x v → RelV y u → r x y H Q →
    wpAny (model X.prog X.w) X.A (f v u) (EP X pins σ Q) X.xe s
noncomputable def UnR (X:Cx) (f:Value → Sem Value) (r:V → Hp → VK → Prop):Prop :=
  ∀ (pins:List (Addr × Obj)) (s:Shared) (σ:St) (H:Hp) (x:V) (v:Value) (Q:VK),Inv X pins σ H s → RelV x v → r x H Q →
    wpAny (model X.prog X.w) X.A (f v) (EP X pins σ Q) X.xe s
noncomputable def CallR (X:Cx) (f:Value) (r:List V → Hp → VK → Prop):Prop :=
  ∀ (pins:List (Addr × Obj)) (s:Shared) (σ:St) (H:Hp) (xs:List V) (us:List Value) (Q:VK),Inv X pins σ H s → Vals xs us → r xs H Q →
    wpAny (model X.prog X.w) X.A (call f us) (EP X pins σ Q) X.xe s
noncomputable def TruR (X:Cx) (r:V → Hp → (Bool → Hp → Prop) → Prop):Prop :=
  ∀ (pins:List (Addr × Obj)) (s:Shared) (σ:St) (H:Hp) (x:V) (v:Value) (Q:Bool → Hp → Prop),Inv X pins σ H s → RelV x v → r x H Q →
    wpAny (model X.prog X.w) X.A (truthy v) (TP X pins σ Q) X.xe s
noncomputable def tOp (r:R2) (ta tb:TE):TE:=fun σ H Q => ta σ H fun x H1 => tb σ H1 fun y H2 => r x y H2 Q
noncomputable def tUn (r:V → Hp → VK → Prop) (ta:TE):TE:=fun σ H Q => ta σ H fun x H1 => r x H1 Q
noncomputable def rI (C:Int → Int → Prop) (g:Int → Int → V):R2:=fun x y H Q => ∃ i j,x = .int i ∧ y = .int j ∧ C i j ∧ Q (g i j) H
noncomputable def rI0 (g:Int → Int → V):R2:=fun x y H Q => ∃ i j,x = .int i ∧ y = .int j ∧ Q (g i j) H
noncomputable def rU (g:Int → V):V → Hp → VK → Prop:=fun x H Q => ∃ i,x = .int i ∧ Q (g i) H
section
variable {X:Cx} {a b c:Expr} {ta tb tc:TE} {pos:Pos}
theorem binT (ha:PE X a ta) (hb:PE X b tb) {pins:List (Addr × Obj)} {s:Shared} {σ:St} {H:Hp} {R:V → V → Hp → Prop} (I:Inv X pins σ H s)
    (h:ta σ H fun x H1 => tb σ H1 fun y H2 => R x y H2) {Q:Value → Shared → Prop} {f:Value → Value → Sem Value}
    (hf:∀ v u s2 x y H2,Inv X pins σ H2 s2 → RelV x v → RelV y u → R x y H2 → wpAny (model X.prog X.w) X.A (f v u) Q X.xe s2) :
    wpAny (model X.prog X.w) X.A (eval a X.env) (fun v s₁ => wpAny (model X.prog X.w) X.A (eval b X.env) (fun u s₂ => wpAny (model X.prog X.w) X.A (f v u) Q X.xe s₂) X.xe s₁) X.xe s:=by
  refine thn (ha pins s σ H _ I h) fun v s1 ⟨x,H1,I1,r1,q1⟩ => ?_
  refine thn (hb pins s1 σ H1 _ I1 q1) fun u s2 ⟨y,H2,I2,r2,q2⟩ => ?_
  exact hf v u s2 x y H2 I2 r1 r2 q2
theorem pe_op {op:Operator} {r:R2} (ho:OpR X (binaryOp op) r) (ha:PE X a ta) (hb:PE X b tb):PE X (.BinOp a op b pos) (tOp r ta tb):=by
  intro pins s σ H Q I h
  exact wpAny_BinOp (binT ha hb I h fun v u s2 x y H2 I2 rx ry q => ho pins s2 σ H2 x y v u Q I2 rx ry q)
theorem pe_un {op:UnaryOp} {r:V → Hp → VK → Prop} (ho:UnR X (unaryOp op) r) (ha:PE X a ta):PE X (.UnaryOp op a pos) (tUn r ta):=by
  intro pins s σ H Q I h
  exact UnaryOp_ (thn (ha pins s σ H _ I h) fun v s1 ⟨x,H1,I1,r1,q1⟩ => ho pins s1 σ H1 x v Q I1 r1 q1)
theorem opI {f:Value → Value → Sem Value} {C:Int → Int → Prop} {g:Int → Int → Int}
    (rule:∀ (i j:Int) (t u:Tok) (s:Shared) (Q:Value → Shared → Prop) (E:Value → Shared → Prop),C i j → Q (.int (g i j) s.toks) { s with toks:=s.toks + 1 } → wpAny (model X.prog X.w) X.A (f (.int i t) (.int j u)) Q E s) :
    OpR X f (rI C fun i j => .int (g i j)):=by
  intro pins s σ H x y v u Q I rx ry h
  obtain ⟨i,j,rfl,rfl,hc,q⟩:=h
  obtain ⟨t,rfl⟩:=rx
  obtain ⟨t',rfl⟩:=ry
  exact rule i j t t' s _ _ hc ⟨.int (g i j),H,I.tok _,⟨_,rfl⟩,q⟩
theorem opI0 {f:Value → Value → Sem Value} {g:Int → Int → Int}
    (rule:∀ (i j:Int) (t u:Tok) (s:Shared) (Q:Value → Shared → Prop) (E:Value → Shared → Prop),Q (.int (g i j) s.toks) { s with toks:=s.toks + 1 } → wpAny (model X.prog X.w) X.A (f (.int i t) (.int j u)) Q E s) :
    OpR X f (rI0 fun i j => .int (g i j)):=by
  intro pins s σ H x y v u Q I rx ry h
  obtain ⟨i,j,rfl,rfl,q⟩:=h
  obtain ⟨t,rfl⟩:=rx
  obtain ⟨t',rfl⟩:=ry
  exact rule i j t t' s _ _ ⟨.int (g i j),H,I.tok _,⟨_,rfl⟩,q⟩
theorem opB0 {f:Value → Value → Sem Value} {g:Int → Int → Bool}
    (rule:∀ (i j:Int) (t u:Tok) (s:Shared) (Q:Value → Shared → Prop) (E:Value → Shared → Prop),Q (.bool (g i j)) s → wpAny (model X.prog X.w) X.A (f (.int i t) (.int j u)) Q E s) :
    OpR X f (rI0 fun i j => .bl (g i j)):=by
  intro pins s σ H x y v u Q I rx ry h
  obtain ⟨i,j,rfl,rfl,q⟩:=h
  obtain ⟨t,rfl⟩:=rx
  obtain ⟨t',rfl⟩:=ry
  exact rule i j t t' s _ _ ⟨.bl (g i j),H,I,rfl,q⟩
noncomputable def CPow (i j:Int):Prop:=0 ≤ j ∧ j ≤ 1000000 ∧ i.natAbs < 2 ^ 64
noncomputable def CMul (i j:Int):Prop:=(-(2 ^ 64) < i ∧ i < 2 ^ 64) ∨ (-(2 ^ 64) < j ∧ j < 2 ^ 64)
theorem CMul.ok {i j:Int} (h:CMul i j):IntMulOk i j:=by
  rcases h with ⟨h1,h2⟩ | ⟨h1,h2⟩
  · exact .of_left (intBits_le_64 h1 h2)
  · exact .of_right (intBits_le_64 h1 h2)
theorem two_pow_nn (k:Nat):(0:Int) ≤ 2 ^ k:=by
  rw [two_pow_cast]
  exact Int.natCast_nonneg _
theorem op_add:OpR X (binaryOp .Add) (rI0 fun i j => .int (i + j)):=opI0 fun _ _ _ _ _ _ _ q => add_int q
theorem op_sub:OpR X (binaryOp .Sub) (rI0 fun i j => .int (i - j)):=opI0 fun _ _ _ _ _ _ _ q => sub_int q
theorem op_mul:OpR X (binaryOp .Mult) (rI CMul fun i j => .int (i * j)):=opI fun _ _ _ _ _ _ _ hc q => mul_int q hc.ok
theorem op_mod:OpR X (binaryOp .Mod) (rI (fun _ j => 0 < j) fun i j => .int (i % j)):=opI fun i j _ _ _ _ _ hc q => by
  have h1:(0:Int) < j:=hc
  exact mod_int' (by omega) (by rw [Int.fmod_eq_emod_of_nonneg i (by omega)]; exact q)
theorem op_shl:OpR X (binaryOp .LShift) (rI CPow fun i j => .int (i * 2 ^ j.toNat)):=opI fun _ _ _ _ _ _ _ hc q => lshift_int_small hc.1 hc.2.1 hc.2.2 q
theorem op_shr:OpR X (binaryOp .RShift) (rI (fun _ j => 0 ≤ j) fun i j => .int (i / 2 ^ j.toNat)):=opI fun i j _ _ _ _ _ hc q =>
  rshift_int hc (by rw [Int.fdiv_eq_ediv_of_nonneg i (two_pow_nn _)]; exact q)
theorem op_and:OpR X (binaryOp .BitAnd) (rI0 fun i j => .int (Builtin.bitAnd i j)):=opI0 fun _ _ _ _ _ _ _ q => and_int q
theorem op_or:OpR X (binaryOp .BitOr) (rI0 fun i j => .int (Builtin.bitOr i j)):=opI0 fun _ _ _ _ _ _ _ q => or_int q
theorem op_xor:OpR X (binaryOp .BitXor) (rI0 fun i j => .int (Builtin.bitXor i j)):=opI0 fun _ _ _ _ _ _ _ q => xor_int q
theorem unI {f:Value → Sem Value} {g:Int → Int}
    (rule:∀ (i:Int) (t:Tok) (s:Shared) (Q:Value → Shared → Prop) (E:Value → Shared → Prop),Q (.int (g i) s.toks) { s with toks:=s.toks + 1 } → wpAny (model X.prog X.w) X.A (f (.int i t)) Q E s) :
    UnR X f (rU fun i => .int (g i)):=by
  intro pins s σ H x v Q I rx h
  obtain ⟨i,rfl,q⟩:=h
  obtain ⟨t,rfl⟩:=rx
  exact rule i t s _ _ ⟨.int (g i),H,I.tok _,⟨_,rfl⟩,q⟩
theorem un_neg:UnR X (unaryOp .USub) (rU fun i => .int (-i)):=unI fun _ _ _ _ _ q => neg_int q
end
section
variable {X:Cx} {a b c:Expr} {ta tb tc:TE} {pos:Pos}
theorem op_lt:OpR X (compareOp .Lt) (rI0 fun i j => .bl (decide (i < j))):=opB0 fun _ _ _ _ _ _ _ q => lt_int q
theorem op_le:OpR X (compareOp .LtE) (rI0 fun i j => .bl (decide (i ≤ j))):=opB0 fun _ _ _ _ _ _ _ q => le_int q
theorem op_gt:OpR X (compareOp .Gt) (rI0 fun i j => .bl (decide (j < i))):=opB0 fun _ _ _ _ _ _ _ q => gt_int q
theorem op_ge:OpR X (compareOp .GtE) (rI0 fun i j => .bl (decide (j ≤ i))):=opB0 fun _ _ _ _ _ _ _ q => ge_int q
theorem OpR.or {f:Value → Value → Sem Value} {r r':R2} (h:OpR X f r) (h':OpR X f r'):OpR X f (fun x y H Q => r x y H Q ∨ r' x y H Q):=by
  intro pins s σ H x y v u Q I rx ry q
  rcases q with q | q
  · exact h pins s σ H x y v u Q I rx ry q
  · exact h' pins s σ H x y v u Q I rx ry q
theorem nomark (b:Expr) {op:CmpOp} (h:op ≠ .In:=by decide) (h2:op ≠ .NotIn:=by decide):behindInMarks op b = false:=by
  have e1:(op == CmpOp.In) = false:=by cases op <;> first | rfl | exact absurd rfl h
  have e2:(op == CmpOp.NotIn) = false:=by cases op <;> first | rfl | exact absurd rfl h2
  cases b <;> simp [behindInMarks,e1,e2]
theorem pe_cmpR {op:CmpOp} {r:R2} (ho:OpR X (compareOp op) r) (ha:PE X a ta) (hb:PE X b tb) (hm:behindInMarks op b = false):PE X (.Compare a [op] [b] pos) (tOp r ta tb):=by
  intro pins s σ H Q I h
  exact wpAny_Compare1 (binT ha hb I h fun v u s2 x y H2 I2 rx ry q => ho pins s2 σ H2 x y v u Q I2 rx ry q) hm
noncomputable def tTest (t:TE):TT:=fun σ H Q => t σ H fun x H' => ∃ k,x = .bl k ∧ Q k H'
theorem pt_cmpR {op:CmpOp} {r:R2} (ho:OpR X (compareOp op) r) (ha:PE X a ta) (hb:PE X b tb) (hm:behindInMarks op b = false):PT X (.Compare a [op] [b] pos) (tTest (tOp r ta tb)):=by
  intro pins s σ H Q I h
  refine wpAny_isTrue_Compare1 (thn (ha pins s σ H _ I h) fun v s1 ⟨x,H1,I1,r1,q1⟩ => thn (hb pins s1 σ H1 _ I1 q1) fun u s2 ⟨y,H2,I2,r2,q2⟩ =>
    thn (ho pins s2 σ H2 x y v u _ I2 r1 r2 q2) fun c s3 ⟨z,H3,I3,r3,k,e,q3⟩ => ?_) hm
  subst e
  cases r3
  exact wpAny_truthy_bool ⟨H3,I3,q3⟩
noncomputable def TruV (K:PySem.W.Frag) (x:V) (H:Hp) (k:Bool):Prop :=
  match x with
  | .non => k = false
  | .bl b => k = b
  | .int i => k = (i != 0)
  | .str y => y.length ≤ sizeLine ∧ k = ((y.length:Int) != 0)
  | .byt y => y.size ≤ sizeLine ∧ k = ((y.size:Int) != 0)
  | .ref p => (∃ xs,SqL K H p xs ∧ k = !xs.isEmpty) ∨ (∃ xs,SqT K H p xs ∧ k = !xs.isEmpty) ∨ ∃ kvs,H p = some (.dK kvs) ∧ k = !kvs.isEmpty
  | _ => False
theorem isEmpty_kv {κ:Type} {kvs:List (κ × V)} {vs:List (κ × Value)} (r:KV kvs vs):(!vs.isEmpty) = !kvs.isEmpty:=by
  cases r <;> rfl
theorem isEmpty_of {xs:List V} {its:List Value} (r:Vals xs its):(!its.toArray.isEmpty) = !xs.isEmpty:=by
  cases r <;> simp
theorem line63:(sizeLine:Nat) < 2 ^ 63:=by rw [sizeLine_eq]; decide
theorem tru_ok:TruR X (fun x H Q => ∃ k,TruV X.K x H k ∧ Q k H):=by
  intro pins s σ H x v Q I rx h
  obtain ⟨k,e,q⟩:=h
  have hl:=line63
  have hs:sizeLine = 16777216:=sizeLine_eq
  cases x with
  | non =>
    cases rx
    have e':k = false:=e
    subst e'
    exact truthy_none ⟨H,I,q⟩
  | bl b =>
    cases rx
    have e':k = b:=e
    subst e'
    exact wpAny_truthy_bool ⟨H,I,q⟩
  | int i =>
    obtain ⟨t,rfl⟩:=rx
    have e':k = (i != 0):=e
    subst e'
    exact PySem.P.truthy_int ⟨H,I,q⟩
  | str y =>
    obtain ⟨t,rfl⟩:=rx
    obtain ⟨hy,e'⟩:y.length ≤ sizeLine ∧ k = ((y.length:Int) != 0):=e
    subst e'
    exact PySem.P.truthy_str (by omega) ⟨H,I.tok _,q⟩
  | byt y =>
    obtain ⟨t,rfl⟩:=rx
    obtain ⟨hy,e'⟩:y.size ≤ sizeLine ∧ k = ((y.size:Int) != 0):=e
    subst e'
    exact PySem.W.truthy_bytes (by omega) ⟨H,I.tok _,q⟩
  | ref p =>
    cases rx
    have e':(∃ xs,SqL X.K H p xs ∧ k = !xs.isEmpty) ∨ (∃ xs,SqT X.K H p xs ∧ k = !xs.isEmpty) ∨ ∃ kvs,H p = some (.dK kvs) ∧ k = !kvs.isEmpty:=e
    rcases e' with ⟨xs,hx,e'⟩ | ⟨xs,hx,e'⟩ | ⟨kvs,hx,e'⟩
    · subst e'
      obtain ⟨its,r,pl,hz⟩:=I.list hx
      have hlen:=r.length
      exact wpAny_truthy_list pl.isList (by simp only [List.size_toArray]; omega) ⟨H,I.tok _,by rw [isEmpty_of r]; exact q⟩
    · subst e'
      obtain ⟨its,r,pl,hz⟩:=I.tuple hx
      have hlen:=r.length
      exact truthy_tuple pl (by simp only [List.size_toArray]; omega) ⟨H,I.tok _,by rw [isEmpty_of r]; exact q⟩
    · subst e'
      obtain ⟨hz,hS,vs,r,m⟩:kvs.length ≤ sizeLine ∧ (p == sysModules) = false ∧ ∃ vs,KV kvs vs ∧ s.heap.DictOf (mixKind X.prog X.w) p vs:=I.hok p _ hx
      have hlen:kvs.length = vs.length:=Paired.length r
      exact wpAny_truthy_dict hS m (by omega) ⟨H,I.tok _,by rw [isEmpty_kv r]; exact q⟩
  | _ => exact (show False from e).elim
theorem pt_truth (ha:PE X a ta) (he:∀ whole,isTrue a X.env whole = (do let v ← whole; standAt a.pos; holding [v] (truthy v))) :
    PT X a (fun σ H Q => ta σ H fun x H' => ∃ k,TruV X.K x H' k ∧ Q k H'):=by
  intro pins s σ H Q I h
  exact isTrue_plain (thn (ha pins s σ H _ I h) fun v s1 ⟨x,H1,I1,r1,q1⟩ => tru_ok pins s1 σ H1 x v Q I1 r1 q1) (he _)
theorem op_add_str:OpR X (binaryOp .Add) (fun x y H Q => ∃ i j,x = .str i ∧ y = .str j ∧ i.length + j.length ≤ sizeLine ∧ Q (.str (i ++ j)) H):=by
  intro pins s σ H x y v u Q I rx ry h
  obtain ⟨i,j,rfl,rfl,hz,q⟩:=h
  obtain ⟨t,rfl⟩:=rx
  obtain ⟨t',rfl⟩:=ry
  exact add_str (fun t' tk => ⟨.str (i ++ j),H,I.tok _,⟨_,rfl⟩,q⟩) hz
theorem vals1 {x:V} {us:List Value} (r:Vals [x] us):∃ u,us = [u] ∧ RelV x u:=by
  cases r with
  | cons r1 r2 => cases r2; exact ⟨_,rfl,r1⟩
theorem vals2 {x y:V} {us:List Value} (r:Vals [x,y] us):∃ u w',us = [u,w'] ∧ RelV x u ∧ RelV y w':=by
  cases r with
  | cons r1 r2 =>
    cases r2 with
    | cons r3 r4 => cases r4; exact ⟨_,_,rfl,r1,r3⟩
theorem call_max2 (hc:X.calm = true):CallR X (.builtin "max") (fun xs H Q => ∃ i j,xs = [.int i,.int j] ∧ Q (.int (if j > i then j else i)) H):=by
  intro pins s σ H xs us Q I r h
  obtain ⟨i,j,rfl,q⟩:=h
  obtain ⟨u,w',rfl,⟨t,rfl⟩,⟨t',rfl⟩⟩:=vals2 r
  refine max_two_ints (I.ok.hd hc) fun h' tk k => ⟨_,H,I.kept k,?_,q⟩
  by_cases hj:j > i
  · rw [if_pos hj,if_pos hj]; exact ⟨_,rfl⟩
  · rw [if_neg hj,if_neg hj]; exact ⟨_,rfl⟩
theorem call_min2 (hc:X.calm = true):CallR X (.builtin "min") (fun xs H Q => ∃ i j,xs = [.int i,.int j] ∧ Q (.int (if j < i then j else i)) H):=by
  intro pins s σ H xs us Q I r h
  obtain ⟨i,j,rfl,q⟩:=h
  obtain ⟨u,w',rfl,⟨t,rfl⟩,⟨t',rfl⟩⟩:=vals2 r
  refine min_two_ints (I.ok.hd hc) fun h' tk k => ⟨_,H,I.kept k,?_,q⟩
  by_cases hj:j < i
  · rw [if_pos hj,if_pos hj]; exact ⟨_,rfl⟩
  · rw [if_neg hj,if_neg hj]; exact ⟨_,rfl⟩
theorem call_int1:CallR X (.type "int") (fun xs H Q => (∃ i,xs = [.int i] ∧ Q (.int i) H) ∨ ∃ k,xs = [.bl k] ∧ Q (.int (if k then 1 else 0)) H):=by
  intro pins s σ H xs us Q I r h
  rcases h with ⟨i,rfl,q⟩ | ⟨k,rfl,q⟩
  · obtain ⟨u,rfl,t,rfl⟩:=vals1 r
    exact call_int_int ⟨.int i,H,I,⟨_,rfl⟩,q⟩
  · obtain ⟨u,rfl,r1⟩:=vals1 r
    cases r1
    exact call_int_bool ⟨.int (if k then 1 else 0),H,I.tok _,⟨_,rfl⟩,q⟩
noncomputable def LenV (K:PySem.W.Frag) (x:V) (H:Hp) (n:Nat):Prop :=
  match x with
  | .str y => y.length ≤ sizeLine ∧ n = y.length
  | .byt y => y.size ≤ sizeLine ∧ n = y.size
  | .ref p => (∃ xs,SqL K H p xs ∧ n = xs.length) ∨ ∃ xs,SqT K H p xs ∧ n = xs.length
  | _ => False
theorem call_len:CallR X (.builtin "len") (fun xs H Q => ∃ x n,xs = [x] ∧ LenV X.K x H n ∧ Q (.int n) H):=by
  intro pins s σ H xs us Q I r h
  obtain ⟨x,n,rfl,e,q⟩:=h
  obtain ⟨u,rfl,rx⟩:=vals1 r
  have hl:=line63
  have hs:sizeLine = 16777216:=sizeLine_eq
  cases x with
  | str y =>
    obtain ⟨t,rfl⟩:=rx
    obtain ⟨hy,e'⟩:y.length ≤ sizeLine ∧ n = y.length:=e
    subst e'
    exact len_str (by omega) ⟨.int _,H,I.tok _,⟨_,rfl⟩,q⟩
  | byt y =>
    obtain ⟨t,rfl⟩:=rx
    obtain ⟨hy,e'⟩:y.size ≤ sizeLine ∧ n = y.size:=e
    subst e'
    exact PySem.W.len_bytes (by omega) ⟨.int _,H,I.tok _,⟨_,rfl⟩,q⟩
  | ref p =>
    cases rx
    have e':(∃ xs,SqL X.K H p xs ∧ n = xs.length) ∨ ∃ xs,SqT X.K H p xs ∧ n = xs.length:=e
    rcases e' with ⟨xs,hx,e'⟩ | ⟨xs,hx,e'⟩
    · subst e'
      obtain ⟨its,r',pl,hz⟩:=I.list hx
      have hlen:=r'.length
      exact Calls.call_len_list pl.isList (by simp only [List.size_toArray]; omega) ⟨.int xs.length,H,I.tok _,⟨_,by simp only [List.size_toArray]; rw [hlen]⟩,q⟩
    · subst e'
      obtain ⟨its,r',pl,hz⟩:=I.tuple hx
      have hlen:=r'.length
      exact len_tuple pl (by simp only [List.size_toArray]; omega) ⟨.int xs.length,H,I.tok _,⟨_,by simp only [List.size_toArray]; rw [hlen]⟩,q⟩
  | _ => exact (show False from e).elim
end
end L2
namespace L2
open PySem PySem.Spec PyProof.Rows
structure ObjM (h:Heap) (x dx C:Addr) (mA:Str → Option Value):Prop where
  obj:h.get? x = some (PySem.W.instObj C dx)
  ns:h.Ns1 dx mA
  ne:dx ≠ x
theorem lookIn_ns {h:Heap} {dx:Addr} {mA:Str → Option Value} (n:h.Ns1 dx mA):∃ od,h.get? dx = some od ∧ ∀ name,PySem.W.lookIn name od = some (mA name):=by
  obtain ⟨o,es,ep,ho,hd,hk,_,hm⟩:=n
  refine ⟨o,ho,fun name => ?_⟩
  have e:=hm name
  unfold nsFind findBy at e
  rw [← Array.find?_toList] at e
  unfold PySem.W.lookIn
  rw [hd]
  dsimp only
  split
  · rename_i y q
    rw [q] at e
    exact congrArg some e
  · rename_i q
    rw [q] at e
    have a:es.toList.any (·.refKey) = false:=by
      rw [List.any_eq_false]
      intro y hy
      obtain ⟨z,t,hkey⟩:=hk y (Array.mem_toList_iff.mp hy)
      simp [DictEntry.refKey,hkey]
    have a':¬ es.toList.any (·.refKey) = true:=by rw [a]; exact Bool.false_ne_true
    rw [if_neg a']
    exact congrArg some e
theorem ObjM.look {h:Heap} {x dx C:Addr} {mA:Str → Option Value} (I:ObjM h x dx C mA):∃ od,PySem.W.InstAt h x (PySem.W.instObj C dx) C (some od) ∧ ∀ name,PySem.W.lookIn name od = some (mA name) :=
  let ⟨od,ho,hl⟩:=lookIn_ns I.ns
  ⟨od,⟨I.obj,rfl,rfl,ho⟩,hl⟩
section
variable {prog:Program} {w:World} {A:Around} {E:Value → Shared → Prop} {s:Shared} {K:PySem.W.Frag} {x dx C f:Addr} {mA:Str → Option Value} {name:Str} {v:Value}
end
theorem RelO.some_of {v:V} {o:Option Value} (r:RelO (some v) o):∃ u,o = some u ∧ RelV v u:=by
  cases o with
  | none => exact (show False from r).elim
  | some u => exact ⟨u,rfl,r⟩
section
variable {P:Program} {w:World} {H H':Hp} {h h':Heap} {a C dx:Addr} {fs fs':List (Str × V)}
theorem ins_get (hok:HOk P w H h) (e:H a = some (.ins C dx fs)):∃ mA,ObjM h a dx C mA ∧ (∀ f,RelO (fs.lookup f) (mA f)) ∧ PySem.Within mA (fs.map (·.1)) ∧ fs.length ≤ 1000 ∧ H dx = some (.own a):=by
  obtain ⟨d,z,ne,ob,mA,n,r,q⟩:=(show ObjOk P w H h a (.ins C dx fs) from hok a _ e)
  exact ⟨mA,⟨ob,n,ne⟩,r,q,z,d⟩
end
structure Cls (K:PySem.W.Frag) (C:Addr):Prop where
  pg:PySem.W.plainGet K C Str.empty = true
  hd:PySem.W.hasDictIn K C = true
  po:PySem.W.plainOver K C = true
  sa:PySem.W.findIn K (.ref C) "__setattr__" = some (some (.builtin "object.__setattr__"))
theorem Cls.get {K:PySem.W.Frag} {C:Addr} (c:Cls K C) (f:Str):PySem.W.plainGet K C f = true:=c.pg
section
variable {X:Cx} {pins:List (Addr × Obj)} {σ:St} {H:Hp} {s:Shared} {a C dx:Addr} {fs:List (Str × V)} {f:Str} {v:V} {A:Around} {E:Value → Shared → Prop}
end
section
variable {X:Cx} {o e value:Expr} {f:Str} {pos pos' tpos:Pos} {ta tv:TE}
end
section
variable {X:Cx} {pins:List (Addr × Obj)} {σ:St} {H:Hp} {s:Shared} {A:Around} {E:Value → Shared → Prop} {Q:Value → Shared → Prop} {c:Value} {b:Bool}
inductive TyOf (K:PySem.W.Frag) (H:Hp):V → Value → Prop where
  | non:TyOf K H .non (.type "NoneType")
  | bl (x:Bool):TyOf K H (.bl x) (.type "bool")
  | int (i:Int):TyOf K H (.int i) (.type "int")
  | str (x:Str):TyOf K H (.str x) (.type "str")
  | flt (x:UInt64):TyOf K H (.flt x) (.type "float")
  | lst {a:Addr} {xs:List V} (e:H a = some (.lst xs)):TyOf K H (.ref a) (.type "list")
  | frz {a:Addr} {o:Obj} {xs:List V} (e:H a = some (.frz o (.lst xs))):TyOf K H (.ref a) (.type "list")
  | tup {a:Addr} {xs:List V} (e:H a = some (.tup xs)):TyOf K H (.ref a) (.type "tuple")
  | dK {a:Addr} {kvs:List (Key × V)} (e:H a = some (.dK kvs)):TyOf K H (.ref a) (.type "dict")
  | dT {a:Addr} {kvs:List (List Key × V)} (e:H a = some (.dT kvs)):TyOf K H (.ref a) (.type "dict")
  | ins {a C dx:Addr} {fs:List (Str × V)} (e:H a = some (.ins C dx fs)) (cl:Cls K C) (ha:PySem.W.findIn K (.ref C) "__class__" = some (some (.builtin "object.__class__")))
      (hn:PySem.W.specialIn K (.builtin "object.__class__") "__get__" = some (some (.builtin "getset_descriptor.__get__"))) (htk:PySem.W.takesIn K (.builtin "object.__class__") = some true)
      (hm:PySem.W.mroIn K C (.type "object") = some true):TyOf K H (.ref a) (.ref C)
theorem isinst_ok {x:V} {u t:Value} (I:Inv X pins σ H s) (rx:RelV x u) (ty:TyOf X.K H x t) (e:PySem.W.kitOne X.K t c = some b) (h:∀ tk,Q (.bool b) { s with toks:=tk }) :
    wpAny (model X.prog X.w) A (call (.builtin "isinstance") [u,c]) Q E s:=by
  cases ty with
  | non => cases (show u = Value.none from rx); exact PySem.W.kia_one PySem.W.kitx_none I.kIn True.intro e (fun z => nomatch z) h
  | bl y => cases (show u = Value.bool y from rx); exact PySem.W.kia_one PySem.W.kitx_bool I.kIn True.intro e (fun z => nomatch z) h
  | int i => obtain ⟨t,q⟩:=(show ∃ t,u = Value.int i t from rx); cases q; exact PySem.W.kia_one PySem.W.kitx_int I.kIn True.intro e (fun z => nomatch z) h
  | str y => obtain ⟨t,q⟩:=(show ∃ t,u = Value.str y t from rx); cases q; exact PySem.W.kia_one PySem.W.kitx_str I.kIn True.intro e (fun z => nomatch z) h
  | flt y => obtain ⟨t,q⟩:=(show ∃ t,u = Value.float y t from rx); cases q; exact PySem.W.kia_one PySem.W.kitx_float I.kIn True.intro e (fun z => nomatch z) h
  | @lst a xs ea =>
    cases (show u = Value.ref a from rx)
    obtain ⟨_,_,n,_,h1⟩:=(show ObjOk X.prog X.w H s.heap a (.lst xs) from I.hok a _ ea)
    exact PySem.W.kia_one PySem.W.kitx_list I.kIn ⟨_,h1,rfl⟩ e (fun z => nomatch z) h
  | @frz a ob xs ea =>
    cases (show u = Value.ref a from rx)
    obtain ⟨_,_,_,n,_,h1⟩:=(show ObjOk X.prog X.w H s.heap a (.frz ob (.lst xs)) from I.hok a _ ea)
    exact PySem.W.kia_one PySem.W.kitx_list I.kIn ⟨_,h1,rfl⟩ e (fun z => nomatch z) h
  | @tup a xs ea =>
    cases (show u = Value.ref a from rx)
    obtain ⟨_,_,_,p⟩:=(show ObjOk X.prog X.w H s.heap a (.tup xs) from I.hok a _ ea)
    obtain ⟨o,h1,h2,_⟩:=p
    exact PySem.W.kia_one PySem.W.kitx_tuple I.kIn ⟨o,h1,h2⟩ e (fun z => nomatch z) h
  | @dK a kvs ea =>
    cases (show u = Value.ref a from rx)
    obtain ⟨_,_,vs,_,p⟩:=(show ObjOk X.prog X.w H s.heap a (.dK kvs) from I.hok a _ ea)
    obtain ⟨o,es,ep,h1,h2,_⟩:=p
    exact PySem.W.kia_one PySem.W.kitx_dict I.kIn ⟨o,h1,h2.1⟩ e (fun z => nomatch z) h
  | @dT a kvs ea =>
    cases (show u = Value.ref a from rx)
    obtain ⟨_,_,xs,_,o,es,ep,h1,h2,_⟩:=(show ObjOk X.prog X.w H s.heap a (.dT kvs) from I.hok a _ ea)
    exact PySem.W.kia_one PySem.W.kitx_dict I.kIn ⟨o,h1,h2.1⟩ e (fun z => nomatch z) h
  | @ins a C dx fs ea cl ha hn htk hm =>
    cases (show u = Value.ref a from rx)
    obtain ⟨mA,O,_⟩:=ins_get I.hok ea
    obtain ⟨od,J,_⟩:=O.look
    exact PySem.W.kia_one (PySem.W.kitx_own (cl.get _) cl.hd ha hn htk hm) I.kIn J e (fun z => nomatch z) h
end
end L2
namespace L2
open PySem PySem.Spec PyProof.Rows
structure Room (k:Nat) (A:Around):Prop where
  hd:A.handled = none
  dp:A.depth + 3 * k + 5 < recursionLimit
  un:A.units + 16 * k + 200 < cLine
theorem Room.mono {j k:Nat} {A:Around} (r:Room k A) (h:j ≤ k):Room j A:=⟨r.hd,by have:=r.dp; omega,by have:=r.un; omega⟩
theorem Room.deeper {k:Nat} {A:Around} (r:Room (k + 1) A) (env:Env):Room k (A.deeper env) :=
  ⟨r.hd,by have:=r.dp; show A.depth + 1 + 3 * k + 5 < _; omega,by have:=r.un; show A.units + 3 + 16 * k + 200 < _; omega⟩
theorem Room.depth {k:Nat} {A:Around} (r:Room k A):A.depth < recursionLimit:=by have:=r.dp; omega
noncomputable def tNil:TA:=fun _ H Q => Q [] H
noncomputable def tCons (ta:TE) (tr:TA):TA:=fun σ H Q => ta σ H fun x H1 => tr σ H1 fun xs H2 => Q (x :: xs) H2
section
variable {X:Cx} {e:Expr} {es:List Expr} {te:TE} {t:TA} {pos:Pos}
theorem pa_nil:PA X [] tNil:=fun _ _ _ _ H Q I h => Calls.spliced_nil ⟨[],H,I,.nil,h⟩
theorem pa_cons (ha:PE X e te) (hr:PA X es t) (hs:starEach (e :: es) X.env = (false,eval e X.env) :: starEach es X.env:=by rfl):PA X (e :: es) (tCons te t):=by
  intro pos pins s σ H Q I h
  rw [hs]
  show wpAny _ _ (spliced ((false,eval e X.env) :: backTo pos (starEach es X.env))) _ _ s
  refine Calls.spliced_cons (thn (ha pins s σ H _ I h) fun u s1 ⟨x,H1,I1,r1,q1⟩ => ?_)
  exact thn (hr pos pins s1 σ H1 _ I1 q1) fun us s2 ⟨xs,H2,I2,r2,q2⟩ => ⟨x :: xs,H2,I2,.cons r1 r2,q2⟩
noncomputable def tTup (t:TA):TE:=fun σ H Q => t σ H fun xs H1 => xs.length ≤ sizeLine ∧ ∀ p,H1 p = none → Q (.ref p) (upd H1 p (.tup xs))
noncomputable def tLst (t:TA):TE:=fun σ H Q => t σ H fun xs H1 => xs.length ≤ sizeLine ∧ ∀ p,H1 p = none → Q (.ref p) (upd H1 p (.lst xs))
theorem pe_tup {x1} (h:PA X es t):PE X (.Tuple es x1 pos) (tTup t):=by
  intro pins s σ H Q I hq
  refine wpAny_Tuple_spliced (thn (h pos pins s σ H _ I hq) fun us s1 ⟨xs,H1,I1,r,z,q⟩ => ⟨by rw [← r.length]; exact z,?_⟩)
  have hf:H1 s1.heap.objs.size = none:=I1.hok.fresh (Nat.le_refl _)
  refine ⟨.ref s1.heap.objs.size,upd H1 s1.heap.objs.size (.tup xs),I1.laid (t':=s1.toks) (fun b u e => Heap.get?_push_of_some _ e) (Nat.le_refl _) ?_,rfl,q _ hf⟩
  exact ⟨z,us,r,⟨_,Heap.get?_push_size _ rfl,rfl,_,rfl⟩⟩
theorem pe_lst (h:PA X es t):PE X (.List es pos) (tLst t):=by
  intro pins s σ H Q I hq
  refine wpAny_List_spliced (thn (h pos pins s σ H _ I hq) fun us s1 ⟨xs,H1,I1,r,z,q⟩ => ⟨by rw [← r.length]; exact z,?_⟩)
  have hf:H1 s1.heap.objs.size = none:=I1.hok.fresh (Nat.le_refl _)
  refine ⟨.ref s1.heap.objs.size,upd H1 s1.heap.objs.size (.lst xs),I1.laid (t':=s1.toks) (fun b u e => Heap.get?_push_of_some _ e) (Nat.le_refl _) ?_,rfl,q _ hf⟩
  exact ⟨z,us,0,r,Heap.get?_push_size _ rfl⟩
end
noncomputable abbrev Sp:=List V → Hp → VK → XK → Prop
noncomputable abbrev CXT:=List Env → Hp → Shared → XK → Value → Shared → Prop
structure Env0 (P:Program) (w:World) (K:PySem.W.Frag) (mg:Str → Option Value) (base:Heap) (A:Around) (outer:List Env) (s:Shared) (H:Hp):Prop where
  frames:A.frames = some outer
  mod:Mod K mg base
  bs:∀ b o,base.get? b = some o → s.heap.get? b = some o ∧ H b = none
  bsz:base.objs.size ≤ s.heap.objs.size
  funs:s.heap.FunFrames base outer
  frf:∀ b ∈ frs outer,H b = none
  hok:HOk P w H s.heap
  bare:AllBare s.gens
noncomputable def CE (outer:List Env) (P:Program) (w:World) (H:Hp) (s:Shared) (Q:VK) (u:Value) (s':Shared):Prop :=
  ∃ v H',s'.os = s.os ∧ AllBare s'.gens ∧ Un (frs outer) [] H H' s.heap s'.heap ∧ HOk P w H' s'.heap ∧ RelV v u ∧ Q v H'
noncomputable def CR (CX:CXT) (outer:List Env) (P:Program) (w:World) (H:Hp) (s:Shared) (Q:VK) (E:XK) (r:Result) (s':Shared):Prop :=
  match r with
  | .ok (.ret u) => CE outer P w H s Q u s'
  | .ok _ => False
  | .error e => CX outer H s E e s'
structure FnOk (P:Program) (w:World) (K:PySem.W.Frag) (mg:Str → Option Value) (base:Heap) (CX:CXT) (k:Nat) (f:Addr) (fd:FuncData) (ps:List Str) (sp:Sp):Prop where
  len:∀ vs H Q E,sp vs H Q E → vs.length = ps.length
  run:∀ (A:Around) (outer:List Env) (s:Shared) (H:Hp) (args:Args) (us:List Value) (vs:List V) (Q:VK) (E:XK),Room k A → Env0 P w K mg base A outer s H → BindsTo s fd args (ps.zip us) → Vals vs us → sp vs H Q E →
    codeAny (model P w) A (.call (.ref f) args) (CR CX outer P w H s Q E) s
section
variable {X:Cx} {pins:List (Addr × Obj)} {σ:St} {H:Hp} {s s':Shared}
theorem Inv.env0 (I:Inv X pins σ H s):Env0 X.prog X.w X.K X.mg X.base X.A X.stack s H :=
  ⟨I.ok.frames,I.ok.mod,I.bs,Nat.le_trans I.ok.bsz I.sz,I.stack,I.stkFree,I.hok,I.bare⟩
theorem Inv.after {Q:VK} {u:Value} (I:Inv X pins σ H s) (h:CE X.stack X.prog X.w H s Q u s'):EP X pins σ Q u s':=by
  obtain ⟨v,H',os,bare,un,hok,r,q⟩:=h
  obtain ⟨hh,g,d,t,os'⟩:=s'
  obtain rfl:os' = s.os:=os
  exact ⟨v,H',I.call (h':=hh) (g':=g) (d':=d) (t':=t) (ch:=[]) un hok bare (fun b z => absurd z (by simp)),r,q⟩
end
noncomputable def tCall (sp:Sp) (dvs:List V) (E:XK) (t:TA):TE:=fun σ H Q => t σ H fun vs H1 => sp (vs ++ dvs) H1 Q E
noncomputable def Binds (K:PySem.W.Frag) (fd:FuncData) (ps:List Str) (ds:List Value):Prop :=
  ∀ (s:Shared) (us:List Value),K.In s.heap → (us ++ ds).length = ps.length → BindsTo s fd ⟨us,[]⟩ (ps.zip (us ++ ds))
theorem Binds.all {K:PySem.W.Frag} {fd:FuncData} {ps:List Str} (h:∀ us:List Value,us.length = ps.length → bindArgs fd ⟨us,[]⟩ = pure (ps.zip us)):Binds K fd ps []:=fun s us _ hl => by
  rw [List.append_nil] at hl ⊢
  exact .of_eq (h us hl)
noncomputable def Passes (CX:CXT) (X:Cx) (E:XK):Prop:=∀ (pins:List (Addr × Obj)) (σ:St) (H:Hp) (s:Shared) (e:Value) (s':Shared),Inv X pins σ H s → CX X.stack H s E e s' → X.xe e s'
section
variable {X:Cx} {CX:CXT} {k:Nat} {f C:Addr} {fd:FuncData} {ps:List Str} {sp:Sp} {dvs:List V} {ds:List Value} {E:XK} {x m:Str} {p pos apos:Pos} {e o:Expr} {es:List Expr} {ta:TE} {t:TA}
theorem run_fn {pins:List (Addr × Obj)} {σ:St} {H:Hp} {s:Shared} {Q:VK} {us:List Value} {vs:List V} (F:FnOk X.prog X.w X.K X.mg X.base CX k f fd ps sp) (hr:Room k X.A) (hb:Binds X.K fd ps ds) (hd:Vals dvs ds) (hx:Passes CX X E)
    (I:Inv X pins σ H s) (r:Vals vs us) (h:sp (vs ++ dvs) H Q E):wpAny (model X.prog X.w) X.A (call (.ref f) us) (EP X pins σ Q) X.xe s:=by
  have r2:Vals (vs ++ dvs) (us ++ ds):=r.append hd
  have hl:(us ++ ds).length = ps.length:=by rw [← r2.length]; exact F.len _ _ _ _ h
  refine wpAny_call (codeAny_mono (F.run X.A X.stack s H ⟨us,[]⟩ (us ++ ds) (vs ++ dvs) Q E hr I.env0 (hb s us I.kIn hl) r2 h) fun r s' hq => ?_)
  cases r with
  | error e => exact hx pins σ H s e s' I hq
  | ok fl =>
    cases fl with
    | ret u => exact I.after hq
    | next => exact False.elim hq
    | brk => exact False.elim hq
    | cont => exact False.elim hq
theorem pe_call (F:FnOk X.prog X.w X.K X.mg X.base CX k f fd ps sp) (hr:Room k X.A) (hg:Gl X x) (hm:X.mg x = some (.ref f)) (hk:PySem.W.keepIn X.K (.ref f) = true) (hb:Binds X.K fd ps ds) (hd:Vals dvs ds) (hx:Passes CX X E)
    (ha:PA X (e :: es) t) (hdb:(x == ("__debug__":Str)) = false:=by decide) (he:starEach (e :: es) X.env = (false,eval e X.env) :: starEach es X.env:=by rfl) (hpl:(backTo pos (starEach es X.env)).any (·.1) = false:=by rfl) :
    PE X (.Call (.Name x p) (e :: es) [] pos) (tCall sp dvs E t):=by
  intro pins s σ H Q I h
  refine wpAny_Call_Name_kw (ld_glob I hg hm ?_ hdb)
  refine PySem.W.callWith_K (h₀:=X.base) I.ok.mod.kin hk (thn (ha pos pins s σ H _ I h) fun us s1 ⟨vs,H1,I1,r,q⟩ => ⟨I1.kIn,?_⟩) he hpl
  exact run_fn F hr hb hd hx I1 r q
end
section
variable {X:Cx} {CX:CXT} {k:Nat} {f C:Addr} {fd:FuncData} {ps ks:List Str} {sp:Sp} {E:XK} {x m:Str} {p pos apos kpos:Pos} {e o:Expr} {es:List Expr} {kws:List Keyword} {te ta:TE} {t tk:TA} {nm:Option Str}
variable {g:List Value → List Value → List Value} {gV:List V → List V → List V}
end
structure FnScope (N P:List Str) (sc:Scope):Prop where
  kind:sc.kind = .function
  co:sc.isCoroutine = false
  gen:sc.isGenerator = false
  nd:N.Nodup
  pre:N.take P.length = P
  par:∀ x ∈ P,sc.names.lookup x = some .local ∨ sc.names.lookup x = some .cell
  nofree:∀ y ∈ sc.names,y.2 ≠ .free
theorem bindL_out {kindOf:Str → Option NameKind} {x:Str}:∀ {binds:List (Str × Value)} {m:Str → Option Value},(∀ v,(x,v) ∉ binds) → bindL kindOf binds m x = m x
  | [],_,_ => rfl
  | (n,v) :: r,m,h => by
    unfold bindL
    rw [bindL_out fun w hw => h w (List.mem_cons_of_mem _ hw)]
    split
    · have:x ≠ n:=by rintro rfl; exact h v List.mem_cons_self
      simp [this]
    · rfl
theorem bindC_out {kindOf:Str → Option NameKind} {x:Str}:∀ {binds:List (Str × Value)} {m:Str → Option Value},(∀ v,(x,v) ∉ binds) → bindC kindOf binds m x = m x
  | [],_,_ => rfl
  | (n,v) :: r,m,h => by
    unfold bindC
    rw [bindC_out fun w hw => h w (List.mem_cons_of_mem _ hw)]
    split
    · rfl
    · have:x ≠ n:=by rintro rfl; exact h v List.mem_cons_self
      simp [this]
theorem bindL_get {kindOf:Str → Option NameKind} {x:Str} {v:Value}:∀ {P:List Str} {vs:List Value} {i:Nat} {m:Str → Option Value},P.Nodup → P[i]? = some x → vs[i]? = some v → kindOf x = some .local →
    bindL kindOf (P.zip vs) m x = some v
  | [],_,_,_,_,h,_,_ => by simp at h
  | _ :: _,[],_,_,_,_,h,_ => by simp at h
  | p :: P,w :: vs,0,m,nd,h1,h2,hk => by
    simp at h1 h2; subst h1; subst h2
    show bindL kindOf ((p,w) :: P.zip vs) m p = _
    unfold bindL
    rw [bindL_out fun v hv => (List.nodup_cons.mp nd).1 (List.of_mem_zip hv).1,if_pos hk]
    simp
  | p :: P,w :: vs,i + 1,m,nd,h1,h2,hk => by
    show bindL kindOf ((p,w) :: P.zip vs) m x = _
    unfold bindL
    exact bindL_get (i:=i) (List.nodup_cons.mp nd).2 (by simpa using h1) (by simpa using h2) hk
theorem bindC_get {kindOf:Str → Option NameKind} {x:Str} {v:Value}:∀ {P:List Str} {vs:List Value} {i:Nat} {m:Str → Option Value},P.Nodup → P[i]? = some x → vs[i]? = some v → kindOf x ≠ some .local →
    bindC kindOf (P.zip vs) m x = some v
  | [],_,_,_,_,h,_,_ => by simp at h
  | _ :: _,[],_,_,_,_,h,_ => by simp at h
  | p :: P,w :: vs,0,m,nd,h1,h2,hk => by
    simp at h1 h2; subst h1; subst h2
    show bindC kindOf ((p,w) :: P.zip vs) m p = _
    unfold bindC
    rw [bindC_out fun v hv => (List.nodup_cons.mp nd).1 (List.of_mem_zip hv).1,if_neg hk]
    simp
  | p :: P,w :: vs,i + 1,m,nd,h1,h2,hk => by
    show bindC kindOf ((p,w) :: P.zip vs) m x = _
    unfold bindC
    exact bindC_get (i:=i) (List.nodup_cons.mp nd).2 (by simpa using h1) (by simpa using h2) hk
noncomputable def start (N:List Str) (vs:List V):St:=vs.map some ++ List.replicate (N.length - vs.length) none
noncomputable def cxOf (CX:CXT) (P:Program) (w:World) (K:PySem.W.Frag) (mg:Str → Option Value) (base:Heap) (N:List Str) (qual:Str) (scope:Scope) (f:Addr) (cd:Value) (A:Around) (outer:List Env) (s:Shared) (H:Hp) (E:XK):Cx where
  prog:=P
  w:=w
  K:=K
  mg:=mg
  base:=base
  A:=A.deeper (envOfC qual scope s.heap.objs.size f cd)
  N:=N
  s₀:=s
  H₀:=H
  env:=envOfC qual scope s.heap.objs.size f cd
  outer:=outer
  stack:=envOfC qual scope s.heap.objs.size f cd :: outer
  ex:=[]
  calm:=true
  fn:=fun _ => true
  pn:=[]
  xe:=fun e s' => wpAny (model P w) (A.deeper (envOfC qual scope s.heap.objs.size f cd)) (leaving (envOfC qual scope s.heap.objs.size f cd) e) (fun _ s'' => CX outer H s E e s'') (fun e' s'' => CX outer H s E e' s'') s'
theorem cell_has {sc:Scope} {n:Nat} {x:Str} (h:sc.names.lookup x = some .cell):∃ c,(cellsFrom n sc.names []).lookup x = some c:=by
  have q:=PySem.W.cellsFrom_some sc.names n [] (.inl h)
  exact Option.isSome_iff_exists.mp q
theorem inv_start {CX:CXT} {P:Program} {w:World} {K:PySem.W.Frag} {mg:Str → Option Value} {base:Heap} {N ps:List Str} {qual:Str} {scope:Scope} {f:Addr} {cd:Value} {A:Around} {outer:List Env} {s s1:Shared} {H:Hp} {E:XK} {us:List Value} {vs:List V}
    (S:FnScope N ps scope) (hd:A.handled = none) (e0:Env0 P w K mg base A outer s H) (hl:vs.length = ps.length) (r:Vals vs us)
    (x:InCallC s s.heap.objs.size (bindL (envOfC qual scope s.heap.objs.size f cd).kindOf (ps.zip us) fun _ => none) (cellsFrom (s.heap.objs.size + 1) scope.names []) (bindC (envOfC qual scope s.heap.objs.size f cd).kindOf (ps.zip us) fun _ => none) s1) :
    Inv (cxOf CX P w K mg base N qual scope f cd A outer s H E) [] (start N vs) H s1:=by
  have hpl:ps.length ≤ N.length:=by have:=congrArg List.length S.pre; rw [List.length_take] at this; omega
  obtain ⟨h1,tk,rfl,hk⟩:=x.done
  have noA:∀ b:Addr,b ∉ (cxOf CX P w K mg base N qual scope f cd A outer s H E).ex:=fun b z => absurd (show b ∈ ([]:List Addr) from z) (by simp)
  refine ⟨⟨e0.mod,S.kind,rfl,rfl,Nat.le_refl _,fun y z c h1 h2 => ?_,fun y hy => ?_,fun y c _ h => ?_,fun _ => hd,Around.frames_deeper e0.frames,.inr ⟨rfl,rfl⟩,fun b z => absurd z (noA b),e0.bs,e0.bsz,fun b _ _ => noA b,fun b z => absurd z (noA b),e0.funs,e0.frf⟩,
    rfl,e0.bare,Un.kept hk,⟨_,x.toInCall.ns,fun i y v h1 h2 h3 => ?_⟩,fun y c h => ⟨_,x.cell y c h⟩,e0.hok.fresh (Nat.le_refl _),fun y c h => ?_,fun p hp => absurd (show p ∈ ([]:List (Addr × Obj)) from hp) (by simp),e0.hok.kept hk,?_⟩
  · exact name_of_addr x.apart (PySem.mem_of_lookup h1) (PySem.mem_of_lookup h2)
  · have hy:scope.names.lookup y = some .cell ∨ scope.names.lookup y = some .free:=hy
    rcases hy with hy | hy
    · exact cell_has hy
    · exact absurd rfl (S.nofree _ (PySem.mem_of_lookup hy))
  · exact Nat.le_of_lt (x.above y c (PySem.mem_of_lookup h))
  · have hi:i < vs.length:=by
      unfold start at h2
      by_cases hi:i < vs.length
      · exact hi
      · rw [List.getElem?_append_right (by simpa using hi)] at h2
        rw [List.getElem?_replicate] at h2
        split at h2 <;> cases h2
    have ha:vs[i]? = some v:=by
      unfold start at h2
      rw [List.getElem?_append_left (by simpa using hi),List.getElem?_map] at h2
      cases e:vs[i]? with
      | none => rw [e] at h2; cases h2
      | some a => rw [e] at h2; cases h2; rfl
    obtain ⟨u,hu,rv⟩:=r.get ha
    have hp:ps[i]? = some y:=by
      rw [← S.pre,List.getElem?_take_of_lt (by omega)]; exact h1
    have ndP:ps.Nodup:=by rw [← S.pre]; exact S.nd.sublist (List.take_sublist _ _)
    refine ⟨u,rv,?_⟩
    rcases S.par y (List.mem_of_getElem? hp) with k | k
    · exact .inl ⟨k,bindL_get ndP hp hu k⟩
    · obtain ⟨c,e⟩:=cell_has (n:=s.heap.objs.size + 1) k
      refine .inr ⟨.inl k,c,e,?_⟩
      have q:=x.cell y c e
      rw [bindC_get ndP hp hu (by show scope.names.lookup y ≠ _; rw [k]; decide)] at q
      exact q
  · exact e0.hok.fresh (Nat.le_of_lt (x.above y c (PySem.mem_of_lookup h)))
  · unfold start
    show _ = N.length
    rw [List.length_append,List.length_map,List.length_replicate]
    omega
theorem fn_of {CX:CXT} {P:Program} {w:World} {K:PySem.W.Frag} {mg:Str → Option Value} {base:Heap} {k:Nat} {f:Addr} {name qual:Str} {params:Arguments} {body:List Stmt} {scope:Scope} {dV kV doc pm cdv ct oc:Value} {an od:Option Addr}
    {osl:Array (Option Value)} {N ps:List Str} {sp:Sp} (lk:K.lookup f = some ⟨oc,od,.func (PySem.W.fnOf name qual params body scope dV kV doc pm an cdv ct),osl⟩) (hcd:PySem.W.codeIn K cdv qual = true) (S:FnScope N ps scope)
    (len:∀ vs H Q E,sp vs H Q E → vs.length = ps.length)
    (hbody:∀ (A:Around) (outer:List Env) (s:Shared) (H:Hp) (vs:List V) (Q:VK) (E:XK),Room k (A.deeper (envOfC qual scope s.heap.objs.size f cdv)) → sp vs H Q E →
      ∃ t,PSs (cxOf CX P w K mg base N qual scope f cdv A outer s H E) body t ∧ t { nx:=fun _ H' => Q .non H',rt:=Q } (start N vs) H) :
    FnOk P w K mg base CX (k + 1) f (PySem.W.fnOf name qual params body scope dV kV doc pm an cdv ct) ps sp:=by
  refine ⟨len,fun A outer s H args us vs Q E hr e0 hb r hsp => ?_⟩
  have hl:=len _ _ _ _ hsp
  have KX:K.In s.heap:=e0.mod.kin.keeps fun b o e => (e0.bs b o e).1
  have lim:s.heap.NoLimit:=e0.mod.nolimit.keeps fun b o e => (e0.bs b o e).1
  have hkind:∀ y ∈ ps.zip us,scope.names.lookup y.1 = some .local ∨ (scope.names.lookup y.1 = some .cell ∧ ((cellsFrom (s.heap.objs.size + 1) scope.names []).lookup y.1).isSome = true):=fun ⟨n,v⟩ hy => by
    rcases S.par n (List.of_mem_zip hy).1 with q | q
    · exact .inl q
    · exact .inr ⟨q,PySem.W.cellsFrom_some _ _ _ (.inl q)⟩
  refine codeAny_call_function hr.depth (KX _ _ lk) rfl S.co S.gen rfl (PySem.W.codeRec_of KX hcd) (hb _ _ _ _ ?_)
  refine wpAny_newFunctionEnv_cells S.kind hkind fun env he s1 x => ?_
  subst he
  refine ⟨lim.keeps x.toInCall.keep,codeAny_func ?_⟩
  obtain ⟨t,ht,hq⟩:=hbody A outer s H vs Q E (hr.deeper _) hsp
  have I:Inv (cxOf CX P w K mg base N qual scope f cdv A outer s H E) [] (start N vs) H s1:=inv_start S hr.hd e0 hl r x
  refine wpAny_mono (ht [] s1 (start N vs) H _ I hq) (fun fl s' hs => ?_) fun e s' hs => hs
  have fin:∀ {σ':St} {H':Hp} {v:V} {u:Value},Inv (cxOf CX P w K mg base N qual scope f cdv A outer s H E) [] σ' H' s' → RelV v u → Q v H' → CE outer P w H s Q u s' :=
    fun {σ' H' v u} J rv q => ⟨v,H',J.os,J.bare,J.base,J.hok,rv,q⟩
  cases fl with
  | ret u =>
    obtain ⟨v,σ',H',J,rv,q⟩:=hs
    exact fin J rv q
  | next =>
    obtain ⟨σ',H',J,q⟩:=hs
    exact fin (v:=V.non) (u:=Value.none) J rfl q
  | brk =>
    obtain ⟨_,_,_,q⟩:=hs
    exact False.elim q
  | cont =>
    obtain ⟨_,_,_,q⟩:=hs
    exact False.elim q
end L2
namespace L2
open PySem PySem.Spec PyProof.Rows
section
variable {X:Cx} {x:Str} {p pos:Pos} {e:Expr} {es:List Expr} {t:TA} {id T:String} {r:List V → Hp → VK → Prop}
noncomputable def tCB (r:List V → Hp → VK → Prop) (t:TA):TE:=fun σ H Q => t σ H fun vs H1 => r vs H1 Q
theorem pe_callB (hc:CallR X (.builtin id) r) (hg:Gl X x) (hm:X.mg x = none) (hv:bootBuiltins x = some (.builtin id)) (ha:PA X (e :: es) t) (hn:x ≠ "__name__":=by decide) (hdb:(x == ("__debug__":Str)) = false:=by decide)
    (he:starEach (e :: es) X.env = (false,eval e X.env) :: starEach es X.env:=by rfl) (hpl:(backTo pos (starEach es X.env)).any (·.1) = false:=by rfl):PE X (.Call (.Name x p) (e :: es) [] pos) (tCB r t):=by
  intro pins s σ H Q I h
  refine wpAny_Call_Name_kw (ld_blt I hg hm hv ?_ hn hdb)
  exact PyProof.Rows.callWith_builtin1 (thn (ha pos pins s σ H _ I h) fun us s1 ⟨vs,H1,I1,r1,q1⟩ => hc pins s1 σ H1 vs us Q I1 r1 q1) he hpl
theorem pe_callTy (hc:CallR X (.type T) r) (hg:Gl X x) (hm:X.mg x = none) (hv:bootBuiltins x = some (.type T)) (ha:PA X (e :: es) t) (hn:x ≠ "__name__":=by decide) (hdb:(x == ("__debug__":Str)) = false:=by decide)
    (he:starEach (e :: es) X.env = (false,eval e X.env) :: starEach es X.env:=by rfl) (hpl:(backTo pos (starEach es X.env)).any (·.1) = false:=by rfl):PE X (.Call (.Name x p) (e :: es) [] pos) (tCB r t):=by
  intro pins s σ H Q I h
  refine wpAny_Call_Name_kw (ld_blt I hg hm hv ?_ hn hdb)
  exact PyProof.Rows.callWith_type1 (thn (ha pos pins s σ H _ I h) fun us s1 ⟨vs,H1,I1,r1,q1⟩ => hc pins s1 σ H1 vs us Q I1 r1 q1) he hpl
end
end L2
namespace HT
open PySem PyProof.Rows
section
open PySem.SeqAt
open PySem.AutoSeq1 (wpAny_loadPart')
open PySem.MeetsSeq PySem.MeetsSeq2 PySem.MeetsSeq3
end
section
variable {prog:Program} {w:World} {A:Around} {E:Value → Shared → Prop} {s:Shared}
theorem cat_tup {t b:Addr} {vs ws:List Value} {Q:Value → Shared → Prop} (ht:IsTup s.heap t vs.toArray) (hb:IsTup s.heap b ws.toArray) (hv:vs ≠ [])
    (h1:ws = [] → Q (.ref t) s) (h2:ws ≠ [] → Q (.ref s.heap.objs.size) { s with heap:=s.heap.push { cls:=.type "tuple",data:=.seq (vs ++ ws).toArray } })
    (hsz:vs.length + ws.length ≤ sizeLine):wpAny (model prog w) A (binaryOp .Add (.ref t) (.ref b)) Q E s:=by
  obtain ⟨⟨cls,dd,data,sl⟩,ho,hc,n,hd⟩:=id ht
  obtain ⟨⟨cls2,dd2,data2,sl2⟩,ho2,hc2,n2,hd2⟩:=id hb
  simp only at hc hd hc2 hd2
  subst hc hd hc2 hd2
  have e:vs.toArray ++ ws.toArray = (vs ++ ws).toArray:=by simp
  by_cases hw:ws = []
  · exact concat_meets ⟨_,ho,rfl⟩ ⟨_,ho2,rfl⟩ noFill_tuple_add seq_tuple_add PySem.F.slot_tuple_add PySem.F.entry_tuple_add (PySem.F.args_tuple_add_2 _ _)
      (tuple_addW1 t b vs.toArray ws.toArray n n2 dd dd2 sl sl2 (by simpa using hv) (by simp [hw])) ⟨ho,ho2,h1 hw⟩
  · refine concat_meets ⟨_,ho,rfl⟩ ⟨_,ho2,rfl⟩ noFill_tuple_add seq_tuple_add PySem.F.slot_tuple_add PySem.F.entry_tuple_add (PySem.F.args_tuple_add_2 _ _)
      (tuple_addW2 t b vs.toArray ws.toArray n n2 dd dd2 sl sl2 (by simpa using hv) (by simpa using hw) (by rw [List.size_toArray,List.size_toArray]; exact hsz)) ⟨ho,ho2,?_⟩
    rw [e]
    exact h2 hw
noncomputable def sIx (n d:Nat):Option Int → Nat
  | none => d
  | some v => if v < 0 then (v + (n:Int)).toNat else min v.toNat n
theorem sIx_nat (n d k:Nat):sIx n d (some (k:Int)) = min k n:=by
  show (if (k:Int) < 0 then ((k:Int) + (n:Int)).toNat else min (k:Int).toNat n) = min k n
  rw [if_neg (by omega),Int.toNat_natCast]
theorem sIx_le (n d:Nat) (hd:d ≤ n) (o:Option Int):sIx n d o ≤ n:=by
  cases o with
  | none => exact hd
  | some v =>
    show (if v < 0 then (v + (n:Int)).toNat else min v.toNat n) ≤ n
    by_cases hv:v < 0
    · rw [if_pos hv]; omega
    · rw [if_neg hv]; exact Nat.min_le_right _ _
theorem clip_eq (v:Int) (n d:Nat):(if v < 0 then max (v + (n:Int)) 0 else min v (n:Int)) = ((sIx n d (some v):Nat):Int):=by
  show (if v < 0 then max (v + (n:Int)) 0 else min v (n:Int)) = (((if v < 0 then (v + (n:Int)).toNat else min v.toNat n):Nat):Int)
  by_cases hv:v < 0
  · simp only [if_pos hv]; omega
  · simp only [if_neg hv]; omega
theorem adjust_gen (lo hi:Option Int) (n:Nat):Builtin.Slice.sliceAdjust lo hi 1 (n:Int) = (((sIx n 0 lo:Nat):Int),((sIx n n hi:Nat):Int)):=by
  have h1:¬ ((1:Int) < 0):=by omega
  unfold Builtin.Slice.sliceAdjust
  simp only [h1,if_false]
  refine Prod.ext ?_ ?_
  · cases lo with
    | none => rfl
    | some v => exact clip_eq v n 0
  · cases hi with
    | none => rfl
    | some v => exact clip_eq v n n
theorem places_gen (i j:Nat):Builtin.Slice.slicePlaces (i:Int) (j:Int) 1 = j - i:=by
  unfold Builtin.Slice.slicePlaces
  have h1:(1:Int) > 0:=by omega
  simp only [h1,if_true,Int.ediv_one]
  split <;> omega
theorem slicePart_ {v:Value} {o:Option Int} {Q:Option Int → Shared → Prop} (p:IsPart v o) (h:Q o s):wpAny (model prog w) A (Builtin.Slice.slicePartIndex v) Q E s:=by
  cases p with
  | none => exact slicePart_none h
  | int i t => exact slicePart_int h
theorem sliceApplied_gen {sl:Addr} {vl vu:Value} {lo hi:Option Int} {n:Nat} {Q:Int × Int × Nat → Shared → Prop} (hs:s.heap.IsSliceOf sl vl vu .none) (pl:IsPart vl lo) (pu:IsPart vu hi)
    (h:Q (((sIx n 0 lo:Nat):Int),1,sIx n n hi - sIx n 0 lo) s):wpAny (model prog w) A (Builtin.Slice.sliceApplied (.ref sl) (pure (n:Int))) Q E s:=by
  obtain ⟨os,hos,hcs,hds⟩:=id hs
  unfold Builtin.Slice.sliceApplied Builtin.Slice.sliceFields
  refine wpAny_bind (wpAny_bind (wpAny_field hos hds (x:=vl) rfl (wpAny_bind (wpAny_field hos hds (x:=vu) rfl (wpAny_bind (wpAny_field hos hds (x:=.none) rfl (wpAny_pure ?_)))))))
  refine wpAny_bind (slicePart_none ?_)
  show wpAny _ _ (if ((1:Int) == 0) = true then _ else _) _ _ s
  rw [if_neg (by decide)]
  refine wpAny_bind (slicePart_ pl (wpAny_bind (slicePart_ pu (wpAny_bind (wpAny_pure ?_)))))
  show wpAny _ _ (match Builtin.Slice.sliceAdjust lo hi 1 (n:Int) with | (lo,hi) => pure (lo,(1:Int),Builtin.Slice.slicePlaces lo hi 1)) _ _ s
  rw [adjust_gen lo hi n]
  show wpAny _ _ (pure (((sIx n 0 lo:Nat):Int),(1:Int),Builtin.Slice.slicePlaces ((sIx n 0 lo:Nat):Int) ((sIx n n hi:Nat):Int) 1)) _ _ s
  rw [places_gen]
  exact wpAny_pure h
theorem pick_gen (xs:Array Value) (i k:Nat):((List.range k).filterMap fun (m:Nat) => xs[((i:Int) + (m:Int) * 1).toNat]?).toArray = ((xs.toList.drop i).take k).toArray:=by
  have e:(fun (m:Nat) => xs[((i:Int) + (m:Int) * 1).toNat]?) = fun m => xs[i + m]?:=by
    funext m
    have:((i:Int) + (m:Int) * 1).toNat = i + m:=by omega
    rw [this]
  rw [e]
  have:=pick_run xs i k
  rw [List.filterMap_map] at this
  have e2:((fun x => xs[x]?) ∘ fun x => i + x) = fun m => xs[i + m]?:=rfl
  rw [e2] at this
  rw [this]
theorem getItem_tuple_cut {t sl:Addr} {items:Array Value} {vl vu:Value} {lo hi:Option Int} {Q:Value → Shared → Prop} (ht:IsTup s.heap t items) (hs:s.heap.IsSliceOf sl vl vu .none) (pl:IsPart vl lo) (pu:IsPart vu hi)
    (hw:¬ (sIx items.size 0 lo = 0 ∧ sIx items.size items.size hi = items.size))
    (h:Q (.ref s.heap.objs.size) { s with heap:=s.heap.push { cls:=.type "tuple",data:=.seq ((items.toList.drop (sIx items.size 0 lo)).take (sIx items.size items.size hi - sIx items.size 0 lo)).toArray } })
    (hsz:items.size ≤ sizeLine):wpAny (model prog w) A (getItem (.ref t) (.ref sl)) Q E s:=by
  have htake:sizeOk (.seq ((items.toList.drop (sIx items.size 0 lo)).take (sIx items.size items.size hi - sIx items.size 0 lo)).toArray):=by
    show ((items.toList.drop (sIx items.size 0 lo)).take (sIx items.size items.size hi - sIx items.size 0 lo)).toArray.size ≤ sizeLine
    rw [List.size_toArray,List.length_take,List.length_drop,Array.length_toList]
    omega
  have hj:sIx items.size items.size hi ≤ items.size:=sIx_le _ _ (Nat.le_refl _) hi
  obtain ⟨os,hos,hcs,hds⟩:=id hs
  have hTs:s.TypeIs (.ref sl) "slice":=⟨os,hos,hcs⟩
  unfold getItem
  try with_reducible refine wpAny_holding ?_
  first | refine wpAny_bind (wpAny_pure ?_) | skip
  refine wpAny_bind (wpAny_sequenceKey ht.typeIs (by decide) ?_)
  refine wpAny_bind (wpAny_callSpecial?_slot (name:=Str.ofString "__getitem__") ht.typeIs PyProof.Rows.slot_tuple_getitem
    (wpAny_call_entry PyProof.Rows.slot_tuple_getitem ht.typeIs entry_tuple_getitem ?_ (args_tuple_getitem _ _)))
  show wpAny _ _ (Builtin.Tuple.tupleItemsOf (.ref t) >>= _) _ _ s
  refine wpAny_bind (tupleItemsOf_ ht ?_)
  refine wpAny_bind (wpAny_typeOf hTs ?_)
  rw [if_pos (by decide)]
  refine wpAny_bind (sliceApplied_gen hs pl pu ?_)
  have hno:¬ ((((sIx items.size 0 lo:Nat):Int) == 0 && (1:Int) == 1 && (sIx items.size items.size hi - sIx items.size 0 lo) == items.size) = true):=by
    intro q
    rw [Bool.and_eq_true,Bool.and_eq_true] at q
    have q1:((sIx items.size 0 lo:Nat):Int) = 0:=eq_of_beq q.1.1
    have q2:sIx items.size items.size hi - sIx items.size 0 lo = items.size:=eq_of_beq q.2
    exact hw ⟨by omega,by omega⟩
  show wpAny _ _ (if (((sIx items.size 0 lo:Nat):Int) == 0 && (1:Int) == 1 && (sIx items.size items.size hi - sIx items.size 0 lo) == items.size) = true then _ else _) _ _ s
  rw [if_neg hno,pick_gen]
  first
    | exact wpAny_bind (m:=Builtin.Tuple.tupleExact _) (wpAny_newObj_type (wpAny_pure ⟨_,rfl,wpAny_pure h⟩) htake)
    | exact wpAny_bind (m:=Builtin.Tuple.tupleExact _) (wpAny_newObj_type (wpAny_bind (wpAny_pure (wpAny_pure ⟨_,rfl,wpAny_pure h⟩))) htake)
    | exact wpAny_bind (wpAny_bind (m:=Builtin.Tuple.tupleExact _) (wpAny_newObj_type (wpAny_pure (wpAny_pure ⟨_,rfl,wpAny_pure h⟩)) htake))
    | exact wpAny_bind (wpAny_bind (m:=Builtin.Tuple.tupleExact _) (wpAny_newObj_type (wpAny_pure ⟨_,rfl,wpAny_pure h⟩) htake))
end
end HT
namespace L2
open PySem PySem.Spec PyProof.Rows
noncomputable abbrev TO:=St → Hp → (Option Int → Hp → Prop) → Prop
noncomputable def PO (X:Cx) (e:Option Expr) (t:TO):Prop :=
  ∀ (pins:List (Addr × Obj)) (s:Shared) (σ:St) (H:Hp) (Q:Option Int → Hp → Prop),Inv X pins σ H s → t σ H Q →
    wpAny (model X.prog X.w) X.A (evalPart e X.env) (fun u s' => ∃ o H',Inv X pins σ H' s' ∧ IsPart u o ∧ Q o H') X.xe s
noncomputable def tPart (t:TE):TO:=fun σ H Q => t σ H fun x H1 => ∃ i,x = .int i ∧ Q (some i) H1
section
variable {X:Cx} {e:Expr} {te:TE} {lo hi:Option Expr} {tl th:TO} {pos p2:Pos}
theorem po_some (h:PE X e te):PO X (some e) (tPart te):=by
  intro pins s σ H Q I hw
  rw [evalPart_some]
  refine thn (h pins s σ H _ I hw) fun u s1 ⟨x,H1,I1,r1,q1⟩ => ?_
  obtain ⟨i,rfl,q⟩:=q1
  obtain ⟨t,rfl⟩:=r1
  exact ⟨some i,H1,I1,.int i t,q⟩
noncomputable def SlR (X:Cx) (r:V → Option Int → Option Int → Hp → VK → Prop):Prop :=
  ∀ (pins:List (Addr × Obj)) (s:Shared) (σ:St) (H:Hp) (x:V) (v vl vu:Value) (lo hi:Option Int) (sl:Addr) (Q:VK),Inv X pins σ H s → RelV x v → s.heap.IsSliceOf sl vl vu .none → IsPart vl lo → IsPart vu hi → r x lo hi H Q →
    ∃ T id,typeLookup (.type T) "__getitem__" = pure (some (.builtin id)) ∧ s.TypeIs v T ∧ wpAny (model X.prog X.w) X.A (getItem v (.ref sl)) (EP X pins σ Q) X.xe s
theorem SlR.or {r r':V → Option Int → Option Int → Hp → VK → Prop} (h:SlR X r) (h':SlR X r'):SlR X (fun x lo hi H Q => r x lo hi H Q ∨ r' x lo hi H Q):=by
  intro pins s σ H x v vl vu lo hi sl Q I rx hs pl pu q
  rcases q with q | q
  · exact h pins s σ H x v vl vu lo hi sl Q I rx hs pl pu q
  · exact h' pins s σ H x v vl vu lo hi sl Q I rx hs pl pu q
noncomputable def tSl (r:V → Option Int → Option Int → Hp → VK → Prop) (te:TE) (tl th:TO):TE:=fun σ H Q => te σ H fun x H1 => tl σ H1 fun l H2 => th σ H2 fun u H3 => r x l u H3 Q
theorem pe_slice {r:V → Option Int → Option Int → Hp → VK → Prop} (hr:SlR X r) (he:PE X e te) (hl:PO X lo tl) (hu:PO X hi th):PE X (.Subscript e (.Slice lo hi none p2) pos) (tSl r te tl th):=by
  intro pins s σ H Q I h
  refine Subscript_ (thn (he pins s σ H _ I h) fun v s1 ⟨x,H1,I1,r1,q1⟩ => ?_)
  refine wpAny_Slice (thn (hl pins s1 σ H1 _ I1 q1) fun vl s2 ⟨l,H2,I2,pl,q2⟩ => thn (hu pins s2 σ H2 _ I2 q2) fun vu s3 ⟨u,H3,I3,pu,q3⟩ => ?_)
  rw [evalPart_none]
  refine wpAny_pure ?_
  have I4:Inv X pins σ H3 { s3 with heap:=s3.heap.push { cls:=.type "slice",data:=.fields #[vl,vu,.none] } }:=I3.kept (t':=s3.toks) fun b ob q => Heap.get?_push_of_some _ q
  obtain ⟨T,id,hT,ht,hg⟩:=hr pins { s3 with heap:=s3.heap.push { cls:=.type "slice",data:=.fields #[vl,vu,.none] } } σ H3 x v vl vu l u s3.heap.objs.size Q I4 r1 (Heap.IsSliceOf.new ..) pl pu q3
  show wpAny (model X.prog X.w) X.A (subscriptTail e (.Slice lo hi none p2) v (.ref s3.heap.objs.size)) (EP X pins σ Q) X.xe { s3 with heap:=s3.heap.push { cls:=.type "slice",data:=.fields #[vl,vu,.none] } }
  exact tail_any (ops:=[.ref s3.heap.objs.size,v]) ht hT hg (by with_unfolding_all rfl)
noncomputable def cutV (xs:List V) (lo hi:Option Int):List V:=(xs.drop (HT.sIx xs.length 0 lo)).take (HT.sIx xs.length xs.length hi - HT.sIx xs.length 0 lo)
theorem cutV_length (xs:List V) (lo hi:Option Int):(cutV xs lo hi).length ≤ xs.length:=by
  unfold cutV
  rw [List.length_take,List.length_drop]
  omega
noncomputable def rSlT (K:PySem.W.Frag):V → Option Int → Option Int → Hp → VK → Prop:=fun x lo hi H Q => ∃ a xs,x = .ref a ∧ SqT K H a xs ∧
  ¬ (HT.sIx xs.length 0 lo = 0 ∧ HT.sIx xs.length xs.length hi = xs.length) ∧ ∀ p,H p = none → Q (.ref p) (upd H p (.tup (cutV xs lo hi)))
theorem sl_tup:SlR X (rSlT X.K):=by
  intro pins s σ H x v vl vu lo hi sl Q I rx hs pl pu h
  obtain ⟨a,xs,rfl,hx,hw,q⟩:=h
  cases rx
  obtain ⟨its,r,ht,hz⟩:=I.tuple hx
  have hlen:its.toArray.size = xs.length:=by rw [List.size_toArray]; exact r.length.symm
  refine ⟨"tuple",_,PyProof.Rows.slot_tuple_getitem.lookup,ht.typeIs,?_⟩
  refine HT.getItem_tuple_cut ht hs pl pu (by rw [hlen]; exact hw) ?_ (by rw [hlen]; exact hz)
  rw [hlen]
  refine ⟨.ref s.heap.objs.size,_,I.laid (t':=s.toks) (o:=.tup (cutV xs lo hi)) (fun b ob q => Heap.get?_push_of_some _ q) (Nat.le_refl _) ?_,rfl,q _ (I.hok.fresh (Nat.le_refl _))⟩
  exact ⟨Nat.le_trans (cutV_length xs lo hi) hz,_,(r.drop (HT.sIx xs.length 0 lo)).take (HT.sIx xs.length xs.length hi - HT.sIx xs.length 0 lo),IsTup.new _ _⟩
noncomputable def rCatT (K:PySem.W.Frag):R2:=fun x y H Q => ∃ a b xs ys,x = .ref a ∧ y = .ref b ∧ SqT K H a xs ∧ SqT K H b ys ∧ xs ≠ [] ∧ xs.length + ys.length ≤ sizeLine ∧
  (ys = [] → Q (.ref a) H) ∧ (ys ≠ [] → ∀ p,H p = none → Q (.ref p) (upd H p (.tup (xs ++ ys))))
theorem Vals.nil_iff {xs:List V} {us:List Value} (r:Vals xs us):us = [] ↔ xs = []:=by
  cases r with
  | nil => simp
  | cons _ _ => simp
theorem op_catT:OpR X (binaryOp .Add) (rCatT X.K):=by
  intro pins s σ H x y v u Q I rx ry h
  obtain ⟨a,b,xs,ys,rfl,rfl,ha,hb,hx,hz,q1,q2⟩:=h
  cases rx
  cases ry
  obtain ⟨its,r1,p1,_⟩:=I.tuple ha
  obtain ⟨its2,r2,p2,_⟩:=I.tuple hb
  refine HT.cat_tup p1 p2 (fun z => hx (r1.nil_iff.mp z)) (fun z => ⟨.ref a,H,I,rfl,q1 (r2.nil_iff.mp z)⟩) (fun z => ?_) (by rw [← r1.length,← r2.length]; exact hz)
  refine ⟨.ref s.heap.objs.size,_,I.laid (t':=s.toks) (o:=.tup (xs ++ ys)) (fun b ob q => Heap.get?_push_of_some _ q) (Nat.le_refl _) ?_,rfl,q2 (fun w => z (r2.nil_iff.mpr w)) _ (I.hok.fresh (Nat.le_refl _))⟩
  exact ⟨by rw [List.length_append]; exact hz,_,r1.append r2,IsTup.new _ _⟩
end
end L2
namespace L2
open PySem PySem.Spec PyProof.Rows
noncomputable def ixN (n:Nat) (i:Int):Option Nat:=if 0 ≤ i then (if i < n then some i.toNat else none) else if -(n:Int) ≤ i then some (i + n).toNat else none
noncomputable def atI {α:Type} (xs:List α) (i:Int):Option α:=(ixN xs.length i).bind fun j => xs[j]?
theorem ixN_seq {n:Nat} {i:Int} {j:Nat} (h:ixN n i = some j):seqIndex? i n = some j ∧ j < n ∧ -(n:Int) ≤ i ∧ i < n:=by
  unfold ixN at h
  by_cases h0:0 ≤ i
  · rw [if_pos h0] at h
    by_cases h1:i < n
    · rw [if_pos h1] at h
      have e:i.toNat = j:=Option.some.inj h
      exact ⟨by rw [seqIndex_of h0 h1,e],by omega,by omega,h1⟩
    · rw [if_neg h1] at h; cases h
  · rw [if_neg h0] at h
    by_cases h1:-(n:Int) ≤ i
    · rw [if_pos h1] at h
      have e:(i + n).toNat = j:=Option.some.inj h
      exact ⟨by rw [seqIndex_neg (by omega) h1,e],by omega,h1,by omega⟩
    · rw [if_neg h1] at h; cases h
theorem atI_get {α:Type} {xs:List α} {i:Int} {v:α} (h:atI xs i = some v):∃ j,seqIndex? i xs.length = some j ∧ xs[j]? = some v ∧ j < xs.length ∧ -(xs.length:Int) ≤ i ∧ i < xs.length:=by
  unfold atI at h
  cases e:ixN xs.length i with
  | none => rw [e] at h; cases h
  | some j =>
    rw [e] at h
    obtain ⟨h1,h2,h3,h4⟩:=ixN_seq e
    exact ⟨j,h1,h,h2,h3,h4⟩
noncomputable def PlainIx (b:Expr):Prop:=∀ o i,subscripted b false o i = operate [o,i] (getItem o i)
noncomputable def IxR (X:Cx) (r:R2):Prop :=
  ∀ (value slice:Expr) (pins:List (Addr × Obj)) (s:Shared) (σ:St) (H:Hp) (x y:V) (v u:Value) (Q:VK),Inv X pins σ H s → RelV x v → RelV y u → r x y H Q →
    subscripted slice false v u = operate [v,u] (getItem v u) → wpAny (model X.prog X.w) X.A (subscriptTail value slice v u) (EP X pins σ Q) X.xe s
noncomputable def MtR (X:Cx) (id:String) (r:V → List V → Hp → VK → Prop):Prop :=
  ∀ (pins:List (Addr × Obj)) (s:Shared) (σ:St) (H:Hp) (x:V) (xs:List V) (v:Value) (us:List Value) (Q:VK),Inv X pins σ H s → RelV x v → Vals xs us → r x xs H Q →
    wpAny (model X.prog X.w) X.A (call (.builtin id) (v :: us)) (EP X pins σ Q) X.xe s
section
variable {X:Cx} {a b:Expr} {ta tb:TE} {pos:Pos}
theorem IxR.or {r r':R2} (h:IxR X r) (h':IxR X r'):IxR X (fun x y H Q => r x y H Q ∨ r' x y H Q):=by
  intro value slice pins s σ H x y v u Q I rx ry q hs
  rcases q with q | q
  · exact h value slice pins s σ H x y v u Q I rx ry q hs
  · exact h' value slice pins s σ H x y v u Q I rx ry q hs
theorem pe_ix {r:R2} (hr:IxR X r) (ha:PE X a ta) (hb:PE X b tb) (hs:PlainIx b):PE X (.Subscript a b pos) (tOp r ta tb):=by
  intro pins s σ H Q I h
  exact Subscript_ (binT ha hb I h fun v u s2 x y H2 I2 rx ry q => hr a b pins s2 σ H2 x y v u Q I2 rx ry q (hs _ _))
noncomputable def rIxL (K:PySem.W.Frag):R2:=fun x y H Q => ∃ p xs i v,x = .ref p ∧ y = .int i ∧ SqL K H p xs ∧ atI xs i = some v ∧ Q v H
noncomputable def rIxT (K:PySem.W.Frag):R2:=fun x y H Q => ∃ p xs i v,x = .ref p ∧ y = .int i ∧ SqT K H p xs ∧ atI xs i = some v ∧ Q v H
noncomputable def rIxS:R2:=fun x y H Q => ∃ z i c,x = .str z ∧ y = .int i ∧ z.length ≤ sizeLine ∧ atI z.cps.toList i = some c ∧ Q (.str ⟨#[c]⟩) H
theorem ix_list:IxR X (rIxL X.K):=by
  intro value slice pins s σ H x y v u Q I rx ry h hs
  obtain ⟨p,xs,i,z,rfl,rfl,hq,he,q⟩:=h
  cases rx
  obtain ⟨t,rfl⟩:=ry
  obtain ⟨its,r,pl,hz⟩:=I.list hq
  obtain ⟨j,h1,h2,h3,h4,h5⟩:=atI_get he
  obtain ⟨w,ew,rw'⟩:=r.get h2
  have hl:=r.length
  have hn:=line63
  have fin:EP X pins σ Q w s:=⟨z,H,I,rw',q⟩
  by_cases h0:0 ≤ i
  · have hj:i.toNat = j:=by
      rw [seqIndex_of h0 h5] at h1
      exact Option.some.inj h1
    exact item_listR pl.isList h0 (by omega) (by rw [hj]; simpa using ew) fin hs
  · have hj:(i + (its.toArray.size:Int)).toNat = j:=by
      rw [seqIndex_neg (by omega) h4] at h1
      rw [List.size_toArray,← hl]
      exact Option.some.inj h1
    exact subscriptTail_builtinR (x:=w) pl.isList.typeIs slot_list_getitem.lookup
      (wpAny_getItem_list_neg (Q:=fun r s' => r = w ∧ EP X pins σ Q r s') pl.isList (by omega) (by rw [List.size_toArray] <;> omega) (by omega) (by rw [hj]; simpa using ew) ⟨rfl,fin⟩) hs
theorem ix_tup:IxR X (rIxT X.K):=by
  intro value slice pins s σ H x y v u Q I rx ry h hs
  obtain ⟨p,xs,i,z,rfl,rfl,hq,he,q⟩:=h
  cases rx
  obtain ⟨t,rfl⟩:=ry
  obtain ⟨its,r,pl,hz⟩:=I.tuple hq
  obtain ⟨j,h1,h2,h3,h4,h5⟩:=atI_get he
  obtain ⟨w,ew,rw'⟩:=r.get h2
  have hl:=r.length
  have hn:=line63
  have fin:EP X pins σ Q w s:=⟨z,H,I,rw',q⟩
  exact subscriptTail_builtinR (x:=w) pl.typeIs slot_tuple_getitem.lookup
    (getItem_tuple (j:=j) (Q:=fun r s' => r = w ∧ EP X pins σ Q r s') pl (by omega) (by omega) (by rw [List.size_toArray,← hl]; exact h1) (by simpa using ew) ⟨rfl,fin⟩) hs
theorem ix_str:IxR X rIxS:=by
  intro value slice pins s σ H x y v u Q I rx ry h hs
  obtain ⟨z,i,c,rfl,rfl,hz,he,q⟩:=h
  obtain ⟨t,rfl⟩:=rx
  obtain ⟨t',rfl⟩:=ry
  obtain ⟨j,h1,h2,h3,h4,h5⟩:=atI_get he
  have hl:z.cps.toList.length = z.length:=by simp [Str.length]
  rw [hl] at h1 h4 h5
  have hn:=line63
  exact tail_any (typeIs_str s z t) slot_str_getitem.lookup (getItem_str (c:=c) (by
    have e1:decide (i < -(2 ^ 63:Int)) = false:=decide_eq_false (by omega)
    have e2:decide (i ≥ 2 ^ 63) = false:=decide_eq_false (by omega)
    rw [e1,e2,Bool.or_false]) (by rw [h1]; simpa using h2) ⟨.str ⟨#[c]⟩,H,I.tok _,⟨_,rfl⟩,q⟩) hs
noncomputable def rIx (K:PySem.W.Frag):R2:=fun x y H Q => rIxL K x y H Q ∨ rIxT K x y H Q ∨ rIxS x y H Q
theorem ix_seq:IxR X (rIx X.K):=ix_list.or (ix_tup.or ix_str)
theorem slice_bounds (lo hi:Option Int) (n:Nat):(sliceBounds lo hi none n).1 = ((HT.sIx n 0 lo:Nat):Int) ∧ (sliceBounds lo hi none n).2.1 = ((HT.sIx n n hi:Nat):Int) ∧ (sliceBounds lo hi none n).2.2 = 1:=by
  refine ⟨?_,?_,rfl⟩
  · cases lo with
    | none => simp [sliceBounds,HT.sIx]
    | some i =>
      simp only [sliceBounds,HT.sIx,Option.getD_none,show (1:Int) > 0 by decide,if_true]
      by_cases h:i < 0
      · simp only [h,if_true] <;> omega
      · simp only [h,if_false] <;> omega
  · cases hi with
    | none => simp [sliceBounds,HT.sIx]
    | some i =>
      simp only [sliceBounds,HT.sIx,Option.getD_none,show (1:Int) > 0 by decide,if_true]
      by_cases h:i < 0
      · simp only [h,if_true] <;> omega
      · simp only [h,if_false] <;> omega
theorem slicePick_cut (its:List Value) (lo hi:Option Int):slicePick its.toArray lo hi none = ((its.drop (HT.sIx its.length 0 lo)).take (HT.sIx its.length its.length hi - HT.sIx its.length 0 lo)).toArray:=by
  obtain ⟨h1,h2,h3⟩:=slice_bounds lo hi its.toArray.size
  unfold slicePick
  rw [h1,h2,h3]
  simp only [sliceRange_one,pick_run,List.size_toArray] <;> rfl
noncomputable def rSlL (K:PySem.W.Frag):V → Option Int → Option Int → Hp → VK → Prop:=fun x lo hi H Q => ∃ a xs,x = .ref a ∧ SqL K H a xs ∧ ∀ p,H p = none → Q (.ref p) (upd H p (.lst (cutV xs lo hi)))
theorem sl_list:SlR X (rSlL X.K):=by
  intro pins s σ H x v vl vu lo hi sl Q I rx hs pl pu h
  obtain ⟨a,xs,rfl,hx,q⟩:=h
  cases rx
  obtain ⟨its,r,ht,hz⟩:=I.list hx
  have hlen:=r.length
  refine ⟨"list",_,slot_list_getitem.lookup,ht.isList.typeIs,?_⟩
  refine wpAny_getItem_list_slice ht.isList hs pl pu .none (by simp) ?_ (by rw [List.size_toArray] <;> omega)
  rw [slicePick_cut,← hlen]
  refine ⟨.ref s.heap.objs.size,_,I.laid (t':=s.toks) (o:=.lst (cutV xs lo hi)) (fun b ob q => Heap.get?_push_of_some _ q) (Nat.le_refl _) ?_,rfl,q _ (I.hok.fresh (Nat.le_refl _))⟩
  exact ⟨Nat.le_trans (cutV_length xs lo hi) hz,_,0,(r.drop (HT.sIx xs.length 0 lo)).take (HT.sIx xs.length xs.length hi - HT.sIx xs.length 0 lo),Heap.get?_push_size _ rfl⟩
theorem call_list_of:CallR X (.type "list") (fun xs H Q => ∃ p ys,xs = [.ref p] ∧ (SqL X.K H p ys ∨ SqT X.K H p ys) ∧ ∀ l,H l = none → Q (.ref l) (upd H l (.lst ys))):=by
  intro pins s σ H xs us Q I r h
  obtain ⟨p,ys,rfl,hq,q⟩:=h
  obtain ⟨u,rfl,rx⟩:=vals1 r
  cases rx
  have fin:∀ (its:List Value),Vals ys its → ys.length ≤ sizeLine → ∀ (h':Heap) (c':Nat),(∀ b o',s.heap.get? b = some o' → h'.get? b = some o') →
      h'.get? s.heap.objs.size = some { cls:=.type "list",dict:=none,data:=.seq its.toArray c',slots:=#[] } → EP X pins σ Q (.ref s.heap.objs.size) { s with heap:=h' }:=fun its r' hz h' c' kp e =>
    ⟨.ref s.heap.objs.size,_,I.laid (t':=s.toks) kp (Nat.le_refl _) (show ObjOk X.prog X.w _ h' _ (.lst ys) from ⟨hz,its,c',r',e⟩),rfl,q _ (I.hok.fresh (Nat.le_refl _))⟩
  rcases hq with hq | hq
  · obtain ⟨its,r',pl,hz⟩:=I.list hq
    have hlen:=r'.length
    obtain ⟨o,ho,hc,n,hd⟩:=pl.isList
    exact call_list_seq p (.inl rfl) ho hc hd (fun h' c' kp e => fin its r' hz h' c' kp e) (by simp only [List.size_toArray] <;> omega)
  · obtain ⟨its,r',pl,hz⟩:=I.tuple hq
    have hlen:=r'.length
    obtain ⟨o,ho,hc,n,hd⟩:=pl
    exact call_list_seq p (.inr rfl) ho hc hd (fun h' c' kp e => fin its r' hz h' c' kp e) (by simp only [List.size_toArray] <;> omega)
noncomputable def tyV (K:PySem.W.Frag) (T:String) (x:V) (H:Hp):Prop:=match x with
  | .str _ => T = "str"
  | .int _ => T = "int"
  | .ref p => (T = "list" ∧ ∃ xs,SqL K H p xs) ∨ (T = "tuple" ∧ ∃ o,K.lookup p = some o ∧ o.cls = .type "tuple" ∧ o.dict = none) ∨
      (T = "dict" ∧ ((∃ kvs,H p = some (.dK kvs)) ∨ ∃ kvs,H p = some (.dT kvs))) ∨ (T = "set" ∧ ∃ S n,H p = some (.set S n))
  | _ => False
theorem tyV_is {pins:List (Addr × Obj)} {σ:St} {H:Hp} {s:Shared} {T:String} {x:V} {v:Value} (I:Inv X pins σ H s) (r:RelV x v) (ty:tyV X.K T x H) :
    s.TypeIs v T ∧ ∀ a,v = .ref a → ∃ ob,s.heap.get? a = some ob ∧ ob.dict = none:=by
  cases x with
  | str z =>
    obtain ⟨t,rfl⟩:=r
    cases (show T = "str" from ty)
    exact ⟨typeIs_str s z t,fun _ e => nomatch e⟩
  | int i =>
    obtain ⟨t,rfl⟩:=r
    cases (show T = "int" from ty)
    exact ⟨typeIs_int s i t,fun _ e => nomatch e⟩
  | ref p =>
    cases r
    rcases ty with ⟨rfl,xs,hq⟩ | ⟨rfl,o,hk,hc,hd⟩ | ⟨rfl,hk⟩ | ⟨rfl,S,n,hk⟩
    · obtain ⟨its,_,pl,_⟩:=I.list hq
      refine ⟨pl.isList.typeIs,fun a e => ?_⟩
      cases e
      obtain ⟨o,n,e,c,hd,_⟩:=pl
      exact ⟨o,e,hd⟩
    · refine ⟨⟨o,I.kIn p o hk,hc⟩,fun a e => ?_⟩
      cases e
      exact ⟨o,I.kIn _ o hk,hd⟩
    · have z:∃ o,s.heap.get? p = some o ∧ o.ExactDict:=by
        rcases hk with ⟨kvs,hk⟩ | ⟨kvs,hk⟩
        · obtain ⟨_,_,_,_,o,_,_,e,ex,_⟩:=I.hok p _ hk
          exact ⟨o,e,ex⟩
        · obtain ⟨_,_,_,_,o,_,_,e,ex,_⟩:=I.hok p _ hk
          exact ⟨o,e,ex⟩
      obtain ⟨o,e,ex⟩:=z
      refine ⟨⟨o,e,ex.1⟩,fun a e2 => ?_⟩
      cases e2
      exact ⟨o,e,ex.2.1⟩
    · obtain ⟨o,_,_,_,e,ex,_⟩:=I.hok p _ hk
      refine ⟨⟨o,e,ex.1⟩,fun a e2 => ?_⟩
      cases e2
      exact ⟨o,e,ex.2.1⟩
  | _ => exact False.elim ty
noncomputable def tBM0 (K:PySem.W.Frag) (T:String) (r:V → List V → Hp → VK → Prop) (to:TE):TE:=fun σ H Q => to σ H fun x H1 => tyV K T x H1 ∧ r x [] H1 Q
noncomputable def tBM (K:PySem.W.Frag) (T:String) (r:V → List V → Hp → VK → Prop) (to:TE) (t:TA):TE:=fun σ H Q => to σ H fun x H1 => tyV K T x H1 ∧ t σ H1 fun xs H2 => r x xs H2 Q
variable {o e:Expr} {es:List Expr} {to:TE} {t:TA} {name:Str} {apos cpos:Pos} {T id:String} {r:V → List V → Hp → VK → Prop}
theorem pe_bm0 (pa:PlainAttrs T) (slot:Slot T name id) (hty:typeOf (.builtin id) = pure (.type "method_descriptor")) (hm:MtR X id r) (ho:PE X o to)
    (hbase:attributeBase o name X.env (eval o X.env) = eval o X.env:=by rfl) (hline:(apos.endLine == cpos.line) = true:=by rfl):PE X (.Call (.Attribute o name apos) [] [] cpos) (tBM0 X.K T r to):=by
  intro pins s σ H Q I h
  refine wpAny_Call_method0_late hbase hline (thn (ho pins s σ H _ I h) fun v s1 ⟨x,H1,I1,r1,ty,q1⟩ => ?_)
  obtain ⟨h1,h2⟩:=tyV_is I1 r1 ty
  exact ⟨T,id,pa,slot,hty,h1,h2,Calls.callWith_builtin rfl (PySem.evalArgs_none (hm pins s1 σ H1 x [] v [] Q I1 r1 .nil q1))⟩
theorem pe_bm (pa:PlainAttrs T) (slot:Slot T name id) (hty:typeOf (.builtin id) = pure (.type "method_descriptor")) (hm:MtR X id r) (ho:PE X o to) (ha:PA X (e :: es) t)
    (hbase:attributeBase o name X.env (eval o X.env) = eval o X.env:=by rfl)
    (hfew:((backTo cpos (starEach (e :: es) X.env)).all (fun x => !x.1) && (backToKw cpos (keywordEach [] X.env)).all (fun x => x.1.isSome)
      && decide ((e :: es).length + ([]:List Keyword).length + (if ([]:List Keyword).isEmpty then 0 else 1) < 30)) = true:=by rfl)
    (hline:(apos.endLine == cpos.line) = true:=by rfl) (hs:starEach (e :: es) X.env = (false,eval e X.env) :: starEach es X.env:=by rfl) (hplain:(backTo cpos (starEach es X.env)).any (·.1) = false:=by rfl) :
    PE X (.Call (.Attribute o name apos) (e :: es) [] cpos) (tBM X.K T r to t):=by
  intro pins s σ H Q I h
  refine wpAny_Call_method_late hbase hfew hline rfl (thn (ho pins s σ H _ I h) fun v s1 ⟨x,H1,I1,r1,ty,q1⟩ => ?_)
  obtain ⟨h1,h2⟩:=tyV_is I1 r1 ty
  refine ⟨T,id,pa,slot,hty,h1,h2,?_⟩
  have hA:=ha cpos pins s1 σ H1 _ I1 q1
  rw [hs] at hA ⊢
  refine Calls.callWith_builtin (by show (false || (backTo cpos (starEach es X.env)).any (·.1)) = false; rw [hplain] <;> rfl) (Calls.evalArgs_plain ?_)
  exact thn hA fun us s2 ⟨vs,H2,I2,r2,q2⟩ => hm pins s2 σ H2 x vs v us Q I2 r1 r2 q2
end
end L2
namespace L2
open PySem PySem.Spec PyProof.Rows
noncomputable def MtM (X:Cx) (id:String) (r:V → List V → Hp → VK → Prop):Prop :=
  ∀ (pins:List (Addr × Obj)) (s:Shared) (σ:St) (H:Hp) (x:V) (xs:List V) (v:Value) (us:List Value) (Q:VK),Inv X pins σ H s → RelV x v → Vals xs us → r x xs H Q →
    wpAny (model X.prog X.w) X.A (call (.builtin id) (v :: us)) (EP X pins σ Q) X.xe s
theorem Vals.one:∀ {x:V} {us:List Value},Vals [x] us → ∃ u,us = [u] ∧ RelV x u
  | _,_,.cons r .nil => ⟨_,rfl,r⟩
theorem Vals.zero:∀ {us:List Value},Vals [] us → us = []
  | _,.nil => rfl
theorem Vals.dropLast {xs:List V} {us:List Value} (h:Vals xs us):Vals xs.dropLast us.dropLast:=by
  induction h with
  | nil => exact .nil
  | cons r t ih =>
    cases t with
    | nil => exact .nil
    | cons q t' => exact .cons r ih
theorem erase_last {α:Type} (l:List α):l.eraseIdx (l.length - 1) = l.dropLast:=by
  induction l with
  | nil => rfl
  | cons a r ih =>
    cases r with
    | nil => rfl
    | cons b r =>
      have e:(a :: b :: r).length - 1 = ((b :: r).length - 1) + 1:=by
        have h1:(a :: b :: r).length = r.length + 2:=rfl
        have h2:(b :: r).length = r.length + 1:=rfl
        omega
      rw [e,List.eraseIdx_cons_succ,ih]
      all_goals rfl
section
variable {X:Cx} {pins:List (Addr × Obj)} {σ:St} {H:Hp} {s:Shared} {l b:Addr} {xs ys zs:List V}
theorem Inv.lset {its its':List Value} {n:Nat} {f:Array Value → Array Value} {t':Nat} (I:Inv X pins σ H s) (hH:H l = some (.lst xs))
    (e:s.heap.get? l = some { cls:=.type "list",data:=.seq its.toArray n }) (hf:f its.toArray = its'.toArray) (hv:Vals ys its') (hz:ys.length ≤ sizeLine) :
    Inv X pins σ (upd H l (.lst ys)) { s with heap:=s.heap.update l (Obj.mapSeq f),toks:=t' }:=by
  have q:=PySem.IsL.update e f
  rw [hf] at q
  refine I.write (x:=l) (e:=l) (by rw [hH]; exact trivial) (.inl rfl) (fun b' u hb hu => (Heap.get?_update_other s.heap (Obj.mapSeq f) (Ne.symm hb)).trans hu) ⟨_,q⟩ ?_
  exact ⟨hz,its',_,hv,q⟩
theorem Inv.lnew {its:List Value} {t':Nat} (I:Inv X pins σ H s) (hv:Vals ys its) (hz:ys.length ≤ sizeLine) :
    Inv X pins σ (upd H s.heap.objs.size (.lst ys)) { s with heap:=s.heap.push { cls:=.type "list",data:=.seq its.toArray },toks:=t' } :=
  I.laid (fun _ _ q => Heap.get?_push_of_some _ q) (Nat.le_refl _) ⟨hz,its,0,hv,Heap.get?_push_size _ rfl⟩
theorem Inv.fresh (I:Inv X pins σ H s):H s.heap.objs.size = none:=I.hok.fresh (Nat.le_refl _)
theorem Inv.lstM (I:Inv X pins σ H s) (hH:H l = some (.lst xs)):xs.length ≤ sizeLine ∧ ∃ (its:List Value) (n:Nat),Vals xs its ∧ xs.length = its.length ∧ s.heap.get? l = some { cls:=.type "list",data:=.seq its.toArray n }:=by
  obtain ⟨z,its,n,r,e⟩:=I.hok l _ hH
  exact ⟨z,its,n,r,r.length,e⟩
theorem notLongL {n:Nat} (h:n ≤ sizeLine):Builtin.List.listTooLong n = false:=by
  unfold Builtin.List.listTooLong
  exact decide_eq_false (by omega)
end
section
variable {X:Cx}
noncomputable def rAppend:V → List V → Hp → VK → Prop:=fun x vs H Q => ∃ l xs y,x = .ref l ∧ vs = [y] ∧ H l = some (.lst xs) ∧ xs.length < sizeLine ∧ Q .non (upd H l (.lst (xs ++ [y])))
theorem mt_append:MtM X "list.append" rAppend:=by
  intro pins s σ H x vs v us Q I rx rv h
  obtain ⟨l,xs,y,rfl,rfl,hH,hz,q⟩:=h
  cases rx
  obtain ⟨u,rfl,ru⟩:=rv.one
  obtain ⟨z,its,n,r,hl,e⟩:=I.lstM hH
  refine call_meets F.slot_list_append ⟨_,e,rfl⟩ F.entry_list_append (F.args_list_append_2 _ _) (PySem.list_append l its.toArray n u (by rw [List.size_toArray]; omega)) ⟨e,?_⟩
  refine ⟨.non,_,I.lset (its':=its ++ [u]) hH e (by simp) (r.append (.cons ru .nil)) ?_,rfl,q⟩
  rw [List.length_append,List.length_singleton]
  omega
noncomputable def rPop:V → List V → Hp → VK → Prop:=fun x vs H Q => ∃ l xs y,x = .ref l ∧ vs = [] ∧ H l = some (.lst xs) ∧ xs[xs.length - 1]? = some y ∧ Q y (upd H l (.lst xs.dropLast))
theorem mt_pop:MtM X "list.pop" rPop:=by
  intro pins s σ H x vs v us Q I rx rv h
  obtain ⟨l,xs,y,rfl,rfl,hH,hy,q⟩:=h
  cases rx
  have hus:=rv.zero
  subst hus
  obtain ⟨z,its,n,r,hl,e⟩:=I.lstM hH
  obtain ⟨u,hu,ru⟩:=r.get hy
  have hy':its.toArray[its.toArray.size - 1]? = some u:=by
    show its.toArray[its.length - 1]? = some u
    rw [← Array.getElem?_toList,← hl]
    exact hu
  refine call_meets F.slot_list_pop ⟨_,e,rfl⟩ F.entry_list_pop (F.args_list_pop_1 _) (MeetsSeq.list_pop_last l its.toArray n u hy' (by rw [List.size_toArray]; omega)) ⟨e,?_⟩
  refine ⟨y,_,I.lset (its':=its.dropLast) hH e ?_ r.dropLast ?_,ru,q⟩
  · show its.toArray.eraseIdxIfInBounds (its.toArray.size - 1) = its.dropLast.toArray
    rw [List.size_toArray,List.eraseIdxIfInBounds_toArray,erase_last]
  · rw [List.length_dropLast]
    omega
end
section
variable {prog:Program} {w:World} {A:Around} {E:Value → Shared → Prop} {s:Shared}
set_option maxRecDepth 100000 in
end
section
variable {X:Cx}
end
end L2
namespace L2
open PySem PySem.Spec PyProof.Rows
section
variable {κ:Type} [DecidableEq κ]
noncomputable def valV (kvs:List (κ × V)) (k:κ):Option V:=(kvs.find? fun kv => decide (kv.1 = k)).map (·.2)
noncomputable def putK (kvs:List (κ × V)) (k:κ) (v:V):List (κ × V) :=
  if (kvs.any fun kv => decide (kv.1 = k)) = true then kvs.map (fun kv => if kv.1 = k then (kv.1,v) else kv) else kvs ++ [(k,v)]
theorem valV_pos {p:κ × V} {r:List (κ × V)} {k:κ} (e:p.1 = k):valV (p :: r) k = some p.2:=by simp [valV,List.find?_cons,e]
theorem valV_neg {p:κ × V} {r:List (κ × V)} {k:κ} (e:¬ p.1 = k):valV (p :: r) k = valV r k:=by simp [valV,List.find?_cons,e]
theorem valV_any (k:κ):∀ kvs:List (κ × V),(kvs.any fun kv => decide (kv.1 = k)) = (valV kvs k).isSome
  | [] => rfl
  | p :: r => by
    rw [List.any_cons]
    by_cases e:p.1 = k
    · simp only [valV_pos e,decide_eq_true e,Bool.true_or,Option.isSome_some]
    · rw [valV_neg e,decide_eq_false e,Bool.false_or]; exact valV_any k r
theorem length_putK (kvs:List (κ × V)) (k:κ) (v:V):(putK kvs k v).length ≤ kvs.length + 1:=by
  unfold putK
  split
  · rw [List.length_map]; omega
  · rw [List.length_append,List.length_cons,List.length_nil]; omega
theorem putK_new {kvs:List (κ × V)} {k:κ} (v:V) (h:valV kvs k = none):putK kvs k v = kvs ++ [(k,v)]:=by
  unfold putK
  rw [valV_any,h]
  exact if_neg (by decide)
theorem RelO.isSome_eq {o:Option V} {u:Option Value} (r:RelO o u):o.isSome = u.isSome:=by
  cases o with
  | none => cases u with
    | none => rfl
    | some _ => exact (show False from r).elim
  | some _ => cases u with
    | none => exact (show False from r).elim
    | some _ => rfl
theorem KV.val {kvs:List (κ × V)} {vs:List (κ × Value)} (r:KV kvs vs) (k:κ):RelO (valV kvs k) (valueAt vs k):=by
  unfold KV at r
  induction r with
  | nil => exact True.intro
  | @cons p q ps qs h t ih =>
    obtain ⟨h1,h2⟩:=h
    by_cases e:p.1 = k
    · have e':q.1 = k:=h1.symm.trans e
      have b:valueAt (q :: qs) k = some q.2:=by simp [valueAt,List.find?_cons,e']
      rw [valV_pos e,b]; exact h2
    · have e':¬ q.1 = k:=fun z => e (h1.trans z)
      have b:valueAt (q :: qs) k = valueAt qs k:=by simp [valueAt,List.find?_cons,e']
      rw [valV_neg e,b]; exact ih
theorem KV.any {kvs:List (κ × V)} {vs:List (κ × Value)} (r:KV kvs vs) (k:κ):(kvs.any fun kv => decide (kv.1 = k)) = vs.any fun kv => decide (kv.1 = k):=by
  unfold KV at r
  induction r with
  | nil => rfl
  | cons h t ih => rw [List.any_cons,List.any_cons,ih,h.1]
theorem KV.repl {kvs:List (κ × V)} {vs:List (κ × Value)} (r:KV kvs vs) (k:κ) {y:V} {u:Value} (ry:RelV y u) :
    KV (kvs.map fun kv => if kv.1 = k then (kv.1,y) else kv) (vs.map fun kv => if kv.1 = k then (kv.1,u) else kv):=by
  unfold KV at r ⊢
  induction r with
  | nil => exact .nil
  | @cons p q ps qs h t ih =>
    rw [List.map_cons,List.map_cons]
    refine .cons ?_ ih
    obtain ⟨h1,h2⟩:=h
    by_cases e:p.1 = k
    · rw [if_pos e,if_pos (h1.symm.trans e)]; exact ⟨h1,ry⟩
    · rw [if_neg e,if_neg (fun z => e (h1.trans z))]; exact ⟨h1,h2⟩
theorem KV.put {kvs:List (κ × V)} {vs:List (κ × Value)} (r:KV kvs vs) (k:κ) {y:V} {u:Value} (ry:RelV y u):KV (putK kvs k y) (stored vs k u):=by
  unfold putK stored
  rw [r.any k]
  by_cases e:(vs.any fun kv => decide (kv.1 = k)) = true
  · rw [if_pos e,if_pos e]; exact r.repl k ry
  · rw [if_neg e,if_neg e]; exact Paired.snoc r ⟨rfl,ry⟩
theorem KV.length {kvs:List (κ × V)} {vs:List (κ × Value)} (r:KV kvs vs):kvs.length = vs.length:=Paired.length r
end
theorem kV_is {P:Program} {w:World} {k:Key} {u:Value} (r:RelV (kV k) u):(mixKind P w).is k u = true:=by
  cases k with
  | inl i => obtain ⟨t,e⟩:=(show ∃ t,u = Value.int i t from r); subst e; exact mixKind_int P w i t
  | inr x => obtain ⟨t,e⟩:=(show ∃ t,u = Value.str x t from r); subst e; exact mixKind_str P w x t
theorem items_are {P:Program} {w:World}:∀ {ks:List Key} {us:List Value},Vals (ks.map kV) us → ItemsAre (mixKind P w) ks us
  | [],_,r => by rw [List.map_nil] at r; cases r; exact .nil
  | k :: ks,_,r => by
    rw [List.map_cons] at r
    cases r with
    | cons h t => exact .cons (kV_is h) (items_are t)
noncomputable abbrev KT (H:Hp):List (List Key × V) → List (List Key × Addr × Value) → Prop:=Paired fun p q => p.1 = q.1 ∧ H q.2.1 = some (.tup (p.1.map kV)) ∧ RelV p.2 q.2.2
theorem KT.val {H:Hp} {kvs:List (List Key × V)} {xs:List (List Key × Addr × Value)} (r:KT H kvs xs) (k:List Key):RelO (valV kvs k) ((atKey xs k).map (·.2)):=by
  induction r with
  | nil => exact True.intro
  | @cons p q ps qs h t ih =>
    obtain ⟨h1,_,h2⟩:=h
    by_cases e:p.1 = k
    · have e':q.1 = k:=h1.symm.trans e
      have b:atKey (q :: qs) k = some q.2:=by simp [atKey,List.find?_cons,e']
      rw [valV_pos e,b]; exact h2
    · have e':¬ q.1 = k:=fun z => e (h1.trans z)
      have b:atKey (q :: qs) k = atKey qs k:=by simp [atKey,List.find?_cons,e']
      rw [valV_neg e,b]; exact ih
theorem KT.repl {H:Hp} {kvs:List (List Key × V)} {xs:List (List Key × Addr × Value)} (r:KT H kvs xs) (k:List Key) {y:V} {u:Value} (ry:RelV y u) :
    KT H (kvs.map fun kv => if kv.1 = k then (kv.1,y) else kv) (xs.map (putAt k u)):=by
  induction r with
  | nil => exact .nil
  | @cons p q ps qs h t ih =>
    rw [List.map_cons,List.map_cons]
    refine .cons ?_ ih
    obtain ⟨h1,h2,h3⟩:=h
    unfold putAt
    by_cases e:p.1 = k
    · rw [if_pos e,if_pos (h1.symm.trans e)]; exact ⟨h1,h2,ry⟩
    · rw [if_neg e,if_neg (fun z => e (h1.trans z))]; exact ⟨h1,h2,h3⟩
theorem KT.put {H:Hp} {kvs:List (List Key × V)} {xs:List (List Key × Addr × Value)} (r:KT H kvs xs) (k:List Key) {b:Addr} {y:V} {u:Value} (hb:H b = some (.tup (k.map kV))) (ry:RelV y u) :
    KT H (putK kvs k y) (storedH xs k b u):=by
  have e:(kvs.any fun kv => decide (kv.1 = k)) = (atKey xs k).isSome:=by
    rw [valV_any,(r.val k).isSome_eq,Option.isSome_map]
  unfold putK storedH
  rw [e]
  by_cases q:(atKey xs k).isSome = true
  · rw [if_pos q,if_pos q]; exact r.repl k ry
  · rw [if_neg q,if_neg q]; exact Paired.snoc r ⟨rfl,hb,ry⟩
theorem KT.keeps {H H':Hp} {kvs:List (List Key × V)} {xs:List (List Key × Addr × Value)} (r:KT H kvs xs) (ht:∀ b ys,H b = some (.tup ys) → H' b = some (.tup ys)):KT H' kvs xs :=
  Paired.mapP r fun _ _ z => ⟨z.1,ht _ _ z.2.1,z.2.2⟩
section
variable {P:Program} {w:World} {H:Hp} {h:Heap} {a:Addr}
theorem rd_of {u:HO} (ok:HOk P w H h) (e:Rd H a u):ObjOk P w H h a u:=e.ok ok
theorem dk_rd {kvs:List (Key × V)} (ok:HOk P w H h) (e:Rd H a (.dK kvs)):kvs.length ≤ sizeLine ∧ (a == sysModules) = false ∧ ∃ vs,KV kvs vs ∧ h.DictOf (mixKind P w) a vs :=
  show ObjOk P w H h a (.dK kvs) from rd_of ok e
theorem dk_of {kvs:List (Key × V)} (ok:HOk P w H h) (e:H a = some (.dK kvs)):kvs.length ≤ sizeLine ∧ (a == sysModules) = false ∧ ∃ vs,KV kvs vs ∧ h.DictOf (mixKind P w) a vs:=dk_rd ok (.inl e)
theorem key_of {ks:List Key} (ok:HOk P w H h) (e:H a = some (.tup (ks.map kV))):(tupleKind (mixKind P w)).is h ks a:=by
  obtain ⟨_,its,r,o,h1,h2,n,h3⟩:=(show ObjOk P w H h a (.tup (ks.map kV)) from ok a _ e)
  exact ⟨o,its.toArray,n,h1,h2,h3,by simpa using items_are r⟩
theorem dt_rd {kvs:List (List Key × V)} (ok:HOk P w H h) (e:Rd H a (.dT kvs)):kvs.length ≤ sizeLine ∧ (a == sysModules) = false ∧
    ∃ xs,KT H kvs xs ∧ h.DictOfH (tupleKind (mixKind P w)) a xs:=by
  obtain ⟨z,y,xs,r,o,es,ep,h1,h2,h3,h4,h5⟩:=(show ObjOk P w H h a (.dT kvs) from rd_of ok e)
  refine ⟨z,y,xs,r,o,es,ep,h1,h2,h3,h4,fun x hx => ?_,h5⟩
  have all:∀ {l:List (List Key × V)} {m:List (List Key × Addr × Value)},KT H l m → ∀ x ∈ m,(tupleKind (mixKind P w)).is h x.1 x.2.1:=by
    intro l m q
    induction q with
    | nil => intro x hx; exact nomatch hx
    | @cons p q ps qs hq t ih =>
      intro x hx
      rcases List.mem_cons.mp hx with e | hx
      · subst e
        exact key_of ok (by rw [← hq.1]; exact hq.2.1)
      · exact ih x hx
  exact all r x hx
theorem dt_of {kvs:List (List Key × V)} (ok:HOk P w H h) (e:H a = some (.dT kvs)):kvs.length ≤ sizeLine ∧ (a == sysModules) = false ∧
    ∃ xs,KT H kvs xs ∧ h.DictOfH (tupleKind (mixKind P w)) a xs:=dt_rd ok (.inl e)
end
noncomputable def DGet (H:Hp) (a:Addr) (y:V) (r:Option V):Prop :=
  (∃ kvs k,Rd H a (.dK kvs) ∧ y = kV k ∧ r = valV kvs k) ∨ ∃ kvs k b,Rd H a (.dT kvs) ∧ y = .ref b ∧ H b = some (.tup (k.map kV)) ∧ r = valV kvs k
noncomputable def DPut (H:Hp) (a:Addr) (y v:V) (H':Hp):Prop :=
  (∃ kvs k,H a = some (.dK kvs) ∧ y = kV k ∧ kvs.length < sizeLine ∧ H' = upd H a (.dK (putK kvs k v))) ∨
  ∃ kvs k b,H a = some (.dT kvs) ∧ y = .ref b ∧ H b = some (.tup (k.map kV)) ∧ kvs.length < sizeLine ∧ H' = upd H a (.dT (putK kvs k v))
theorem DGet.k {H:Hp} {a:Addr} {kvs:List (Key × V)} {k:Key} (e:H a = some (.dK kvs)):DGet H a (kV k) (valV kvs k):=.inl ⟨kvs,k,.inl e,rfl,rfl⟩
theorem DPut.k {H:Hp} {a:Addr} {kvs:List (Key × V)} {k:Key} {v:V} (e:H a = some (.dK kvs)) (hl:kvs.length < sizeLine):DPut H a (kV k) v (upd H a (.dK (putK kvs k v))):=.inl ⟨kvs,k,e,rfl,hl,rfl⟩
section
variable {X:Cx} {pins:List (Addr × Obj)} {σ:St} {H:Hp} {s:Shared} {a:Addr} {y v:V} {u r:Value} {o:Option V} {A:Around} {E:Value → Shared → Prop}
theorem Inv.big (I:Inv X pins σ H s):sysModules < s.heap.objs.size:=by
  have h:mainGlobals < s.heap.objs.size:=(I.mod.glob.keeps I.bk).lt
  exact Nat.lt_trans (by decide) h
theorem d_getItem {Q:Value → Shared → Prop} (hu:A.units + 1 < cLine) (I:Inv X pins σ H s) (g:DGet H a y (some v)) (ry:RelV y u) (h:∀ w' s',Inv X pins σ H s' → RelV v w' → Q w' s') :
    wpAny (model X.prog X.w) A (getItem (.ref a) u) Q E s:=by
  rcases g with ⟨kvs,k,e,ey,l⟩ | ⟨kvs,k,b,e,ey,eb,l⟩
  · subst ey
    obtain ⟨z,hd,vs,rel,dd⟩:=dk_rd I.hok e
    obtain ⟨w',hw,rw'⟩:=RelO.some_of (v:=v) (o:=valueAt vs k) (by rw [l]; exact rel.val k)
    exact wpAny_getItem_of (kV_is ry) dd.mapOf hw (h w' _ (I.tok _) rw')
  · subst ey
    cases (show u = Value.ref b from ry)
    obtain ⟨z,hd,xs,rel,dd⟩:=dt_rd I.hok e
    obtain ⟨w',hw,rw'⟩:=RelO.some_of (v:=v) (o:=(atKey xs k).map (·.2)) (by rw [l]; exact rel.val k)
    obtain ⟨p,hp,hp2⟩:=Option.map_eq_some_iff.mp hw
    refine wpAny_getItem_heap (tupleKind_room_in1 hu) (key_of I.hok eb) dd hp ?_
    rw [hp2]
    exact h w' _ (I.tok _) rw'
theorem d_write {h':Heap} {t':Nat} {ob:HO} (I:Inv X pins σ H s) (mu:Mut (H a)) (hs:Heap.SameBut a s.heap h') (he:∃ q,h'.get? a = some q) (new:ObjOk X.prog X.w (upd H a ob) h' a ob) :
    Inv X pins σ (upd H a ob) { s with heap:=h',toks:=t' } :=
  I.write (x:=a) (e:=a) mu (.inl rfl) (fun b q hb z => (hs.2 b hb).trans z) he new
theorem dk_new {P:Program} {w:World} {H':Hp} {h':Heap} {kvs:List (Key × V)} {vs:List (Key × Value)} (z:kvs.length ≤ sizeLine) (hd:(a == sysModules) = false) (rel:KV kvs vs) (dd:h'.DictOf (mixKind P w) a vs) :
    ObjOk P w H' h' a (.dK kvs):=⟨z,hd,vs,rel,dd⟩
theorem d_setItem {H':Hp} {Q:Unit → Shared → Prop} (hu:A.units + 1 < cLine) (I:Inv X pins σ H s) (g:DPut H a y v H') (ry:RelV y u) (rv:RelV v r) (h:∀ s',Inv X pins σ H' s' → Q () s') :
    wpAny (model X.prog X.w) A (setItem (.ref a) u r) Q E s:=by
  rcases g with ⟨kvs,k,e,ey,l,eH⟩ | ⟨kvs,k,b,e,ey,eb,l,eH⟩
  · subst ey eH
    obtain ⟨z,hd,vs,rel,dd⟩:=dk_of I.hok e
    have hz:vs.length ≤ sizeLine:=by rw [← rel.length]; exact z
    have hl:(putK kvs k v).length ≤ sizeLine:=by have:=length_putK kvs k v; omega
    refine wpAny_setItem_pairs (hsz:=hz) (kV_is ry) dd fun h' dd' hs => h _ ?_
    have he:∃ q,h'.get? a = some q:=let ⟨q,_,_,hq,_⟩:=dd'; ⟨q,hq⟩
    exact d_write I (by rw [e]; exact True.intro) hs he (dk_new hl hd (rel.put k rv) dd')
  · subst ey eH
    cases (show u = Value.ref b from ry)
    obtain ⟨z,hd,xs,rel,dd⟩:=dt_of I.hok e
    have hz:xs.length ≤ sizeLine:=by rw [← Paired.length rel]; exact z
    have hl:(putK kvs k v).length ≤ sizeLine:=by have:=length_putK kvs k v; omega
    refine wpAny_setItem_heap (hsz:=hz) (tupleKind_room_in1 hu) (key_of I.hok eb) dd fun h' dd' hs => h _ ?_
    obtain ⟨q,es,ep,hq,h2,h3,h4,_,h5⟩:=dd'
    refine d_write I (by rw [e]; exact True.intro) hs ⟨q,hq⟩ ⟨hl,hd,_,(rel.put k eb rv).keeps fun c ys ec => ?_,q,es,ep,hq,h2,h3,h4,h5⟩
    rw [upd_ne (ne_of ec e (fun z => nomatch z))]
    exact ec
end
section
variable {X:Cx} {pins:List (Addr × Obj)} {σ:St} {H:Hp} {s:Shared} {a:Addr} {kvs:List (Key × V)} {k:Key} {u:Value} {A:Around} {E:Value → Shared → Prop}
theorem d_truth {Q:Bool → Shared → Prop} (I:Inv X pins σ H s) (e:Rd H a (.dK kvs)) (h:∀ s',Inv X pins σ H s' → Q (!kvs.isEmpty) s'):wpAny (model X.prog X.w) A (truthy (.ref a)) Q E s:=by
  obtain ⟨z,hd,vs,rel,dd⟩:=dk_rd I.hok e
  refine wpAny_truthy_dict hd dd (by rw [← rel.length]; rw [sizeLine_eq] at z; omega) ?_
  have q:kvs.isEmpty = vs.isEmpty:=by cases rel <;> rfl
  rw [← q]
  exact h _ (I.tok _)
end
noncomputable def NoSl (i:Expr):Prop:=∀ ov iv,subscripted i false ov iv = operate [ov,iv] (getItem ov iv)
theorem subD_of {prog:Program} {w:World} {A:Around} {E:Value → Shared → Prop} {s:Shared} {env:Env} {value slice:Expr} {pos:Pos} {T id:String} {Q:Value → Shared → Prop}
    (hl:typeLookup (.type T) "__getitem__" = pure (some (.builtin id))) (hs:NoSl slice)
    (h:wpAny (model prog w) A (eval value env) (fun o s₁ => wpAny (model prog w) A (eval slice env) (fun i s₂ => s₂.TypeIs o T ∧ wpAny (model prog w) A (getItem o i) Q E s₂) E s₁) E s) :
    wpAny (model prog w) A (eval (.Subscript value slice pos) env) Q E s:=by
  refine Subscript_ (wpAny_mono h (fun o s₁ h₁ => wpAny_mono h₁ (fun i s₂ h₂ => ?_) fun _ _ x => x) fun _ _ x => x)
  obtain ⟨hT,h₂⟩:=h₂
  unfold subscriptTail
  refine wpAny_bind ?_
  rw [getitemInPython_of_ne hT.not_modules]
  refine wpAny_bind (wpAny_specialOf hT hl ?_)
  have fin:wpAny (model prog w) A (subscripted slice false o i) (fun r s₃ => wpAny (model prog w) A (letTemporaryGo value o r >>= fun _ => pure r) Q E s₃) E s₂:=by
    rw [hs o i]
    exact wpAny_operating (wpAny_mono h₂ (fun r s₃ h₃ => wpAny_bind (wpAny_letTemporaryGo (wpAny_pure h₃))) fun _ _ x => x)
  first
    | exact wpAny_pure (wpAny_bind fin)
    | exact wpAny_bind (wpAny_pure (wpAny_bind fin))
    | exact wpAny_bind fin
theorem dict_typeIs {X:Cx} {pins:List (Addr × Obj)} {σ:St} {H:Hp} {s:Shared} {a:Addr} {y:V} {o:Option V} (I:Inv X pins σ H s) (g:DGet H a y o):s.TypeIs (.ref a) "dict":=by
  rcases g with ⟨kvs,k,e,_,_⟩ | ⟨kvs,k,b,e,_,_,_⟩
  · obtain ⟨_,_,vs,_,dd⟩:=dk_rd I.hok e
    exact dd.typeIs
  · obtain ⟨_,_,xs,_,dd⟩:=dt_rd I.hok e
    exact dd.typeIs
noncomputable def tDGet (td ty:TE):TE:=fun σ H Q => td σ H fun x H1 => ty σ H1 fun y H2 => ∃ a v,x = .ref a ∧ DGet H2 a y (some v) ∧ Q v H2
noncomputable def sDPut (td ty tv:TE):TS:=fun D σ H => tv σ H fun v H1 => td σ H1 fun x H2 => ty σ H2 fun y H3 => ∃ a H4,x = .ref a ∧ DPut H3 a y v H4 ∧ D.nx σ H4
section
variable {X:Cx} {o i e value:Expr} {pos pos' tpos:Pos} {td ty tv:TE}
theorem pe_dget (hu:X.A.units + 1 < cLine) (ho:PE X o td) (hi:PE X i ty) (hs:NoSl i):PE X (.Subscript o i pos) (tDGet td ty):=by
  intro pins s σ H Q I h
  refine subD_of PySem.F.slot_dict_getitem.lookup hs (thn (ho pins s σ H _ I h) fun u s1 ⟨x,H1,I1,rx,q1⟩ => thn (hi pins s1 σ H1 _ I1 q1) fun iv s2 ⟨y,H2,I2,ry,a,v,ex,g,q2⟩ => ?_)
  subst ex
  obtain rfl:u = Value.ref a:=rx
  exact ⟨dict_typeIs I2 g,d_getItem hu I2 g ry fun w' s3 I3 rw' => ⟨v,H2,I3,rw',q2⟩⟩
theorem ps_dput (hu:X.A.units + 1 < cLine) (ho:PE X o td) (hi:PE X i ty) (hv:PE X value tv) (hs:swapsWith value (some (.Subscript o i pos')) pos.line X.env = pure false) :
    PS X (.Assign [.Subscript o i pos'] value pos) (sDPut td ty tv):=by
  intro pins s σ H D I h
  refine wpAny_Assign_Subscript (thn (hv pins s σ H _ I h) fun r s1 ⟨v,H1,I1,rv,q1⟩ => thn (ho pins s1 σ H1 _ I1 q1) fun u s2 ⟨x,H2,I2,rx,q2⟩ => thn (hi pins s2 σ H2 _ I2 q2) fun iv s3 ⟨y,H3,I3,ry,a,H4,ex,g,q3⟩ => ?_) hs
  subst ex
  obtain rfl:u = Value.ref a:=rx
  exact d_setItem hu I3 g ry rv fun s4 I4 => ⟨σ,H4,I4,q3⟩
end
theorem dk_empty {P:Program} {w:World} {H:Hp} (h:Heap) (hb:sysModules < h.objs.size):ObjOk P w H (h.push { cls:=.type "dict",data:=.dict #[] }) h.objs.size (.dK []) :=
  ⟨Nat.zero_le _,beq_eq_false_iff_ne.mpr (Ne.symm (Nat.ne_of_lt hb)),[],.nil,Heap.DictOf.new h⟩
section
variable {X:Cx} {pos:Pos}
end
noncomputable def tPairs:List (TE × TE) → St → Hp → (List (V × V) → Hp → Prop) → Prop
  | [],_,H,Q => Q [] H
  | (tk,tv) :: r,σ,H,Q => tk σ H fun x H1 => tv σ H1 fun y H2 => tPairs r σ H2 fun ps H3 => Q ((x,y) :: ps) H3
noncomputable abbrev VV:List (V × V) → List (Value × Value) → Prop:=Paired fun p q => RelV p.1 q.1 ∧ RelV p.2 q.2
noncomputable def PPs (X:Cx) (pos:Pos) (keys:List (Option Expr)) (values:List Expr) (trs:List (TE × TE)):Prop :=
  ∀ (pins:List (Addr × Obj)) (s:Shared) (σ:St) (H:Hp) (Q:List (V × V) → Hp → Prop),Inv X pins σ H s → tPairs trs σ H Q →
    wpAny (model X.prog X.w) X.A (evalPairs (pairTrees keys values X.env pos)) (fun vs s' => ∃ ps H',Inv X pins σ H' s' ∧ VV ps vs ∧ Q ps H') X.xe s
theorem pps_nil {X:Cx} {pos:Pos}:PPs X pos [] [] []:=fun pins s σ H Q I h => pairTrees_nil_walk ⟨[],H,I,.nil,h⟩
theorem pps_cons {X:Cx} {pos:Pos} {k v:Expr} {ks:List (Option Expr)} {vs:List Expr} {tk tv:TE} {trs:List (TE × TE)} (hk:PE X k tk) (hv:PE X v tv) (hr:PPs X pos ks vs trs) :
    PPs X pos (some k :: ks) (v :: vs) ((tk,tv) :: trs):=fun pins s σ H Q I h =>
  pairTrees_cons_walk (thn (hk pins s σ H _ I h) fun u s1 ⟨x,H1,I1,rx,q1⟩ => thn (hv pins s1 σ H1 _ I1 q1) fun w2 s2 ⟨y,H2,I2,ry,q2⟩ =>
    thn (hr pins s2 σ H2 _ I2 q2) fun ws s3 ⟨ps,H3,I3,rel,q3⟩ => ⟨(x,y) :: ps,H3,I3,.cons ⟨rx,ry⟩ rel,q3⟩)
noncomputable def mergeK (kvs more:List (Key × V)):List (Key × V):=more.foldl (fun acc kv => putK acc kv.1 kv.2) kvs
theorem KV.merge:∀ {more:List (Key × V)} {rs:List (Key × Value)} {kvs:List (Key × V)} {vs:List (Key × Value)},KV more rs → KV kvs vs → KV (mergeK kvs more) (merged vs rs):=by
  intro more rs kvs vs r
  unfold KV at r
  induction r generalizing kvs vs with
  | nil => intro q; exact q
  | @cons p q ps qs h t ih =>
    intro r0
    have e:KV (putK kvs p.1 p.2) (stored vs q.1 q.2):=by
      have:=r0.put p.1 h.2
      rw [← h.1]; exact this
    exact ih e
theorem length_mergeK:∀ (more kvs:List (Key × V)),(mergeK kvs more).length ≤ kvs.length + more.length
  | [],kvs => by show kvs.length ≤ kvs.length + 0; omega
  | p :: r,kvs => by
    have h1:=length_mergeK r (putK kvs p.1 p.2)
    have h2:=length_putK kvs p.1 p.2
    show (mergeK (putK kvs p.1 p.2) r).length ≤ _
    rw [List.length_cons]; omega
theorem carries_of {P:Program} {w:World}:∀ {kvs:List (Key × V)} {ws:List (Value × Value)},VV (kvs.map fun kv => (kV kv.1,kv.2)) ws → ∃ rs,Carries (mixKind P w) ws rs ∧ KV kvs rs
  | [],_,r => by rw [List.map_nil] at r; cases r; exact ⟨[],True.intro,.nil⟩
  | p :: kvs,_,r => by
    rw [List.map_cons] at r
    cases r with
    | @cons a b as bs h t =>
      obtain ⟨rs,c,q⟩:=carries_of (P:=P) (w:=w) t
      obtain ⟨b1,b2⟩:=b
      exact ⟨(p.1,b2) :: rs,⟨kV_is h.1,rfl,c⟩,.cons ⟨rfl,h.2⟩ q⟩
noncomputable def tDisp (trs:List (TE × TE)):TE:=fun σ H Q => ∀ p,H p = none → tPairs trs σ (upd H p (.dK [])) fun ps H2 => H2 p = some (.dK []) ∧ ∃ kvs:List (Key × V),ps = kvs.map (fun kv => (kV kv.1,kv.2)) ∧ kvs.length ≤ 15 ∧ Q (.ref p) (upd H2 p (.dK (mergeK [] kvs)))
theorem pe_disp {X:Cx} {pos:Pos} {keys:List (Option Expr)} {values:List Expr} {trs:List (TE × TE)} (h:PPs X pos keys values trs) (hall:keys.all (·.isSome) = true) (hl:keys.length = values.length) (h0:keys ≠ [])
    (h15:keys.length ≤ 15):PE X (.Dict keys values pos) (tDisp trs):=by
  intro pins s σ H Q I q
  have hn:=I.hok.fresh (Nat.le_refl s.heap.objs.size)
  have I1:=I.laid (a:=s.heap.objs.size) (o:=.dK []) (h':=s.heap.push { cls:=.type "dict",data:=.dict #[] }) (t':=s.toks) (fun _ _ q => Heap.get?_push_of_some _ q) (Nat.le_refl _) (dk_empty s.heap I.big)
  refine wpAny_Dict_walk (knd:=mixKind X.prog X.w) hall hl h0 h15 (thn (h pins _ σ _ _ I1 (q _ hn)) fun ws s2 ⟨ps,H2,I2,rel,e,kvs,ep,lk,q2⟩ => ?_)
  subst ep
  obtain ⟨rs,c,rk⟩:=carries_of (P:=X.prog) (w:=X.w) rel
  obtain ⟨z,hd,vs0,r0,dd⟩:=dk_of I2.hok e
  cases r0
  refine ⟨rs,c,dd,fun h' dd' hs => ⟨.ref s.heap.objs.size,_,?_,rfl,q2⟩⟩
  have hz:(mergeK [] kvs).length ≤ sizeLine:=by
    have h1:=length_mergeK kvs []
    rw [List.length_nil] at h1
    rw [sizeLine_eq]; omega
  have he:∃ q,h'.get? s.heap.objs.size = some q:=let ⟨q,_,_,hq,_⟩:=dd'; ⟨q,hq⟩
  exact d_write I2 (by rw [e]; exact True.intro) hs he (dk_new hz hd (rk.merge .nil) dd')
section
variable {X:Cx} {pins:List (Addr × Obj)} {σ:St} {H:Hp} {s:Shared} {a:Addr} {y d:V} {u r:Value} {o:Option V} {A:Around} {E:Value → Shared → Prop}
end
section
variable {X:Cx} {o e f:Expr} {apos cpos:Pos} {td ty tx:TE}
end
section
variable {X:Cx} {pins:List (Addr × Obj)} {σ:St} {H:Hp} {s:Shared} {a:Addr} {kvs:List (Key × V)} {A:Around} {E:Value → Shared → Prop}
end
section
variable {X:Cx} {pins:List (Addr × Obj)} {σ:St} {H:Hp} {s:Shared} {a:Addr} {y:V} {u:Value} {A:Around} {E:Value → Shared → Prop}
end
end L2
namespace Att
open PySem PySem.W PySem.Calls PyProof.Rows
theorem ints_of_wellAll {P:Params} {h:Heap}:∀ (ns:List Int) (vs:List Value),WellAll P h vs (ns.map WData.int) → IntsAre vs ns:=by
  intro ns
  induction ns with
  | nil =>
    intro vs w
    rw [List.map_nil] at w
    cases w
    exact .nil
  | cons n ns ih =>
    intro vs w
    rw [List.map_cons] at w
    cases w with
    | cons a b =>
      cases a
      exact .cons _ _ (ih _ b)
theorem script_of {l:OpenLaw} {n:Nat} (hn:l.most = some n) {P:Params} {h:Heap} {args:List WData} {vals:List Value}
    (hpre:l.row.toRowW.claim.pre args = true) (hwl:WellAll P h vals args) :
    ∃ a vs ns,vals = [Value.ref a] ∧ args = [WData.list (ns.map WData.int)] ∧ h.get? a = some { cls:=.type "list",data:=.seq vs.toArray } ∧ IntsAre vs ns ∧ ns.length ≤ n:=by
  have hsh:WShape.hasAll [] args [.list .int] = true:=(pre_splitW hpre).1
  have hc:l.pre.holds [] { args:=args } = true:=(pre_splitW hpre).2
  obtain ⟨d,r,rfl,h1,h2⟩:=hasAllW_cons hsh
  obtain rfl:=hasAllW_nil h2
  obtain ⟨xs,rfl,h3⟩:=hasW_list h1
  obtain ⟨ns,rfl⟩:=items_int h3
  have hlen:ns.length ≤ n:=by
    unfold OpenLaw.pre at hc
    have h4:(WTm.not (.lt (.lit (.int (n:Int))) (.len (.arg 0)))).holds [] { args:=[.list (ns.map .int)] } = true:=by
      have h4:=(holds_andW hc).1
      rw [hn] at h4
      exact h4
    have h5:=condW_of h4 (w_not (w_lt w_lit (w_len_list (w_arg rfl))))
    rw [List.length_map] at h5
    refine Nat.le_of_not_lt fun q => ?_
    have q':(n:Int) < ((ns.length:Nat):Int):=by omega
    first
      | (rw [decide_eq_true q'] at h5; exact absurd h5 (by decide))
      | (simp at h5; omega)
  cases hwl with
  | cons w1 w2 =>
    cases w2
    cases w1 with
    | list ho hall => exact ⟨_,_,ns,rfl,rfl,ho,ints_of_wellAll ns _ hall,hlen⟩
theorem post_true (l:OpenLaw) (args:List WData):l.row.toRowW.claim.post args (.bool true) args = true :=
  postW_of (r:=l.row.toRowW) (X:=(true == true))
    (show WShape.has [] (.bool true) .bool = true by first | rfl | decide | simp [WShape.has,WShape.arms,WShape.armsAll])
    (show (WTm.eq .res (.lit (.bool true))).value [] { args:=args,res:=some (.bool true),after:=args } = some (.bool (true == true)) from w_eq_bool (w_res rfl) w_lit) rfl
theorem attach_call {l:OpenLaw} {n:Nat} {q:Program} {loose:List Str} {XP:(Str → Option Value) → Heap → Prop} {YP:World → Heap → Prop} {d:DefRec}
    (hn:l.most = some n) (hdf:d.params.defaults = [])
    (call:∀ (w:World) (s₀ s₁:Shared) (mg mb:Str → Option Value) (fa:Addr) (o:Obj) (pm cd doc:Value) (a:Addr) (vs:List Value) (ns:List Int),
      Ground q loose [] XP w s₀ mg mb s₁.heap → YP w s₁.heap →
      s₁.heap.get? fa = some o → o.data = .func (docDef d.name d.params d.body d.scope pm cd doc) → s₁.heap.CodeRec cd d.name → mg d.name = some (.ref fa) →
      s₁.heap.get? a = some { cls:=.type "list",data:=.seq vs.toArray } → IntsAre vs ns → ns.length ≤ n → s₁.gens = #[] →
      codeAny (model l.prog w) callerA (.call (.ref fa) ⟨[.ref a],[]⟩) (fun r s' => r = .ok (.ret (.bool true)) ∧ OldK s₁.heap s'.heap ∧ s'.os = s₁.os ∧ AllBare s'.gens) s₁) :
    WalkO q loose XP YP l.row.toRowW d [] (fun f vs => PySem.call f vs):=by
  intro w s₀ s₁ mg mb G Y fa o pm cd doc dV kV ho hd hcd hD hmg hg args vals as hpre hlay hrd hwl hlo
  obtain rfl:dV = .none:=Dflts.none hD hdf
  obtain rfl:kV = .none:=Dflts.noKw hD
  obtain ⟨a,vs,ns,rfl,rfl,hobj,hints,hlen⟩:=script_of hn hpre hwl
  refine enter_call (codeAny_mono (call w s₀ s₁ mg mb fa o pm cd doc a vs ns G Y ho (fd_plain hd) hcd hmg hobj hints hlen hg) fun r s' hq => ?_)
  obtain ⟨rfl,h2,h3,h4⟩:=hq
  exact ⟨.inl ⟨.bool true,.bool true,[],rfl,fun _ => rfl,.bool true,post_true l _,fun _ => ⟨List.Pairwise.nil,fun _ hm => (nomatch hm)⟩⟩,h2,h3,h4⟩
section
variable {prog:Program} {w:World} {A:Around} {E:Value → Shared → Prop} {s:Shared} {K:Frag}
end
end Att
namespace L2
open PySem PySem.Spec PyProof.Rows
theorem vals_ints:∀ {vs:List Value} {ns:List Int},IntsAre vs ns → Vals (ns.map V.int) vs
  | _,_,.nil => .nil
  | _,_,.cons n t h => .cons ⟨t,rfl⟩ (vals_ints h)
noncomputable def Only (H:Hp):Prop:=∀ b,H b = none ∨ ∃ o xs,H b = some (.frz o (.lst xs))
theorem law_call {P:Program} {w:World} {K:PySem.W.Frag} {mg mb:Str → Option Value} {CX:CXT} {k:Nat} {fa a:Addr} {fd:FuncData} {x:Str} {sp:Sp} {s₁:Shared} {vs:List Value} {ns:List Int}
    (KX:K.In s₁.heap) (hns:s₁.heap.Ns mainGlobals mg) (hb:s₁.heap.Ns builtinsNs mb) (hbb:∀ x:Str,x ≠ "__name__" → mb x = bootBuiltins x) (hlim:s₁.heap.NoLimit) (hg:s₁.gens = #[])
    (ha:s₁.heap.get? a = some { cls:=.type "list",data:=.seq vs.toArray }) (hi:IntsAre vs ns) (hl:ns.length ≤ sizeLine) (hr:Room k callerA)
    (F:∀ base:Heap,K.In base → base.Ns mainGlobals mg → FnOk P w K mg base CX k fa fd [x] sp) (hbind:∀ (s:Shared) (u:Value),BindsTo s fd ⟨[u],[]⟩ [(x,u)])
    (hsp:∀ H:Hp,Only H → SqL K H a (ns.map V.int) → sp [.ref a] H (fun v _ => v = .bl true) fun _ _ _ => False)
    (hCX:∀ H e s',CX [] H s₁ (fun _ _ _ => False) e s' → False) :
    codeAny (model P w) callerA (.call (.ref fa) ⟨[.ref a],[]⟩) (fun r s' => r = .ok (.ret (.bool true)) ∧ OldK s₁.heap s'.heap ∧ s'.os = s₁.os ∧ AllBare s'.gens) s₁:=by
  have rv:=vals_ints hi
  have lenV:=hi.length
  have core:∀ H:Hp,Only H → SqL K H a (ns.map V.int) → HOk P w H s₁.heap → (∀ b,H b ≠ none → b = a) → (H a ≠ none → K.lookup a = none) →
      codeAny (model P w) callerA (.call (.ref fa) ⟨[.ref a],[]⟩) (fun r s' => r = .ok (.ret (.bool true)) ∧ OldK s₁.heap s'.heap ∧ s'.os = s₁.os ∧ AllBare s'.gens) s₁:=by
    intro H hO hS hok hA hK
    have base_of:∀ {b:Addr} {o:Obj},s₁.heap.get? b = some o → H b = none → (hidT s₁.heap H).get? b = some o:=fun e n => hidT_get e n
    have noA:∀ {b:Addr} {o:Obj} {es:Array DictEntry} {ep:Nat},s₁.heap.get? b = some o → o.data = .dict es ep → H b = none:=fun {b o es ep} e d => by
      cases q:H b with
      | none => rfl
      | some u =>
        have e':b = a:=hA b (by rw [q]; simp)
        subst e'
        rw [ha] at e; cases e
        have d':Data.seq vs.toArray _ = Data.dict es ep:=d
        cases d'
    have nsK:∀ {b:Addr} {m:Str → Option Value},s₁.heap.Ns b m → (hidT s₁.heap H).Ns b m:=fun {b m} ⟨o,es,ep,e,d,r⟩ => ⟨o,es,ep,base_of e (noA e d),d,r⟩
    have hKb:K.In (hidT s₁.heap H):=fun b o e => base_of (KX b o e) (by
      cases q:H b with
      | none => rfl
      | some u =>
        have e':b = a:=hA b (by rw [q]; simp)
        subst e'
        rw [hK (by rw [q]; simp)] at e; cases e)
    have hM:Mod K mg (hidT s₁.heap H):=⟨hKb,nsK hns,⟨mb,nsK hb,hbb⟩,let ⟨mc,h1,h2⟩:=hlim; ⟨mc,nsK h1,h2⟩⟩
    have e0:Env0 P w K mg (hidT s₁.heap H) callerA [] s₁ H:=⟨rfl,hM,fun b o e => of_hidT e,Nat.le_of_eq (hidT_size _ _),trivial,fun b hb => absurd (show b ∈ ([]:List Addr) from hb) (by simp),hok,.of_eq hg⟩
    refine codeAny_mono ((F _ hKb (nsK hns)).run callerA [] s₁ H ⟨[.ref a],[]⟩ [.ref a] [.ref a] _ _ hr e0 (hbind s₁ (.ref a)) (.cons rfl .nil) (hsp H hO hS)) fun r s' h => ?_
    cases r with
    | error e => exact (hCX H e s' h).elim
    | ok fl =>
      cases fl with
      | next => exact False.elim h
      | brk => exact False.elim h
      | cont => exact False.elim h
      | ret u =>
        obtain ⟨v,H',os,bare,un,hok',r',q⟩:=h
        have q':v = .bl true:=q
        subst q'
        obtain rfl:u = Value.bool true:=r'
        refine ⟨rfl,OldK.of_keep fun b o e => ?_,os,bare⟩
        cases q:H b with
        | none => exact un.keep b o e q (by intro z; exact absurd (show b ∈ ([]:List Addr) from z) (by simp)) (by simp)
        | some u =>
          rcases hO b with z | ⟨ob,xs,z⟩
          · rw [q] at z; cases z
          · have z2:=un.frzs b ob _ z
            obtain ⟨e1,_⟩:=hok b _ z
            obtain ⟨e2,_⟩:=hok' b _ z2
            rw [e] at e1; cases e1
            exact e2
  cases hk:K.lookup a with
  | some o =>
    have e:=KX a o hk
    rw [ha] at e
    cases e
    refine core (fun _ => none) (fun _ => .inl rfl) (.inr ⟨_,vs.toArray,_,hk,rfl,rfl,rfl,by rw [List.size_toArray,lenV]; exact hl,by simpa using rv⟩) (fun b u z => by have z':(none:Option HO) = some u:=z; cases z') (fun b z => absurd rfl z) fun z => absurd rfl z
  | none =>
    refine core (fun b => if b = a then some (.frz { cls:=.type "list",data:=.seq vs.toArray } (.lst (ns.map V.int))) else none) (fun b => ?_) (.inl (.inr ⟨{ cls:=.type "list",data:=.seq vs.toArray },if_pos rfl⟩)) (fun b u z => ?_) (fun b z => ?_) fun _ => hk
    · by_cases hb:b = a
      · exact .inr ⟨_,_,if_pos hb⟩
      · exact .inl (if_neg hb)
    · by_cases hb:b = a
      · have z':=(if_pos hb).symm.trans z
        cases z'
        subst hb
        exact ⟨ha,by rw [List.length_map]; exact hl,vs,_,rv,ha⟩
      · have z':=(if_neg hb).symm.trans z
        cases z'
    · by_cases hb:b = a
      · exact hb
      · exact absurd (if_neg hb) z
end L2
namespace L2
open PySem PySem.Spec PyProof.Rows
theorem walk_of {l:PySem.W.OpenLaw} {n k:Nat} {q:Program} {loose:List Str} {XP:(Str → Option Value) → Heap → Prop} {YP:World → Heap → Prop} {d:DefRec} {K:Params → PySem.W.Frag} {CX:World → CXT} {sp:World → Sp} {x:Str}
    (hn:l.most = some n) (hn2:n ≤ sizeLine) (hdf:d.params.defaults = []) (hr:Room k callerA)
    (hY:∀ (w:World) (h:Heap),YP w h → (K w.params).In h)
    (F:∀ (w:World) (mg:Str → Option Value) (fa:Addr) (h:Heap),(K w.params).In h → h.Ns mainGlobals mg → mg d.name = some (.ref fa) →
      ∃ fd:FuncData,(∀ (s:Shared) (u:Value),BindsTo s fd ⟨[u],[]⟩ [(x,u)]) ∧
        ∀ base:Heap,(K w.params).In base → base.Ns mainGlobals mg → FnOk l.prog w (K w.params) mg base (CX w) k fa fd [x] (sp w))
    (hsp:∀ (w:World) (H:Hp) (a:Addr) (ns:List Int),ns.length ≤ n → Only H → SqL (K w.params) H a (ns.map V.int) → sp w [.ref a] H (fun v _ => v = .bl true) fun _ _ _ => False)
    (hCX:∀ (w:World) (H:Hp) (s:Shared) (e:Value) (s':Shared),CX w [] H s (fun _ _ _ => False) e s' → False) :
    PySem.W.WalkO q loose XP YP l.row.toRowW d [] (fun f vs => PySem.call f vs):=by
  refine Att.attach_call hn hdf fun w s₀ s₁ mg mb fa o pm cd doc a vs ns G Y ho hd hcd hmg hobj hints hlen hg => ?_
  have KX:=hY w _ Y
  obtain ⟨fd,hb,hF⟩:=F w mg fa _ KX G.T.g hmg
  exact law_call KX G.T.g G.T.b G.T.builtins G.T.nolimit hg hobj hints (Nat.le_trans hlen hn2) hr hF hb (fun H hO hS => hsp w H a ns hlen hO hS) fun H e s' => hCX w H s₁ e s'
end L2
namespace L2
open PySem PySem.Spec PyProof.Rows
noncomputable def defArgs (s:Stmt):Arguments:=match s with
  | .FunctionDef _ a _ _ _ _ _ _ _ _ => a
  | _ => { posonlyargs:=[],args:=[],vararg:=none,kwonlyargs:=[],kw_defaults:=[],kwarg:=none,defaults:=[] }
noncomputable def defBody (s:Stmt):List Stmt:=match s with
  | .FunctionDef _ _ b _ _ _ _ _ _ _ => b
  | _ => []
noncomputable def defScope (s:Stmt):Scope:=match s with
  | .FunctionDef _ _ _ _ _ _ sc _ _ _ => sc
  | _ => { kind:=.function,names:=[],isGenerator:=false,isCoroutine:=false }
noncomputable abbrev CX0:CXT:=fun _ _ _ _ _ _ => False
noncomputable abbrev E0:XK:=fun _ _ _ => False
theorem pass0 {X:Cx}:Passes CX0 X E0:=fun _ _ _ _ _ _ _ h => h.elim
structure Fun (K:PySem.W.Frag) (x qual:Str) (st:Stmt) (f:Addr) (fd:FuncData):Prop where
  ex:∃ (oc:Value) (od:Option Addr) (kV doc pm:Value) (an:Option Addr) (cdv ct:Value) (osl:Array (Option Value)),
    fd = PySem.W.fnOf x qual (defArgs st) (defBody st) (defScope st) .none kV doc pm an cdv ct ∧ K.lookup f = some ⟨oc,od,.func fd,osl⟩ ∧ PySem.W.codeIn K cdv qual = true
  kp:PySem.W.keepIn K (.ref f) = true
section
variable {P:Program} {w:World} {K:PySem.W.Frag} {mg:Str → Option Value} {base:Heap}
theorem Fun.ok {x qual:Str} {st:Stmt} {f:Addr} {fd:FuncData} {N ps:List Str} {k:Nat} {sp:Sp} (F:Fun K x qual st f fd) (S:FnScope N ps (defScope st)) (len:∀ vs H Q E,sp vs H Q E → vs.length = ps.length)
    (hbody:∀ (cdv:Value) (A:Around) (outer:List Env) (s:Shared) (H:Hp) (vs:List V) (Q:VK) (E:XK),Room k (A.deeper (envOfC qual (defScope st) s.heap.objs.size f cdv)) → sp vs H Q E →
      ∃ t,PSs (cxOf CX0 P w K mg base N qual (defScope st) f cdv A outer s H E).nox (defBody st) t ∧ t { nx:=fun _ H' => Q .non H',rt:=Q } (start N vs) H):FnOk P w K mg base CX0 (k + 1) f fd ps sp:=by
  obtain ⟨oc,od,kV,doc,pm,an,cdv,ct,osl,rfl,lk,hcd⟩:=F.ex
  refine fn_of lk hcd S len fun A outer s H vs Q E hr hsp => ?_
  obtain ⟨t,h,q⟩:=hbody cdv A outer s H vs Q E hr hsp
  exact ⟨t,h.nox,q⟩
theorem fun_mk {x qual:Str} {st:Stmt} {f:Addr} {oc:Value} {od an:Option Addr} {osl:Array (Option Value)} {kV doc pm cdv ct:Value} (l:K.lookup f = some ⟨oc,od,.func (PySem.W.fnOf x qual (defArgs st) (defBody st) (defScope st) .none kV doc pm an cdv ct),osl⟩)
    (c:PySem.W.codeIn K cdv qual = true) (k:PySem.W.keepIn K (.ref f) = true):Fun K x qual st f (PySem.W.fnOf x qual (defArgs st) (defBody st) (defScope st) .none kV doc pm an cdv ct):=⟨⟨oc,od,kV,doc,pm,an,cdv,ct,osl,rfl,l,c⟩,k⟩
end
section
variable {X:Cx}
theorem pv (i:Nat) {x:Str} {pos:Pos} (hN:X.N[i]? = some x:=by rfl) (hv:Vis X.env.scope x:=by first | exact Or.inl rfl | exact Or.inr (Or.inl rfl) | exact Or.inr (Or.inr rfl)) (hd:(x == ("__debug__":Str)) = false:=by decide)
    (hcd:(x == ("__classdict__":Str)) = false:=by decide):PE X (.Name x pos) (tVar i):=pe_var hN hv hd hcd
end
noncomputable def Same (H H':Hp):Prop:=∀ b o,H b = some o → H' b = some o
theorem Same.refl (H:Hp):Same H H:=fun _ _ h => h
theorem Same.trans {H H1 H2:Hp} (a:Same H H1) (b:Same H1 H2):Same H H2:=fun c o h => b c o (a c o h)
theorem Same.seq {K:PySem.W.Frag} {H H':Hp} {a:Addr} {xs:List V} (e:Same H H') (h:SqL K H a xs):SqL K H' a xs:=by
  rcases h with (h | ⟨o,h⟩) | h
  · exact .inl (.inl (e _ _ h))
  · exact .inl (.inr ⟨o,e _ _ h⟩)
  · exact .inr h
end L2
set_option Elab.async false
set_option linter.all false
set_option maxRecDepth 100000
set_option maxHeartbeats 4000000
namespace M
open PySem PySem.Spec PyProof.Rows L2
noncomputable abbrev DK:=Sum Int (List Nat)
inductive D where
  | non | bl (b:Bool) | int (i:Int) | str (x:List Nat) | tup (xs:List D) | lst (xs:List D) | dic (ks:List DK) (vs:List D) | ref (k:Nat)
noncomputable def dk:DK → Key
  | .inl i => .inl i
  | .inr x => .inr ⟨x.toArray⟩
inductive Cell where
  | lst (ds:List D) | dic (ks:List DK) (vs:List D) | dead
  | exn (c:Str) (j:Nat) | xdc (nm:Str) (d:D) | obj (c:Str) (ns:List Str) (ds:List D)
noncomputable abbrev Mu:=List Cell
structure Exc where
  c:Nat
  d:D
inductive Res (α:Type) where
  | ok (a:α) (μ:Mu)
  | exc (x:Exc) (μ:Mu)
  | bad
noncomputable def Res.bind {α β:Type}:Res α → (α → Mu → Res β) → Res β
  | .ok a μ,f => f a μ
  | .exc x μ,_ => .exc x μ
  | .bad,_ => .bad
noncomputable def ofO {α:Type} (μ:Mu):Option α → Res α
  | some a => .ok a μ
  | none => .bad
@[simp] theorem bind_ok {α β:Type} (a:α) (μ:Mu) (f:α → Mu → Res β):(Res.ok a μ).bind f = f a μ:=rfl
@[simp] theorem bind_exc {α β:Type} (x:Exc) (μ:Mu) (f:α → Mu → Res β):(Res.exc x μ:Res α).bind f = .exc x μ:=rfl
@[simp] theorem bind_bad {α β:Type} (f:α → Mu → Res β):(Res.bad:Res α).bind f = .bad:=rfl
@[simp] theorem ofO_some {α:Type} (μ:Mu) (a:α):ofO μ (some a) = .ok a μ:=rfl
@[simp] theorem ofO_none {α:Type} (μ:Mu):ofO μ (none:Option α) = .bad:=rfl
noncomputable def deref (μ:Mu):D → D
  | .ref k => match μ[k]? with
    | some (.lst ds) => .lst ds
    | some (.dic ks vs) => .dic ks vs
    | _ => .ref k
  | d => d
@[simp] theorem deref_non (μ:Mu):deref μ .non = .non:=rfl
@[simp] theorem deref_bl (μ:Mu) (b:Bool):deref μ (.bl b) = .bl b:=rfl
@[simp] theorem deref_int (μ:Mu) (i:Int):deref μ (.int i) = .int i:=rfl
@[simp] theorem deref_str (μ:Mu) (x:List Nat):deref μ (.str x) = .str x:=rfl
@[simp] theorem deref_tup (μ:Mu) (x:List D):deref μ (.tup x) = .tup x:=rfl
@[simp] theorem deref_lst (μ:Mu) (x:List D):deref μ (.lst x) = .lst x:=rfl
@[simp] theorem deref_dic (μ:Mu) (x:List DK) (y:List D):deref μ (.dic x y) = .dic x y:=rfl
noncomputable abbrev En:=List (Option D)
noncomputable abbrev MX:=En → Mu → Res D
noncomputable abbrev MB:=En → Mu → Res Bool
noncomputable abbrev MAs:=En → Mu → Res (List D)
inductive Out where
  | nx (ρ:En) | rt (d:D) | bk (ρ:En) | ct (ρ:En)
noncomputable abbrev MSt:=En → Mu → Res Out
mutual
noncomputable def Rep (K:PySem.W.Frag) (F:Hp) (α:List Addr):D → V → Prop
  | .non,v => v = .non
  | .bl b,v => v = .bl b
  | .int i,v => v = .int i
  | .str x,v => v = .str ⟨x.toArray⟩
  | .tup ds,v => ∃ a vs,v = .ref a ∧ SqT K F a vs ∧ Reps K F α ds vs
  | .lst ds,v => ∃ a vs,v = .ref a ∧ SqL K F a vs ∧ Reps K F α ds vs
  | .dic ks ds,v => ∃ a vs,v = .ref a ∧ F a = some (.dK ((ks.map dk).zip vs)) ∧ ks.length = ds.length ∧ Reps K F α ds vs
  | .ref k,v => ∃ a,α[k]? = some a ∧ v = .ref a
noncomputable def Reps (K:PySem.W.Frag) (F:Hp) (α:List Addr):List D → List V → Prop
  | [],vs => vs = []
  | d :: ds,vs => ∃ v r,vs = v :: r ∧ Rep K F α d v ∧ Reps K F α ds r
end
structure Ext (α:List Addr) (F:Hp) (α':List Addr) (F':Hp):Prop where
  fr:Same F F'
  al:∀ (k:Nat) (a:Addr),α[k]? = some a → α'[k]? = some a
theorem Ext.refl (α:List Addr) (F:Hp):Ext α F α F:=⟨Same.refl F,fun _ _ h => h⟩
theorem Ext.trans {α α1 α2:List Addr} {F F1 F2:Hp} (a:Ext α F α1 F1) (b:Ext α1 F1 α2 F2):Ext α F α2 F2:=⟨a.fr.trans b.fr,fun k x h => b.al k x (a.al k x h)⟩
theorem Same.tup {K:PySem.W.Frag} {H H':Hp} {a:Addr} {xs:List V} (e:Same H H') (h:SqT K H a xs):SqT K H' a xs:=by
  rcases h with (h | ⟨o,h⟩) | h
  · exact .inl (.inl (e _ _ h))
  · exact .inl (.inr ⟨o,e _ _ h⟩)
  · exact .inr h
section
variable {K:PySem.W.Frag} {F F' H H':Hp} {α α':List Addr}
mutual
theorem Rep.mono (e:Ext α F α' F'):∀ {d:D} {v:V},Rep K F α d v → Rep K F' α' d v
  | .non,_,h => h
  | .bl _,_,h => h
  | .int _,_,h => h
  | .str _,_,h => h
  | .tup ds,v,h => by
    unfold Rep at h ⊢
    obtain ⟨a,vs,hv,hs,hr⟩:=h
    exact ⟨a,vs,hv,Same.tup e.fr hs,Reps.mono e hr⟩
  | .lst ds,v,h => by
    unfold Rep at h ⊢
    obtain ⟨a,vs,hv,hs,hr⟩:=h
    exact ⟨a,vs,hv,e.fr.seq hs,Reps.mono e hr⟩
  | .dic ks ds,v,h => by
    unfold Rep at h ⊢
    obtain ⟨a,vs,hv,hs,hl,hr⟩:=h
    exact ⟨a,vs,hv,e.fr _ _ hs,hl,Reps.mono e hr⟩
  | .ref k,v,h => by
    unfold Rep at h ⊢
    obtain ⟨a,ha,hv⟩:=h
    exact ⟨a,e.al k a ha,hv⟩
theorem Reps.mono (e:Ext α F α' F'):∀ {ds:List D} {vs:List V},Reps K F α ds vs → Reps K F' α' ds vs
  | [],_,h => h
  | d :: ds,vs,h => by
    unfold Reps at h ⊢
    obtain ⟨v,r,hv,h1,h2⟩:=h
    exact ⟨v,r,hv,Rep.mono e h1,Reps.mono e h2⟩
end
theorem Reps.length:∀ {ds:List D} {vs:List V},Reps K F α ds vs → ds.length = vs.length
  | [],vs,h => by unfold Reps at h; subst h; rfl
  | d :: ds,vs,h => by
    unfold Reps at h
    obtain ⟨v,r,hv,_,h2⟩:=h
    subst hv
    simp [Reps.length h2]
theorem Reps.get:∀ {ds:List D} {vs:List V} {i:Nat} {d:D},Reps K F α ds vs → ds[i]? = some d → ∃ v,vs[i]? = some v ∧ Rep K F α d v
  | [],_,_,_,_,e => by simp at e
  | d :: ds,vs,0,d',h,e => by
    unfold Reps at h
    obtain ⟨v,r,hv,h1,_⟩:=h
    subst hv
    simp at e
    subst e
    exact ⟨v,rfl,h1⟩
  | d :: ds,vs,i + 1,d',h,e => by
    unfold Reps at h
    obtain ⟨v,r,hv,_,h2⟩:=h
    subst hv
    obtain ⟨u,hu,hr⟩:=Reps.get (i:=i) (d:=d') h2 (by simpa using e)
    exact ⟨u,by simpa using hu,hr⟩
theorem Reps.append:∀ {ds es:List D} {vs us:List V},Reps K F α ds vs → Reps K F α es us → Reps K F α (ds ++ es) (vs ++ us)
  | [],_,_,_,h,h' => by unfold Reps at h; subst h; exact h'
  | d :: ds,es,vs,us,h,h' => by
    unfold Reps at h
    obtain ⟨v,r,hv,h1,h2⟩:=h
    subst hv
    show Reps K F α (d :: (ds ++ es)) (v :: (r ++ us))
    unfold Reps
    exact ⟨v,_,rfl,h1,Reps.append h2 h'⟩
theorem reps_nil:Reps K F α [] []:=by unfold Reps; rfl
theorem reps_cons {d:D} {ds:List D} {v:V} {vs:List V} (h:Rep K F α d v) (h':Reps K F α ds vs):Reps K F α (d :: ds) (v :: vs):=by unfold Reps; exact ⟨v,vs,rfl,h,h'⟩
theorem Reps.take:∀ {ds:List D} {vs:List V} (n:Nat),Reps K F α ds vs → Reps K F α (ds.take n) (vs.take n)
  | _,_,0,_ => by simp; exact reps_nil
  | [],vs,n + 1,h => by unfold Reps at h; subst h; exact reps_nil
  | d :: ds,vs,n + 1,h => by
    unfold Reps at h
    obtain ⟨v,r,hv,h1,h2⟩:=h
    subst hv
    simp only [List.take_succ_cons]
    exact reps_cons h1 (Reps.take n h2)
theorem Reps.drop:∀ {ds:List D} {vs:List V} (n:Nat),Reps K F α ds vs → Reps K F α (ds.drop n) (vs.drop n)
  | _,_,0,h => h
  | [],vs,n + 1,h => by unfold Reps at h; subst h; exact reps_nil
  | d :: ds,vs,n + 1,h => by
    unfold Reps at h
    obtain ⟨v,r,hv,h1,h2⟩:=h
    subst hv
    exact Reps.drop n h2
end
noncomputable def cA (K:PySem.W.Frag) (x:Str):Addr:=match PySem.W.nsIn K mainGlobals x with
  | some (some (.ref C)) => C
  | _ => 0
noncomputable def excP (a:Addr) (C:Value) (dx:Option Addr):Heap → Prop:=fun h => ∃ vs sl,h.get? a = some ⟨C,dx,.fields vs,sl⟩
noncomputable def CellOk (K:PySem.W.Frag) (α:List Addr) (F H:Hp) (a:Addr):Cell → Prop
  | .lst ds => F a = none ∧ ∃ vs,H a = some (.lst vs) ∧ Reps K F α ds vs
  | .dic ks ds => F a = none ∧ ∃ vs,H a = some (.dK ((ks.map dk).zip vs)) ∧ ks.length = ds.length ∧ Reps K F α ds vs
  | .dead => True
  | .exn C j => F a = none ∧ ∃ dx,α[j]? = some dx ∧ H a = some (.ext (excP a (.ref (cA K C)) (some dx)))
  | .xdc nm d => F a = none ∧ ∃ v,H a = some (.xd [(nm,v)]) ∧ Rep K F α d v
  | .obj C ns ds => F a = none ∧ ∃ dx vs,H a = some (.ins (cA K C) dx (ns.zip vs)) ∧ ns.length = ds.length ∧ Reps K F α ds vs
theorem CellOk.live {K:PySem.W.Frag} {α:List Addr} {F H:Hp} {a:Addr} {c:Cell} (h:CellOk K α F H a c) (hd:c ≠ .dead):F a = none ∧ ∃ o,H a = some o:=by
  cases c with
  | dead => exact absurd rfl hd
  | lst ds => exact ⟨h.1,let ⟨_,_,z,_⟩:=h; ⟨_,z⟩⟩
  | dic ks ds => exact ⟨h.1,let ⟨_,_,z,_⟩:=h; ⟨_,z⟩⟩
  | exn C j => exact ⟨h.1,let ⟨_,_,_,z⟩:=h; ⟨_,z⟩⟩
  | xdc nm d => exact ⟨h.1,let ⟨_,_,z,_⟩:=h; ⟨_,z⟩⟩
  | obj C ns ds => exact ⟨h.1,let ⟨_,_,_,z,_⟩:=h; ⟨_,z⟩⟩
theorem CellOk.go {K:PySem.W.Frag} {α α':List Addr} {F H F' H':Hp} {a:Addr} {c:Cell} (h:CellOk K α F H a c) (e:Ext α F α' F') (hf:c ≠ .dead → F' a = F a) (hh:c ≠ .dead → H' a = H a):CellOk K α' F' H' a c:=by
  cases c with
  | dead => trivial
  | lst ds => obtain ⟨h1,vs,h2,h3⟩:=h; exact ⟨by rw [hf (by simp)]; exact h1,vs,by rw [hh (by simp)]; exact h2,h3.mono e⟩
  | dic ks ds => obtain ⟨h1,vs,h2,hl,h3⟩:=h; exact ⟨by rw [hf (by simp)]; exact h1,vs,by rw [hh (by simp)]; exact h2,hl,h3.mono e⟩
  | exn C j => obtain ⟨h1,dx,h2,h3⟩:=h; exact ⟨by rw [hf (by simp)]; exact h1,dx,e.al _ _ h2,by rw [hh (by simp)]; exact h3⟩
  | xdc nm d => obtain ⟨h1,v,h2,h3⟩:=h; exact ⟨by rw [hf (by simp)]; exact h1,v,by rw [hh (by simp)]; exact h2,h3.mono e⟩
  | obj C ns ds => obtain ⟨h1,dx,vs,h2,hl,h3⟩:=h; exact ⟨by rw [hf (by simp)]; exact h1,dx,vs,by rw [hh (by simp)]; exact h2,hl,h3.mono e⟩
structure ZS where
  z:Hp
  a0:List Addr
  f0:Hp
noncomputable def ZS.up (Z:ZS) (p:Addr) (o:HO):ZS:={ Z with z:=upd Z.z p o }
theorem up_ne {Z:ZS} {p b:Addr} {o:HO} (h:b ≠ p):(Z.up p o).z b = Z.z b:=upd_ne h
theorem up_same {Z:ZS} {p:Addr} {o:HO}:(Z.up p o).z p = some o:=upd_same
structure RH (K:PySem.W.Frag) (Z:ZS) (α:List Addr) (F H:Hp) (μ:Mu):Prop where
  sub:Same F H
  len:α.length = μ.length
  cell:∀ (k:Nat) (a:Addr) (c:Cell),α[k]? = some a → μ[k]? = some c → CellOk K α F H a c
  zs:Same Z.z H
  zf:∀ (a:Addr) (o:HO),Z.z a = some o → F a = none
  zc:∀ (k:Nat) (a:Addr) (c:Cell),α[k]? = some a → μ[k]? = some c → c ≠ .dead → Z.z a = none
  dis:∀ (j k:Nat) (a:Addr) (c c':Cell),α[j]? = some a → α[k]? = some a → μ[j]? = some c → μ[k]? = some c' → c ≠ .dead → c' ≠ .dead → j = k
  ext:Ext Z.a0 Z.f0 α F
structure RS (K:PySem.W.Frag) (Z:ZS) (α:List Addr) (F H:Hp) (σ:L2.St) (ρ:En) (μ:Mu):Prop where
  hp:RH K Z α F H μ
  len:ρ.length = σ.length
  sl:∀ (i:Nat) (d:D),ρ[i]? = some (some d) → ∃ v,σ[i]? = some (some v) ∧ Rep K F α d v
theorem RS.to {K:PySem.W.Frag} {Z:ZS} {α α':List Addr} {F H F' H':Hp} {σ:L2.St} {ρ:En} {μ μ':Mu} (r:RS K Z α F H σ ρ μ) (h:RH K Z α' F' H' μ') (e:Ext α F α' F'):RS K Z α' F' H' σ ρ μ' :=
  ⟨h,r.len,fun i d hd => let ⟨v,h1,h2⟩:=r.sl i d hd; ⟨v,h1,h2.mono e⟩⟩
theorem same_upd {F H:Hp} {p:Addr} {o:HO} (hs:Same F H) (hp:H p = none):Same F (upd F p o):=fun b u e => by
  have:b ≠ p:=fun z => by subst z; rw [hs _ _ e] at hp; cases hp
  rw [upd_ne this]; exact e
theorem RH.lay {K:PySem.W.Frag} {Z:ZS} {α:List Addr} {F H:Hp} {μ:Mu} {p:Addr} (o:HO) (r:RH K Z α F H μ) (hp:H p = none):RH K Z α (upd F p o) (upd H p o) μ:=by
  have sF:=same_upd (o:=o) r.sub hp
  have ex:Ext α F α (upd F p o):=⟨sF,fun _ _ h => h⟩
  refine ⟨fun b u e => ?_,r.len,fun k a c ha hc => ?_,fun b u e => ?_,fun b u e => ?_,r.zc,r.dis,r.ext.trans ex⟩
  · by_cases hb:b = p
    · subst hb; rw [upd_same] at e ⊢; exact e
    · rw [upd_ne hb] at e ⊢; exact r.sub b u e
  · have h:=r.cell k a c ha hc
    have ne:c ≠ .dead → a ≠ p:=fun hd => let ⟨_,_,z⟩:=h.live hd; ne_of_none z hp
    exact h.go ex (fun hd => upd_ne (ne hd)) fun hd => upd_ne (ne hd)
  · rw [upd_ne (ne_of_none (r.zs b u e) hp)]; exact r.zs b u e
  · rw [upd_ne (ne_of_none (r.zs b u e) hp)]; exact r.zf b u e
theorem RH.layExt {K:PySem.W.Frag} {Z:ZS} {α:List Addr} {F H:Hp} {μ:Mu} {p:Addr} (o:HO) (r:RH K Z α F H μ) (hp:H p = none):Ext α F α (upd F p o):=⟨same_upd r.sub hp,fun _ _ h => h⟩
noncomputable def Pk (K:PySem.W.Frag) (α:List Addr) (F H:Hp):D → V → Prop
  | .lst ds,v => ∃ a vs,v = .ref a ∧ SqL K H a vs ∧ Reps K F α ds vs
  | .dic ks ds,v => ∃ a vs,v = .ref a ∧ H a = some (.dK ((ks.map dk).zip vs)) ∧ ks.length = ds.length ∧ Reps K F α ds vs
  | d,v => Rep K F α d v
theorem RH.pk {K:PySem.W.Frag} {Z:ZS} {α:List Addr} {F H:Hp} {μ:Mu} {d:D} {v:V} (r:RH K Z α F H μ) (h:Rep K F α d v):Pk K α F H (deref μ d) v:=by
  cases d with
  | non => exact h
  | bl b => exact h
  | int i => exact h
  | str x => exact h
  | tup ds => exact h
  | lst ds =>
    unfold Rep at h
    obtain ⟨a,vs,hv,hs,hr⟩:=h
    exact ⟨a,vs,hv,r.sub.seq hs,hr⟩
  | dic ks ds =>
    unfold Rep at h
    obtain ⟨a,vs,hv,hs,hl,hr⟩:=h
    exact ⟨a,vs,hv,r.sub _ _ hs,hl,hr⟩
  | ref k =>
    have h0:=h
    unfold Rep at h
    obtain ⟨a,ha,hv⟩:=h
    cases e:μ[k]? with
    | none => rw [show deref μ (.ref k) = .ref k by simp only [deref,e]]; exact h0
    | some c =>
      have hc:=r.cell k a c ha e
      cases c with
      | lst ds =>
        obtain ⟨_,vs,h2,h3⟩:=hc
        rw [show deref μ (.ref k) = .lst ds by simp only [deref,e]]
        exact ⟨a,vs,hv,SqL.of h2,h3⟩
      | dic ks ds =>
        obtain ⟨_,vs,h2,hl,h3⟩:=hc
        rw [show deref μ (.ref k) = .dic ks ds by simp only [deref,e]]
        exact ⟨a,vs,hv,h2,hl,h3⟩
      | _ => rw [show deref μ (.ref k) = .ref k by simp only [deref,e]]; exact h0
structure EXT where
  P:ZS → Exc → Mu → Prop
  mono:∀ (Z:ZS) (p:Addr) (o:HO) (x:Exc) (μ:Mu),Z.z p = none → P Z x μ → P (Z.up p o) x μ
noncomputable def GE (K:PySem.W.Frag) (EX:EXT) (Z:ZS) (α:List Addr) (F:Hp) (Q:VK):Res D → Prop
  | .ok d μ' => ∀ v α' F' H',RH K Z α' F' H' μ' → Ext α F α' F' → Rep K F' α' d v → Q v H'
  | .exc x μ' => EX.P Z x μ'
  | .bad => False
noncomputable def GB (K:PySem.W.Frag) (EX:EXT) (Z:ZS) (α:List Addr) (F:Hp) (Q:Bool → Hp → Prop):Res Bool → Prop
  | .ok b μ' => ∀ α' F' H',RH K Z α' F' H' μ' → Ext α F α' F' → Q b H'
  | .exc x μ' => EX.P Z x μ'
  | .bad => False
noncomputable def GA (K:PySem.W.Frag) (EX:EXT) (Z:ZS) (α:List Addr) (F:Hp) (Q:List V → Hp → Prop):Res (List D) → Prop
  | .ok ds μ' => ∀ vs α' F' H',RH K Z α' F' H' μ' → Ext α F α' F' → Reps K F' α' ds vs → Q vs H'
  | .exc x μ' => EX.P Z x μ'
  | .bad => False
noncomputable def GS (K:PySem.W.Frag) (EX:EXT) (Z:ZS) (α:List Addr) (F:Hp) (N:Ends):Res Out → Prop
  | .ok (.nx ρ') μ' => ∀ σ' α' F' H',RS K Z α' F' H' σ' ρ' μ' → Ext α F α' F' → N.nx σ' H'
  | .ok (.bk ρ') μ' => ∀ σ' α' F' H',RS K Z α' F' H' σ' ρ' μ' → Ext α F α' F' → N.bk σ' H'
  | .ok (.ct ρ') μ' => ∀ σ' α' F' H',RS K Z α' F' H' σ' ρ' μ' → Ext α F α' F' → N.ct σ' H'
  | .ok (.rt d) μ' => ∀ v α' F' H',RH K Z α' F' H' μ' → Ext α F α' F' → Rep K F' α' d v → N.rt v H'
  | .exc x μ' => EX.P Z x μ'
  | .bad => False
noncomputable def ME (X:Cx) (EX:EXT) (e:Expr) (m:MX):Prop:=∃ t:TE,PE X e t ∧ ∀ Z α F H σ ρ μ Q,RS X.K Z α F H σ ρ μ → GE X.K EX Z α F Q (m ρ μ) → t σ H Q
noncomputable def MT (X:Cx) (EX:EXT) (e:Expr) (m:MB):Prop:=∃ t:TT,PT X e t ∧ ∀ Z α F H σ ρ μ Q,RS X.K Z α F H σ ρ μ → GB X.K EX Z α F Q (m ρ μ) → t σ H Q
noncomputable def MW (X:Cx) (EX:EXT) (e:Expr) (m:MB):Prop:=∃ t:TT,PW X e t ∧ ∀ Z α F H σ ρ μ Q,RS X.K Z α F H σ ρ μ → GB X.K EX Z α F Q (m ρ μ) → t σ H Q
noncomputable def MA (X:Cx) (EX:EXT) (es:List Expr) (m:MAs):Prop:=∃ t:TA,PA X es t ∧ (∀ Z α F H σ ρ μ Q,RS X.K Z α F H σ ρ μ → GA X.K EX Z α F Q (m ρ μ) → t σ H Q) ∧ ∀ ρ μ ds μ',m ρ μ = .ok ds μ' → ds.length = es.length
noncomputable def MS (X:Cx) (EX:EXT) (st:Stmt) (m:MSt):Prop:=∃ t:TS,PS X st t ∧ ∀ Z α F H σ ρ μ N,RS X.K Z α F H σ ρ μ → GS X.K EX Z α F N (m ρ μ) → t N σ H
noncomputable def MSs (X:Cx) (EX:EXT) (st:List Stmt) (m:MSt):Prop:=∃ t:TS,PSs X st t ∧ ∀ Z α F H σ ρ μ N,RS X.K Z α F H σ ρ μ → GS X.K EX Z α F N (m ρ μ) → t N σ H
theorem GE.ext {K:PySem.W.Frag} {EX:EXT} {Z:ZS} {α α1:List Addr} {F F1:Hp} {Q:VK} {r:Res D} (e:Ext α F α1 F1) (h:GE K EX Z α F Q r):GE K EX Z α1 F1 Q r:=by
  cases r with
  | ok d μ => exact fun v α' F' H' R e' q => h v α' F' H' R (e.trans e') q
  | exc x μ => exact h
  | bad => exact h
theorem GB.ext {K:PySem.W.Frag} {EX:EXT} {Z:ZS} {α α1:List Addr} {F F1:Hp} {Q:Bool → Hp → Prop} {r:Res Bool} (e:Ext α F α1 F1) (h:GB K EX Z α F Q r):GB K EX Z α1 F1 Q r:=by
  cases r with
  | ok d μ => exact fun α' F' H' R e' => h α' F' H' R (e.trans e')
  | exc x μ => exact h
  | bad => exact h
theorem GS.ext {K:PySem.W.Frag} {EX:EXT} {Z:ZS} {α α1:List Addr} {F F1:Hp} {N:Ends} {r:Res Out} (e:Ext α F α1 F1) (h:GS K EX Z α F N r):GS K EX Z α1 F1 N r:=by
  cases r with
  | ok o μ =>
    cases o with
    | nx ρ => exact fun σ' α' F' H' R e' => h σ' α' F' H' R (e.trans e')
    | bk ρ => exact fun σ' α' F' H' R e' => h σ' α' F' H' R (e.trans e')
    | ct ρ => exact fun σ' α' F' H' R e' => h σ' α' F' H' R (e.trans e')
    | rt d => exact fun v α' F' H' R e' q => h v α' F' H' R (e.trans e') q
  | exc x μ => exact h
  | bad => exact h
theorem GE.step {K:PySem.W.Frag} {EX:EXT} {Z:ZS} {α:List Addr} {F:Hp} {r:Res D} {β:Type} {f:D → Mu → Res β} {G:Res β → Prop} {Q:VK} (h:G (r.bind f)) (hx:∀ x μ,G (.exc x μ) → EX.P Z x μ) (hb:¬ G .bad)
    (hk:∀ d μ' v α' F' H',RH K Z α' F' H' μ' → Ext α F α' F' → Rep K F' α' d v → G (f d μ') → Q v H'):GE K EX Z α F Q r:=by
  cases r with
  | ok d μ => exact fun v α' F' H' R e q => hk d μ v α' F' H' R e q h
  | exc x μ => exact hx _ _ h
  | bad => exact hb h
theorem GB.step {K:PySem.W.Frag} {EX:EXT} {Z:ZS} {α:List Addr} {F:Hp} {r:Res Bool} {β:Type} {f:Bool → Mu → Res β} {G:Res β → Prop} {Q:Bool → Hp → Prop} (h:G (r.bind f)) (hx:∀ x μ,G (.exc x μ) → EX.P Z x μ) (hb:¬ G .bad)
    (hk:∀ d μ' α' F' H',RH K Z α' F' H' μ' → Ext α F α' F' → G (f d μ') → Q d H'):GB K EX Z α F Q r:=by
  cases r with
  | ok d μ => exact fun α' F' H' R e => hk d μ α' F' H' R e h
  | exc x μ => exact hx _ _ h
  | bad => exact hb h
theorem GA.step {K:PySem.W.Frag} {EX:EXT} {Z:ZS} {α:List Addr} {F:Hp} {r:Res (List D)} {β:Type} {f:List D → Mu → Res β} {G:Res β → Prop} {Q:List V → Hp → Prop} (h:G (r.bind f)) (hx:∀ x μ,G (.exc x μ) → EX.P Z x μ) (hb:¬ G .bad)
    (hk:∀ d μ' v α' F' H',RH K Z α' F' H' μ' → Ext α F α' F' → Reps K F' α' d v → G (f d μ') → Q v H'):GA K EX Z α F Q r:=by
  cases r with
  | ok d μ => exact fun v α' F' H' R e q => hk d μ v α' F' H' R e q h
  | exc x μ => exact hx _ _ h
  | bad => exact hb h
theorem GA.stepE {K:PySem.W.Frag} {EX:EXT} {Z:ZS} {α:List Addr} {F:Hp} {r:Res (List D)} {β:Type} {f:List D → Mu → Res β} {G:Res β → Prop} {Q:List V → Hp → Prop} (h:G (r.bind f)) (hx:∀ x μ,G (.exc x μ) → EX.P Z x μ) (hb:¬ G .bad)
    (hk:∀ d μ' v α' F' H',r = .ok d μ' → RH K Z α' F' H' μ' → Ext α F α' F' → Reps K F' α' d v → G (f d μ') → Q v H'):GA K EX Z α F Q r:=by
  cases r with
  | ok d μ => exact fun v α' F' H' R e q => hk d μ v α' F' H' rfl R e q h
  | exc x μ => exact hx _ _ h
  | bad => exact hb h
end M
set_option Elab.async false
set_option linter.all false
set_option maxRecDepth 100000
set_option maxHeartbeats 4000000
namespace M
open PySem PySem.Spec PyProof.Rows L2
section
variable {X:Cx} {EX:EXT} {e a b c:Expr} {pos:Pos} {m ma mb mc:MX} {es rest:List Expr}
noncomputable def mVar (i:Nat):MX:=fun ρ μ => match ρ[i]? with
  | some (some d) => .ok d μ
  | _ => .bad
noncomputable def mC (d:D):MX:=fun _ μ => .ok d μ
theorem me_var {i:Nat} {x:Str} (hN:X.N[i]? = some x) (hv:Vis X.env.scope x) (hd:(x == ("__debug__":Str)) = false) (hcd:(x == ("__classdict__":Str)) = false):ME X EX (.Name x pos) (mVar i):=by
  refine ⟨tVar i,pe_var hN hv hd hcd,fun Z α F H σ ρ μ Q R g => ?_⟩
  unfold mVar at g
  cases e:ρ[i]? with
  | none => rw [e] at g; exact g.elim
  | some o =>
    cases o with
    | none => rw [e] at g; exact g.elim
    | some d =>
      rw [e] at g
      obtain ⟨v,h1,h2⟩:=R.sl i d e
      exact ⟨v,h1,g v α F H R.hp (Ext.refl _ _) h2⟩
theorem me_c {v:V} {d:D} (h:PE X e (tC v)) (r:∀ (F:Hp) (α:List Addr),Rep X.K F α d v):ME X EX e (mC d) :=
  ⟨_,h,fun Z α F H σ ρ μ Q R g => g v α F H R.hp (Ext.refl _ _) (r F α)⟩
theorem me_int {i j}:ME X EX (.Constant (.int i) j pos) (mC (.int i)):=me_c pe_int fun _ _ => by unfold Rep; rfl
theorem me_bl {i j}:ME X EX (.Constant (.bool i) j pos) (mC (.bl i)):=me_c pe_bl fun _ _ => by unfold Rep; rfl
theorem me_non {j}:ME X EX (.Constant .none j pos) (mC .non):=me_c pe_non fun _ _ => by unfold Rep; rfl
theorem me_str {x:Str} {cs:List Nat} {j} (h:x = ⟨cs.toArray⟩):ME X EX (.Constant (.str x) j pos) (mC (.str cs)):=me_c pe_str fun _ _ => by unfold Rep; rw [h]
noncomputable abbrev G2:=D → D → Option D
noncomputable def mBin (g:G2) (ma mb:MX):MX:=fun ρ μ => (ma ρ μ).bind fun x μ1 => (mb ρ μ1).bind fun y μ2 => ofO μ2 (g (deref μ2 x) (deref μ2 y))
noncomputable def Serves (K:PySem.W.Frag) (r:R2) (g:G2):Prop:=∀ Z α F H μ a b c x y Q,RH K Z α F H μ → Pk K α F H a x → Pk K α F H b y → g a b = some c →
  (∀ v F' H',RH K Z α F' H' μ → Same F F' → Rep K F' α c v → Q v H') → r x y H Q
noncomputable def OpM (X:Cx) (f:Value → Value → Sem Value) (g:G2):Prop:=∃ r,OpR X f r ∧ Serves X.K r g
noncomputable def Good (X:Cx) (EX:EXT) (t:TE) (m:MX):Prop:=∀ Z α F H σ ρ μ Q,RS X.K Z α F H σ ρ μ → GE X.K EX Z α F Q (m ρ μ) → t σ H Q
theorem good_two {ta tb:TE} {r:R2} {g:G2} (sa:Good X EX ta ma) (sb:Good X EX tb mb) (ho:Serves X.K r g):Good X EX (tOp r ta tb) (mBin g ma mb):=by
  intro Z α F H σ ρ μ Q R gd
  refine sa Z α F H σ ρ μ _ R (GE.step (G:=GE X.K EX Z α F Q) gd (fun _ _ h => h) (fun h => h) fun d1 μ1 v1 α1 F1 H1 R1 e1 p1 g1 => ?_)
  refine sb Z α1 F1 H1 σ ρ μ1 _ (R.to R1 e1) (GE.step (G:=GE X.K EX Z α F Q) g1 (fun _ _ h => h) (fun h => h) fun d2 μ2 v2 α2 F2 H2 R2 e2 p2 g2 => ?_)
  cases hg:g (deref μ2 d1) (deref μ2 d2) with
  | none => rw [hg] at g2; exact g2.elim
  | some c =>
    rw [hg] at g2
    exact ho Z α2 F2 H2 μ2 _ _ c v1 v2 Q R2 (R2.pk (p1.mono e2)) (R2.pk p2) hg fun v F' H' R' sf rp => g2 v α2 F' H' R' (e1.trans (e2.trans ⟨sf,fun _ _ h => h⟩)) rp
theorem me_bin {op:Operator} {g:G2} (ho:OpM X (binaryOp op) g) (ha:ME X EX a ma) (hb:ME X EX b mb):ME X EX (.BinOp a op b pos) (mBin g ma mb):=by
  obtain ⟨r,h1,h2⟩:=ho
  obtain ⟨ta,pa,sa⟩:=ha
  obtain ⟨tb,pb,sb⟩:=hb
  exact ⟨_,pe_op h1 pa pb,good_two sa sb h2⟩
theorem me_cmp {op:CmpOp} {g:G2} (ho:OpM X (compareOp op) g) (ha:ME X EX a ma) (hb:ME X EX b mb) (hm:behindInMarks op b = false):ME X EX (.Compare a [op] [b] pos) (mBin g ma mb):=by
  obtain ⟨r,h1,h2⟩:=ho
  obtain ⟨ta,pa,sa⟩:=ha
  obtain ⟨tb,pb,sb⟩:=hb
  exact ⟨_,pe_cmpR h1 pa pb hm,good_two sa sb h2⟩
noncomputable def asB (d:D):Option Bool:=match d with
  | .bl b => some b
  | _ => none
noncomputable def mTest (m:MX):MB:=fun ρ μ => (m ρ μ).bind fun d μ1 => ofO μ1 (asB d)
noncomputable def GoodB (X:Cx) (EX:EXT) (t:TT) (m:MB):Prop:=∀ Z α F H σ ρ μ Q,RS X.K Z α F H σ ρ μ → GB X.K EX Z α F Q (m ρ μ) → t σ H Q
theorem good_test {t:TE} (h:Good X EX t m):GoodB X EX (fun σ H Q => t σ H fun x H' => ∃ k,x = .bl k ∧ Q k H') (mTest m):=by
  intro Z α F H σ ρ μ Q R g
  refine h Z α F H σ ρ μ _ R (GE.step (G:=GB X.K EX Z α F Q) g (fun _ _ h => h) (fun h => h) fun d μ1 v α1 F1 H1 R1 e1 p g1 => ?_)
  cases d with
  | bl k => unfold Rep at p; exact ⟨k,p,g1 α1 F1 H1 R1 e1⟩
  | _ => exact g1.elim
theorem mt_cmp {op:CmpOp} {g:G2} (ho:OpM X (compareOp op) g) (ha:ME X EX a ma) (hb:ME X EX b mb) (hm:behindInMarks op b = false):MT X EX (.Compare a [op] [b] pos) (mTest (mBin g ma mb)):=by
  obtain ⟨r,h1,h2⟩:=ho
  obtain ⟨ta,pa,sa⟩:=ha
  obtain ⟨tb,pb,sb⟩:=hb
  exact ⟨_,pt_cmpR h1 pa pb hm,good_test (good_two sa sb h2)⟩
noncomputable def mChain (g g':G2) (ma mb mc:MX):MX:=fun ρ μ => (ma ρ μ).bind fun x μ1 => (mb ρ μ1).bind fun y μ2 => (ofO μ2 ((g (deref μ2 x) (deref μ2 y)).bind asB)).bind fun k μ3 =>
  match k with
  | true => (mc ρ μ3).bind fun z μ4 => ofO μ4 (g' (deref μ4 y) (deref μ4 z))
  | false => .ok (.bl false) μ3
noncomputable def isN (d:D):Bool:=match d with
  | .non => true
  | _ => false
noncomputable def mIsN (m:MX):MX:=fun ρ μ => (m ρ μ).bind fun d μ1 => .ok (.bl (isN d)) μ1
noncomputable def mNotN (m:MX):MX:=fun ρ μ => (m ρ μ).bind fun d μ1 => .ok (.bl (!isN d)) μ1
theorem isN_rep {K:PySem.W.Frag} {F:Hp} {α:List Addr} {d:D} {v:V} (h:Rep K F α d v):decide (v = .non) = isN d:=by
  cases d with
  | non => unfold Rep at h; subst h; rfl
  | bl _ => unfold Rep at h; subst h; rfl
  | int _ => unfold Rep at h; subst h; rfl
  | str _ => unfold Rep at h; subst h; rfl
  | tup _ => unfold Rep at h; obtain ⟨a,vs,h,_⟩:=h; subst h; rfl
  | lst _ => unfold Rep at h; obtain ⟨a,vs,h,_⟩:=h; subst h; rfl
  | dic _ _ => unfold Rep at h; obtain ⟨a,vs,h,_⟩:=h; subst h; rfl
  | ref _ => unfold Rep at h; obtain ⟨a,_,h⟩:=h; subst h; rfl
theorem good_isN {t:TE} (h:Good X EX t m):Good X EX (tIsN t) (mIsN m):=by
  intro Z α F H σ ρ μ Q R g
  refine h Z α F H σ ρ μ _ R (GE.step (G:=GE X.K EX Z α F Q) g (fun _ _ h => h) (fun h => h) fun d μ1 v α1 F1 H1 R1 e1 p g1 => ?_)
  rw [isN_rep p]
  exact g1 _ α1 F1 H1 R1 e1 (by unfold Rep; rfl)
theorem mt_isN {j pos'} (ha:ME X EX a m):MT X EX (.Compare a [.Is] [.Constant .none j pos'] pos) (mTest (mIsN m)):=by
  obtain ⟨t,p,s⟩:=ha
  exact ⟨_,pt_cmp (pc_isN p) rfl,good_test (good_isN s)⟩
noncomputable def truD (d:D):Option Bool:=match d with
  | .non => some false
  | .bl b => some b
  | .int i => some (i != 0)
  | .str x => if x.length ≤ 16777216 then some (!x.isEmpty) else none
  | .tup xs => some (!xs.isEmpty)
  | .lst xs => some (!xs.isEmpty)
  | .dic ks vs => some (!vs.isEmpty)
  | .ref _ => none
noncomputable def mTru (m:MX):MB:=fun ρ μ => (m ρ μ).bind fun d μ1 => ofO μ1 (truD (deref μ1 d))
theorem isEmpty_len {β γ:Type} {l:List β} {r:List γ} (h:l.length = r.length):l.isEmpty = r.isEmpty:=by
  cases l <;> cases r <;> simp_all
theorem tru_pk {K:PySem.W.Frag} {α:List Addr} {F H:Hp} {d:D} {v:V} {k:Bool} (sub:Same F H) (h:Pk K α F H d v) (e:truD d = some k):TruV K v H k:=by
  cases d with
  | non => unfold Pk Rep at h; subst h; cases e; rfl
  | bl _ => unfold Pk Rep at h; subst h; cases e; rfl
  | int _ => unfold Pk Rep at h; subst h; cases e; rfl
  | str x =>
    unfold Pk Rep at h
    subst h
    unfold truD at e
    simp only at e
    split at e
    · rename_i hl
      cases e
      refine ⟨?_,?_⟩
      · rw [sizeLine_eq]; simpa [Str.length] using hl
      · cases x with
        | nil => rfl
        | cons c r => simp [Str.length]; omega
    · cases e
  | tup xs =>
    unfold Pk Rep at h
    obtain ⟨a,vs,rfl,hs,hr⟩:=h
    cases e
    exact .inr (.inl ⟨vs,Same.tup sub hs,by rw [isEmpty_len hr.length]⟩)
  | lst xs =>
    unfold Pk at h
    obtain ⟨a,vs,rfl,hs,hr⟩:=h
    cases e
    exact .inl ⟨vs,hs,by rw [isEmpty_len hr.length]⟩
  | dic ks xs =>
    unfold Pk at h
    obtain ⟨a,vs,rfl,hs,hl,hr⟩:=h
    cases e
    refine .inr (.inr ⟨_,hs,?_⟩)
    congr 1
    refine isEmpty_len ?_
    have:=hr.length
    simp
    omega
  | ref _ => cases e
theorem mt_truth (ha:ME X EX a m) (he:∀ whole,isTrue a X.env whole = (do let v ← whole; standAt a.pos; holding [v] (truthy v))):MT X EX a (mTru m):=by
  obtain ⟨t,p,s⟩:=ha
  refine ⟨_,pt_truth p he,fun Z α F H σ ρ μ Q R g => ?_⟩
  refine s Z α F H σ ρ μ _ R (GE.step (G:=GB X.K EX Z α F Q) g (fun _ _ h => h) (fun h => h) fun d μ1 v α1 F1 H1 R1 e1 p g1 => ?_)
  cases hk:truD (deref μ1 d) with
  | none => rw [hk] at g1; exact g1.elim
  | some k => rw [hk] at g1; exact ⟨k,tru_pk R1.sub (R1.pk p) hk,g1 α1 F1 H1 R1 e1⟩
variable {n na nb:MB}
noncomputable def mAnd (m n:MB):MB:=fun ρ μ => (m ρ μ).bind fun k μ1 => match k with
  | true => n ρ μ1
  | false => .ok false μ1
noncomputable def mOr (m n:MB):MB:=fun ρ μ => (m ρ μ).bind fun k μ1 => match k with
  | true => .ok true μ1
  | false => n ρ μ1
noncomputable def mNot (m:MB):MB:=fun ρ μ => (m ρ μ).bind fun k μ1 => .ok (!k) μ1
theorem MW.t (h:MW X EX e n):MT X EX e n:=let ⟨t,p,s⟩:=h; ⟨t,p.pt,s⟩
theorem mw_and1 (ha:MT X EX a na):MW X EX (.BoolOp .And [a] pos) na:=let ⟨t,p,s⟩:=ha; ⟨t,pw_and1 p,s⟩
theorem mw_or1 (ha:MT X EX a na):MW X EX (.BoolOp .Or [a] pos) na:=let ⟨t,p,s⟩:=ha; ⟨t,pw_or1 p,s⟩
theorem mw_and (ha:MT X EX a na) (hb:MW X EX (.BoolOp .And (b :: rest) pos) nb):MW X EX (.BoolOp .And (a :: b :: rest) pos) (mAnd na nb):=by
  obtain ⟨ta,pa,sa⟩:=ha
  obtain ⟨tb,pb,sb⟩:=hb
  refine ⟨_,pw_and pa pb,fun Z α F H σ ρ μ Q R g => ?_⟩
  refine sa Z α F H σ ρ μ _ R (GB.step (G:=GB X.K EX Z α F Q) g (fun _ _ h => h) (fun h => h) fun k μ1 α1 F1 H1 R1 e1 g1 => ?_)
  cases k with
  | true => exact (if_pos rfl).mpr (sb Z α1 F1 H1 σ ρ μ1 Q (R.to R1 e1) (GB.ext e1 g1))
  | false => exact g1 α1 F1 H1 R1 e1
theorem mw_or (ha:MT X EX a na) (hb:MW X EX (.BoolOp .Or (b :: rest) pos) nb):MW X EX (.BoolOp .Or (a :: b :: rest) pos) (mOr na nb):=by
  obtain ⟨ta,pa,sa⟩:=ha
  obtain ⟨tb,pb,sb⟩:=hb
  refine ⟨_,pw_or pa pb,fun Z α F H σ ρ μ Q R g => ?_⟩
  refine sa Z α F H σ ρ μ _ R (GB.step (G:=GB X.K EX Z α F Q) g (fun _ _ h => h) (fun h => h) fun k μ1 α1 F1 H1 R1 e1 g1 => ?_)
  cases k with
  | true => exact g1 α1 F1 H1 R1 e1
  | false => exact sb Z α1 F1 H1 σ ρ μ1 Q (R.to R1 e1) (GB.ext e1 g1)
theorem mt_not (ha:MT X EX a na):MT X EX (.UnaryOp .Not a pos) (mNot na):=by
  obtain ⟨ta,pa,sa⟩:=ha
  refine ⟨_,pt_not pa,fun Z α F H σ ρ μ Q R g => ?_⟩
  exact sa Z α F H σ ρ μ _ R (GB.step (G:=GB X.K EX Z α F Q) g (fun _ _ h => h) (fun h => h) fun k μ1 α1 F1 H1 R1 e1 g1 => g1 α1 F1 H1 R1 e1)
noncomputable def mAndV (ma mb:MX):MX:=fun ρ μ => (ma ρ μ).bind fun x μ1 => match x with
  | .bl true => mb ρ μ1
  | .bl false => .ok (.bl false) μ1
  | _ => .bad
noncomputable def mOrV (ma mb:MX):MX:=fun ρ μ => (ma ρ μ).bind fun x μ1 => match x with
  | .bl true => .ok (.bl true) μ1
  | .bl false => mb ρ μ1
  | _ => .bad
noncomputable def mNotV (ma:MX):MX:=fun ρ μ => (ma ρ μ).bind fun x μ1 => match x with
  | .bl k => .ok (.bl (!k)) μ1
  | _ => .bad
theorem me_not (ha:ME X EX a ma):ME X EX (.UnaryOp .Not a pos) (mNotV ma):=by
  obtain ⟨ta,pa,sa⟩:=ha
  refine ⟨_,pe_not pa,fun Z α F H σ ρ μ Q R g => ?_⟩
  refine sa Z α F H σ ρ μ _ R (GE.step (G:=GE X.K EX Z α F Q) g (fun _ _ h => h) (fun h => h) fun d μ1 v α1 F1 H1 R1 e1 p g1 => ?_)
  cases d with
  | bl k => unfold Rep at p; exact ⟨k,p,g1 _ α1 F1 H1 R1 e1 (by unfold Rep; rfl)⟩
  | _ => exact g1.elim
noncomputable def mIf (n:MB) (ma mb:MX):MX:=fun ρ μ => (n ρ μ).bind fun k μ1 => match k with
  | true => ma ρ μ1
  | false => mb ρ μ1
theorem me_if (hc:MT X EX c n) (ha:ME X EX a ma) (hb:ME X EX b mb):ME X EX (.IfExp c a b pos) (mIf n ma mb):=by
  obtain ⟨tc,pc,sc⟩:=hc
  obtain ⟨ta,pa,sa⟩:=ha
  obtain ⟨tb,pb,sb⟩:=hb
  refine ⟨_,pe_ifExp pc pa pb,fun Z α F H σ ρ μ Q R g => ?_⟩
  refine sc Z α F H σ ρ μ _ R (GB.step (G:=GE X.K EX Z α F Q) g (fun _ _ h => h) (fun h => h) fun k μ1 α1 F1 H1 R1 e1 g1 => ?_)
  cases k with
  | true => exact sa Z α1 F1 H1 σ ρ μ1 Q (R.to R1 e1) (GE.ext e1 g1)
  | false => exact sb Z α1 F1 H1 σ ρ μ1 Q (R.to R1 e1) (GE.ext e1 g1)
variable {ms:MAs}
noncomputable def mNil:MAs:=fun _ μ => .ok [] μ
noncomputable def mCons (m:MX) (ms:MAs):MAs:=fun ρ μ => (m ρ μ).bind fun d μ1 => (ms ρ μ1).bind fun ds μ2 => .ok (d :: ds) μ2
theorem ma_nil:MA X EX [] mNil:=⟨_,pa_nil,fun Z α F H σ ρ μ Q R g => g [] α F H R.hp (Ext.refl _ _) reps_nil,fun ρ μ ds μ' h => by cases h; rfl⟩
theorem ma_cons (ha:ME X EX e m) (hr:MA X EX es ms) (hs:starEach (e :: es) X.env = (false,eval e X.env) :: starEach es X.env):MA X EX (e :: es) (mCons m ms):=by
  obtain ⟨ta,pa,sa⟩:=ha
  obtain ⟨tr,pr,sr,lr⟩:=hr
  refine ⟨_,pa_cons pa pr hs,fun Z α F H σ ρ μ Q R g => ?_,fun ρ μ ds μ' h => ?_⟩
  rotate_left
  · unfold mCons at h
    cases e1:m ρ μ with
    | ok d μ1 =>
      rw [e1] at h
      simp only [bind_ok] at h
      cases e2:ms ρ μ1 with
      | ok dr μ2 =>
        rw [e2] at h
        simp only [bind_ok] at h
        cases h
        simp [lr _ _ _ _ e2]
      | exc x μ2 => rw [e2] at h; cases h
      | bad => rw [e2] at h; cases h
    | exc x μ1 => rw [e1] at h; cases h
    | bad => rw [e1] at h; cases h
  refine sa Z α F H σ ρ μ _ R (GE.step (G:=GA X.K EX Z α F Q) g (fun _ _ h => h) (fun h => h) fun d μ1 v α1 F1 H1 R1 e1 p g1 => ?_)
  refine sr Z α1 F1 H1 σ ρ μ1 _ (R.to R1 e1) (GA.step (G:=GA X.K EX Z α F Q) g1 (fun _ _ h => h) (fun h => h) fun ds μ2 vs α2 F2 H2 R2 e2 p2 g2 => ?_)
  exact g2 (v :: vs) α2 F2 H2 R2 (e1.trans e2) (reps_cons (p.mono e2) p2)
noncomputable def mTup (ms:MAs):MX:=fun ρ μ => (ms ρ μ).bind fun ds μ1 => .ok (.tup ds) μ1
noncomputable def mLst (ms:MAs):MX:=fun ρ μ => (ms ρ μ).bind fun ds μ1 => .ok (.lst ds) μ1
theorem lay_tup {K:PySem.W.Frag} {Z:ZS} {F H:Hp} {α:List Addr} {μ:Mu} {ds:List D} {vs:List V} {p:Addr} (R:RH K Z α F H μ) (r:Reps K F α ds vs) (hp:H p = none) :
    RH K Z α (upd F p (.tup vs)) (upd H p (.tup vs)) μ ∧ Same F (upd F p (.tup vs)) ∧ Rep K (upd F p (.tup vs)) α (.tup ds) (.ref p) :=
  ⟨R.lay _ hp,same_upd R.sub hp,by unfold Rep; exact ⟨p,vs,rfl,SqT.of upd_same,r.mono (R.layExt _ hp)⟩⟩
theorem lay_lst {K:PySem.W.Frag} {Z:ZS} {F H:Hp} {α:List Addr} {μ:Mu} {ds:List D} {vs:List V} {p:Addr} (R:RH K Z α F H μ) (r:Reps K F α ds vs) (hp:H p = none) :
    RH K Z α (upd F p (.lst vs)) (upd H p (.lst vs)) μ ∧ Same F (upd F p (.lst vs)) ∧ Rep K (upd F p (.lst vs)) α (.lst ds) (.ref p) :=
  ⟨R.lay _ hp,same_upd R.sub hp,by unfold Rep; exact ⟨p,vs,rfl,SqL.of upd_same,r.mono (R.layExt _ hp)⟩⟩
theorem me_tup {x1} (h:MA X EX es ms) (hl:es.length ≤ 16777216:=by decide):ME X EX (.Tuple es x1 pos) (mTup ms):=by
  obtain ⟨t,p,s,l⟩:=h
  refine ⟨_,pe_tup p,fun Z α F H σ ρ μ Q R g => ?_⟩
  refine s Z α F H σ ρ μ _ R (GA.stepE (G:=GE X.K EX Z α F Q) g (fun _ _ h => h) (fun h => h) fun ds μ1 vs α1 F1 H1 hm R1 e1 p1 g1 => ?_)
  refine ⟨by rw [← p1.length,sizeLine_eq,l _ _ _ _ hm]; exact hl,fun q hq => ?_⟩
  obtain ⟨a1,a2,a3⟩:=lay_tup R1 p1 hq
  exact g1 _ α1 _ _ a1 (e1.trans ⟨a2,fun _ _ h => h⟩) a3
theorem me_lst (h:MA X EX es ms) (hl:es.length ≤ 16777216:=by decide):ME X EX (.List es pos) (mLst ms):=by
  obtain ⟨t,p,s,l⟩:=h
  refine ⟨_,pe_lst p,fun Z α F H σ ρ μ Q R g => ?_⟩
  refine s Z α F H σ ρ μ _ R (GA.stepE (G:=GE X.K EX Z α F Q) g (fun _ _ h => h) (fun h => h) fun ds μ1 vs α1 F1 H1 hm R1 e1 p1 g1 => ?_)
  refine ⟨by rw [← p1.length,sizeLine_eq,l _ _ _ _ hm]; exact hl,fun q hq => ?_⟩
  obtain ⟨a1,a2,a3⟩:=lay_lst R1 p1 hq
  exact g1 _ α1 _ _ a1 (e1.trans ⟨a2,fun _ _ h => h⟩) a3
noncomputable def gIdx:G2:=fun a b => match a,b with
  | .lst ds,.int i => atI ds i
  | .tup ds,.int i => atI ds i
  | .str cs,.int i => if cs.length ≤ 16777216 then (atI cs i).map fun c => .str [c] else none
  | _,_ => none
theorem reps_atI {K:PySem.W.Frag} {F:Hp} {α:List Addr} {ds:List D} {vs:List V} {i:Int} {d:D} (r:Reps K F α ds vs) (h:atI ds i = some d):∃ v,atI vs i = some v ∧ Rep K F α d v:=by
  unfold atI at h ⊢
  rw [← r.length]
  cases e:ixN ds.length i with
  | none => rw [e] at h; cases h
  | some j => rw [e] at h; exact r.get h
theorem serves_idx {K:PySem.W.Frag}:Serves K (rIx K) gIdx:=by
  intro Z α F H μ a b c x y Q R ha hb hg k
  cases b with
  | int i =>
    unfold Pk Rep at hb
    subst hb
    cases a with
    | lst ds =>
      obtain ⟨p,vs,rfl,hs,hr⟩:=ha
      obtain ⟨v,h1,h2⟩:=reps_atI hr hg
      exact .inl ⟨p,vs,i,v,rfl,rfl,hs,h1,k v F H R (Same.refl _) h2⟩
    | tup ds =>
      unfold Pk Rep at ha
      obtain ⟨p,vs,rfl,hs,hr⟩:=ha
      obtain ⟨v,h1,h2⟩:=reps_atI hr hg
      exact .inr (.inl ⟨p,vs,i,v,rfl,rfl,Same.tup R.sub hs,h1,k v F H R (Same.refl _) h2⟩)
    | str cs =>
      unfold Pk Rep at ha
      subst ha
      simp only [gIdx] at hg
      split at hg
      · rename_i hl
        cases e:atI cs i with
        | none => rw [e] at hg; cases hg
        | some c' =>
          rw [e] at hg
          cases hg
          exact .inr (.inr ⟨_,i,c',rfl,rfl,by rw [sizeLine_eq]; simpa [Str.length] using hl,by simpa using e,k _ F H R (Same.refl _) (by unfold Rep; rfl)⟩)
      · cases hg
    | _ => cases hg
  | _ => cases a <;> cases hg
theorem me_idx (ha:ME X EX a ma) (hb:ME X EX b mb) (hs:PlainIx b):ME X EX (.Subscript a b pos) (mBin gIdx ma mb):=by
  obtain ⟨ta,pa,sa⟩:=ha
  obtain ⟨tb,pb,sb⟩:=hb
  exact ⟨_,pe_ix ix_seq pa pb hs,good_two sa sb serves_idx⟩
end
end M
set_option Elab.async false
set_option linter.all false
set_option maxRecDepth 100000
set_option maxHeartbeats 4000000
namespace M
open PySem PySem.Spec PyProof.Rows L2
theorem rep_int {K:PySem.W.Frag} {F:Hp} {α:List Addr} (i:Int):Rep K F α (.int i) (.int i):=by unfold Rep; rfl
theorem rep_bl {K:PySem.W.Frag} {F:Hp} {α:List Addr} (i:Bool):Rep K F α (.bl i) (.bl i):=by unfold Rep; rfl
theorem rep_non {K:PySem.W.Frag} {F:Hp} {α:List Addr}:Rep K F α .non .non:=by unfold Rep; rfl
theorem rep_str {K:PySem.W.Frag} {F:Hp} {α:List Addr} (x:List Nat):Rep K F α (.str x) (.str ⟨x.toArray⟩):=by unfold Rep; rfl
theorem pk_int {K:PySem.W.Frag} {F H:Hp} {α:List Addr} {i:Int} {v:V} (h:Pk K α F H (.int i) v):v = .int i:=by unfold Pk Rep at h; exact h
theorem pk_bl {K:PySem.W.Frag} {F H:Hp} {α:List Addr} {i:Bool} {v:V} (h:Pk K α F H (.bl i) v):v = .bl i:=by unfold Pk Rep at h; exact h
theorem pk_str {K:PySem.W.Frag} {F H:Hp} {α:List Addr} {x:List Nat} {v:V} (h:Pk K α F H (.str x) v):v = .str ⟨x.toArray⟩:=by unfold Pk Rep at h; exact h
theorem pk_non {K:PySem.W.Frag} {F H:Hp} {α:List Addr} {v:V} (h:Pk K α F H .non v):v = .non:=by unfold Pk Rep at h; exact h
noncomputable def gInt (h:Int → Int → Option Int):G2:=fun a b => match a,b with
  | .int i,.int j => (h i j).map .int
  | _,_ => none
noncomputable def gIntB (h:Int → Int → Bool):G2:=fun a b => match a,b with
  | .int i,.int j => some (.bl (h i j))
  | _,_ => none
section
variable {X:Cx} {EX:EXT}
theorem sv_int {K:PySem.W.Frag} {C:Int → Int → Prop} [inst:∀ i j,Decidable (C i j)] {h:Int → Int → Int}:Serves K (rI C fun i j => .int (h i j)) (gInt fun i j => if C i j then some (h i j) else none):=by
  intro Z α F H μ a b c x y Q R ha hb hg k
  cases a with
  | int i =>
    cases b with
    | int j =>
      have ha:=pk_int ha
      have hb:=pk_int hb
      simp only [gInt] at hg
      by_cases hc:C i j
      · rw [if_pos hc] at hg
        cases hg
        exact ⟨i,j,ha,hb,hc,k _ F H R (Same.refl _) (rep_int _)⟩
      · rw [if_neg hc] at hg; cases hg
    | _ => cases hg
  | _ => cases hg
theorem sv_int0 {K:PySem.W.Frag} {h:Int → Int → Int}:Serves K (rI0 fun i j => .int (h i j)) (gInt fun i j => some (h i j)):=by
  intro Z α F H μ a b c x y Q R ha hb hg k
  cases a with
  | int i =>
    cases b with
    | int j =>
      have ha:=pk_int ha
      have hb:=pk_int hb
      cases hg
      exact ⟨i,j,ha,hb,k _ F H R (Same.refl _) (rep_int _)⟩
    | _ => cases hg
  | _ => cases hg
theorem sv_intB {K:PySem.W.Frag} {h:Int → Int → Bool}:Serves K (rI0 fun i j => .bl (h i j)) (gIntB h):=by
  intro Z α F H μ a b c x y Q R ha hb hg k
  cases a with
  | int i =>
    cases b with
    | int j =>
      have ha:=pk_int ha
      have hb:=pk_int hb
      cases hg
      exact ⟨i,j,ha,hb,k _ F H R (Same.refl _) (rep_bl _)⟩
    | _ => cases hg
  | _ => cases hg
noncomputable def gOr (g h:G2):G2:=fun a b => match g a b with
  | some c => some c
  | none => h a b
theorem Serves.or {K:PySem.W.Frag} {r r':R2} {g g':G2} (h:Serves K r g) (h':Serves K r' g'):Serves K (fun x y H Q => r x y H Q ∨ r' x y H Q) (gOr g g'):=by
  intro Z α F H μ a b c x y Q R ha hb hg k
  unfold gOr at hg
  cases e:g a b with
  | some d => rw [e] at hg; have hg:d = c:=Option.some.inj hg; subst hg; exact .inl (h Z α F H μ a b _ x y Q R ha hb e k)
  | none => rw [e] at hg; exact .inr (h' Z α F H μ a b c x y Q R ha hb hg k)
theorem OpM.or {f:Value → Value → Sem Value} {g g':G2} (h:OpM X f g) (h':OpM X f g'):OpM X f (gOr g g'):=by
  obtain ⟨r,a,b⟩:=h
  obtain ⟨r',a',b'⟩:=h'
  exact ⟨_,a.or a',b.or b'⟩
theorem OpM.as {f:Value → Value → Sem Value} {g g':G2} (h:OpM X f g) (e:∀ a b c,g' a b = some c → g a b = some c):OpM X f g':=by
  obtain ⟨r,a,b⟩:=h
  exact ⟨r,a,fun Z α F H μ p q c x y Q R ha hb hg k => b Z α F H μ p q c x y Q R ha hb (e p q c hg) k⟩
noncomputable def gAddT:G2:=fun a b => match a,b with
  | .tup xs,.tup ys => if decide (xs.length + ys.length ≤ 16777216) && !xs.isEmpty then some (.tup (xs ++ ys)) else none
  | _,_ => none
noncomputable def gAddT0:G2:=fun a b => match a,b with
  | .tup [],.tup ys => some (.tup ys)
  | _,_ => none
noncomputable def gAddL:G2:=fun a b => match a,b with
  | .lst xs,.lst ys => if xs.length + ys.length ≤ 16777216 then some (.lst (xs ++ ys)) else none
  | _,_ => none
noncomputable def gAddS:G2:=fun a b => match a,b with
  | .str xs,.str ys => if xs.length + ys.length ≤ 16777216 then some (.str (xs ++ ys)) else none
  | _,_ => none
noncomputable def gAdd:G2:=fun a b => match a,b with
  | .int i,.int j => some (.int (i + j))
  | .str xs,.str ys => if xs.length + ys.length ≤ 16777216 then some (.str (xs ++ ys)) else none
  | .tup xs,.tup ys => if xs.length + ys.length ≤ 16777216 then some (.tup (xs ++ ys)) else none
  | .lst xs,.lst ys => if xs.length + ys.length ≤ 16777216 then some (.lst (xs ++ ys)) else none
  | _,_ => none
theorem str_append (x y:List Nat):(⟨x.toArray⟩:Str) ++ (⟨y.toArray⟩:Str) = ⟨(x ++ y).toArray⟩:=by
  show Str.append _ _ = _
  unfold Str.append
  simp
theorem om_addS:OpM X (binaryOp .Add) gAddS:=by
  refine ⟨_,op_add_str,fun Z α F H μ a b c x y Q R ha hb hg k => ?_⟩
  cases a with
  | str i =>
    cases b with
    | str j =>
      have ha:=pk_str ha
      have hb:=pk_str hb
      simp only [gAddS] at hg
      split at hg
      · rename_i hl
        cases hg
        refine ⟨_,_,ha,hb,by rw [sizeLine_eq]; simpa [Str.length] using hl,?_⟩
        rw [str_append]
        exact k _ F H R (Same.refl _) (rep_str _)
      · cases hg
    | _ => cases hg
  | _ => cases hg
theorem om_addT:OpM X (binaryOp .Add) gAddT:=by
  refine ⟨_,op_catT,fun Z α F H μ a b c x y Q R ha hb hg k => ?_⟩
  cases a with
  | tup i =>
    cases b with
    | tup j =>
      have ha0:=ha
      unfold Pk Rep at ha hb
      obtain ⟨p,vs,rfl,hs,hr⟩:=ha
      obtain ⟨p',vs',rfl,hs',hr'⟩:=hb
      simp only [gAddT] at hg
      split at hg
      · rename_i hl
        cases hg
        rw [Bool.and_eq_true] at hl
        have h1:=of_decide_eq_true hl.1
        refine ⟨p,p',vs,vs',rfl,rfl,Same.tup R.sub hs,Same.tup R.sub hs',?_,by rw [sizeLine_eq,← hr.length,← hr'.length]; exact h1,fun he => ?_,fun _ q hq => ?_⟩
        · intro he
          subst he
          have:=hr.length
          cases i with
          | nil => simp at hl
          | cons _ _ => simp at this
        · subst he
          have:=hr'.length
          cases j with
          | nil => rw [List.append_nil] at k; exact k _ F H R (Same.refl _) ha0
          | cons _ _ => simp at this
        · obtain ⟨a1,a2,a3⟩:=lay_tup R (hr.append hr') hq
          exact k _ _ _ a1 a2 a3
      · cases hg
    | _ => cases hg
  | _ => cases hg
noncomputable def rCatL (K:PySem.W.Frag):R2:=fun x y H Q => ∃ l b xs zs,x = .ref l ∧ y = .ref b ∧ SqL K H l xs ∧ SqL K H b zs ∧ xs.length + zs.length ≤ sizeLine ∧ ∀ p,H p = none → Q (.ref p) (upd H p (.lst (xs ++ zs)))
theorem op_catL:OpR X (binaryOp .Add) (rCatL X.K):=by
  intro pins s σ H x y v u Q I rx ry h
  obtain ⟨l,b,xs,zs,rfl,rfl,hH,hB,hz,q⟩:=h
  cases rx
  cases ry
  obtain ⟨its,r,pl,_⟩:=I.list hH
  obtain ⟨its2,r2,pl2,_⟩:=I.list hB
  obtain ⟨m,F⟩:=I.fr
  have e1:=r.length
  have e2:=r2.length
  obtain ⟨⟨cls,dd,data,sl⟩,n,ho,hc,hd,hs⟩:=pl
  obtain ⟨⟨cls2,dd2,data2,sl2⟩,n2,ho2,hc2,hd2,hs2⟩:=pl2
  simp only at hc hd hs hc2 hd2 hs2
  subst hc hd hs hc2 hd2 hs2
  have ea:its.toArray ++ its2.toArray = (its ++ its2).toArray:=by simp
  refine concat_meets ⟨_,ho,rfl⟩ ⟨_,ho2,rfl⟩ noFill_list_add seq_list_add PySem.F.slot_list_add PySem.F.entry_list_add (PySem.F.args_list_add_2 _ _) (list_addW l b its.toArray its2.toArray n n2 _ _ sl sl2 (by simp only [List.size_toArray]; omega)) ⟨ho,ho2,?_⟩
  rw [ea]
  exact ⟨.ref _,_,I.lnew (t':=s.toks) (r.append r2) (by rw [List.length_append]; omega),rfl,q _ I.fresh⟩
theorem op_catT0:OpR X (binaryOp .Add) (fun x y H Q => ∃ a b ys,x = .ref a ∧ y = .ref b ∧ SqT X.K H a [] ∧ SqT X.K H b ys ∧ Q (.ref b) H):=by
  intro pins s σ H x y v u Q I rx ry h
  obtain ⟨a,b,ys,rfl,rfl,ha,hb,q⟩:=h
  cases rx
  cases ry
  obtain ⟨its,r1,p1,_⟩:=I.tuple ha
  obtain ⟨its2,r2,p2,_⟩:=I.tuple hb
  have e1:its.length = 0:=r1.length.symm
  obtain rfl:=List.length_eq_zero_iff.mp e1
  obtain ⟨o1,g1,c1,n1,d1⟩:=p1
  obtain ⟨o2,g2,c2,n2,d2⟩:=p2
  obtain ⟨k1,f1,w1,z1⟩:=o1
  obtain ⟨k2,f2,w2,z2⟩:=o2
  dsimp only at c1 d1 c2 d2
  subst c1 d1 c2 d2
  exact concat_meets ⟨_,g1,rfl⟩ ⟨_,g2,rfl⟩ noFill_tuple_add seq_tuple_add PySem.F.slot_tuple_add PySem.F.entry_tuple_add (PySem.F.args_tuple_add_2 _ _)
    (tuple_addW0 a b #[] its2.toArray n1 n2 f1 f2 z1 z2 rfl) ⟨g1,g2,.ref b,H,I,rfl,q⟩
theorem om_addT0:OpM X (binaryOp .Add) gAddT0:=by
  refine ⟨_,op_catT0,fun Z α F H μ a b c x y Q R ha hb hg k => ?_⟩
  cases a with
  | tup i =>
    cases i with
    | nil =>
      cases b with
      | tup j =>
        have hb0:=hb
        unfold Pk Rep at ha hb
        obtain ⟨p,vs,rfl,hs,hr⟩:=ha
        obtain ⟨p',vs',rfl,hs',hr'⟩:=hb
        cases hg
        have:=hr.length
        cases vs with
        | nil => exact ⟨p,p',vs',rfl,rfl,Same.tup R.sub hs,Same.tup R.sub hs',k _ F H R (Same.refl _) hb0⟩
        | cons _ _ => simp at this
      | _ => cases hg
    | cons _ _ => cases b <;> cases hg
  | _ => cases hg
theorem om_addL:OpM X (binaryOp .Add) gAddL:=by
  refine ⟨_,op_catL,fun Z α F H μ a b c x y Q R ha hb hg k => ?_⟩
  cases a with
  | lst i =>
    cases b with
    | lst j =>
      unfold Pk at ha hb
      obtain ⟨p,vs,rfl,hs,hr⟩:=ha
      obtain ⟨p',vs',rfl,hs',hr'⟩:=hb
      simp only [gAddL] at hg
      split at hg
      · rename_i hl
        cases hg
        refine ⟨p,p',vs,vs',rfl,rfl,hs,hs',by rw [sizeLine_eq,← hr.length,← hr'.length]; exact hl,fun q hq => ?_⟩
        obtain ⟨a1,a2,a3⟩:=lay_lst R (hr.append hr') hq
        exact k _ _ _ a1 a2 a3
      · cases hg
    | _ => cases hg
  | _ => cases hg
theorem om_add:OpM X (binaryOp .Add) gAdd:=by
  have h0:OpM X (binaryOp .Add) (gInt fun i j => some (i + j)):=⟨_,op_add,sv_int0⟩
  refine OpM.as (OpM.or h0 (OpM.or om_addS (OpM.or om_addT0 (OpM.or om_addT om_addL)))) fun a b c h => ?_
  cases a with
  | int i => cases b with
    | int j => exact h
    | _ => cases h
  | str i => cases b with
    | str j => have h:gAddS (.str i) (.str j) = some c:=h; simp only [gOr,gInt,h]
    | _ => cases h
  | tup i => cases b with
    | tup j =>
      cases i with
      | nil =>
        simp only [gAdd] at h
        split at h
        · cases h; rfl
        · cases h
      | cons i0 ir =>
        simp only [gAdd] at h
        split at h
        · rename_i hl
          cases h
          have e:gAddT (.tup (i0 :: ir)) (.tup j) = some (.tup (i0 :: ir ++ j)):=by
            simp only [gAddT,List.isEmpty_cons,Bool.not_false,Bool.and_true]
            rw [if_pos (by simpa using hl)]
          simp only [gOr,gInt,gAddS,gAddT0,e]
        · cases h
    | _ => cases h
  | lst i => cases b with
    | lst j => exact h
    | _ => cases h
  | _ => cases h
noncomputable def gSub:G2:=gInt fun i j => some (i - j)
theorem om_sub:OpM X (binaryOp .Sub) gSub:=⟨_,op_sub,sv_int0⟩
instance (i j:Int):Decidable (CMul i j):=by unfold CMul; infer_instance
instance (i j:Int):Decidable (CPow i j):=by unfold CPow; infer_instance
noncomputable def gMul:G2:=gInt fun i j => if CMul i j then some (i * j) else none
theorem om_mul:OpM X (binaryOp .Mult) gMul:=⟨_,op_mul,sv_int⟩
noncomputable def CDv (i j:Int):Prop:=0 < j ∧ j < 18446744073709551616
instance (i j:Int):Decidable (CDv i j):=by unfold CDv; infer_instance
theorem op_div:OpR X (binaryOp .FloorDiv) (rI CDv fun i j => .int (i / j)):=opI fun i j _ _ _ _ _ hc q => by
  have h1:(0:Int) < j:=hc.1
  have h2:j < 18446744073709551616:=hc.2
  refine floordiv_int (by omega) (by rw [Int.fdiv_eq_ediv_of_nonneg i (by omega)]; exact q) (.inl (PyProof.noPylong_of_log2 ?_))
  have h3:j.natAbs < 2 ^ 64:=by omega
  have h4:j.natAbs ≠ 0:=by omega
  have:=(Nat.log2_lt h4).mpr h3
  omega
noncomputable def gDiv:G2:=gInt fun i j => if CDv i j then some (i / j) else none
theorem om_div:OpM X (binaryOp .FloorDiv) gDiv:=⟨_,op_div,sv_int⟩
noncomputable def gMod:G2:=gInt fun i j => if 0 < j then some (i % j) else none
theorem om_mod:OpM X (binaryOp .Mod) gMod:=⟨_,op_mod,sv_int⟩
noncomputable def gAnd:G2:=gInt fun i j => some (Builtin.bitAnd i j)
theorem om_band:OpM X (binaryOp .BitAnd) gAnd:=⟨_,op_and,sv_int0⟩
noncomputable def gOrB:G2:=gInt fun i j => some (Builtin.bitOr i j)
theorem om_bor:OpM X (binaryOp .BitOr) gOrB:=⟨_,op_or,sv_int0⟩
noncomputable def gXor:G2:=gInt fun i j => some (Builtin.bitXor i j)
theorem om_bxor:OpM X (binaryOp .BitXor) gXor:=⟨_,op_xor,sv_int0⟩
noncomputable def gShl:G2:=gInt fun i j => if CPow i j then some (i * 2 ^ j.toNat) else none
theorem om_shl:OpM X (binaryOp .LShift) gShl:=⟨_,op_shl,sv_int⟩
noncomputable def gShr:G2:=gInt fun i j => if 0 ≤ j then some (i / 2 ^ j.toNat) else none
theorem om_shr:OpM X (binaryOp .RShift) gShr:=⟨_,op_shr,sv_int⟩
noncomputable def gLt:G2:=gIntB fun i j => decide (i < j)
noncomputable def gLe:G2:=gIntB fun i j => decide (i ≤ j)
noncomputable def gGt:G2:=gIntB fun i j => decide (j < i)
noncomputable def gGe:G2:=gIntB fun i j => decide (j ≤ i)
theorem om_lt:OpM X (compareOp .Lt) gLt:=⟨_,op_lt,sv_intB⟩
theorem om_le:OpM X (compareOp .LtE) gLe:=⟨_,op_le,sv_intB⟩
theorem om_gt:OpM X (compareOp .Gt) gGt:=⟨_,op_gt,sv_intB⟩
theorem om_ge:OpM X (compareOp .GtE) gGe:=⟨_,op_ge,sv_intB⟩
end
mutual
noncomputable def plainD:D → Bool
  | .non => true
  | .bl _ => true
  | .int _ => true
  | .str x => x.all (· < 0x110000)
  | .tup xs => plainDs xs
  | .lst xs => plainDs xs
  | .dic _ _ => false
  | .ref _ => false
noncomputable def plainDs:List D → Bool
  | [] => true
  | d :: ds => plainD d && plainDs ds
end
mutual
noncomputable def dpt:D → Nat
  | .tup xs => dpts xs + 1
  | .lst xs => dpts xs + 1
  | _ => 0
noncomputable def dpts:List D → Nat
  | [] => 0
  | d :: ds => max (dpt d) (dpts ds)
end
mutual
noncomputable def toPy:D → PyData
  | .non => .none
  | .bl b => .bool b
  | .int i => .int i
  | .str x => .str ⟨x.toArray⟩
  | .tup xs => .tuple (toPys xs)
  | .lst xs => .list (toPys xs)
  | .dic _ _ => .none
  | .ref _ => .none
noncomputable def toPys:List D → List PyData
  | [] => []
  | d :: ds => toPy d :: toPys ds
end
mutual
noncomputable def eqD:D → D → Bool
  | .non,b => match b with
    | .non => true
    | _ => false
  | .bl a,b => match b with
    | .bl c => a == c
    | .int j => (if a then 1 else 0) == j
    | _ => false
  | .int i,b => match b with
    | .int j => i == j
    | .bl c => i == (if c then 1 else 0)
    | _ => false
  | .str x,b => match b with
    | .str y => x == y
    | _ => false
  | .tup xs,b => match b with
    | .tup ys => eqDs xs ys
    | _ => false
  | .lst xs,b => match b with
    | .lst ys => eqDs xs ys
    | _ => false
  | .dic _ _,_ => false
  | .ref _,_ => false
noncomputable def eqDs:List D → List D → Bool
  | [],b => b.isEmpty
  | x :: xs,b => match b with
    | [] => false
    | y :: ys => eqD x y && eqDs xs ys
end
theorem str_eq_iff (x y:List Nat):((⟨x.toArray⟩:Str) == (⟨y.toArray⟩:Str)) = (x == y):=by
  rw [Bool.eq_iff_iff]
  simp
mutual
theorem eqv_toPy:∀ (a b:D),plainD a = true → plainD b = true → PyData.eqv (toPy a) (toPy b) = eqD a b
  | .non,b,_,hb => by cases b <;> first | (simp [plainD] at hb; done) | (simp [toPy,eqD,PyData.eqv]; done)
  | .bl a,b,_,hb => by cases b <;> first | (simp [plainD] at hb; done) | (simp [toPy,eqD,PyData.eqv]; done)
  | .int a,b,_,hb => by cases b <;> first | (simp [plainD] at hb; done) | (simp [toPy,eqD,PyData.eqv]; done)
  | .str a,b,_,hb => by
    cases b with
    | str y => simp only [toPy,eqD,PyData.eqv]; exact str_eq_iff _ _
    | dic _ _ => simp [plainD] at hb
    | ref _ => simp [plainD] at hb
    | _ => simp [toPy,eqD,PyData.eqv]
  | .tup a,b,ha,hb => by
    cases b with
    | tup b => simp only [toPy,eqD,PyData.eqv]; exact eqvs_toPys a b (by simpa [plainD] using ha) (by simpa [plainD] using hb)
    | dic _ _ => simp [plainD] at hb
    | ref _ => simp [plainD] at hb
    | _ => simp [toPy,eqD,PyData.eqv]
  | .lst a,b,ha,hb => by
    cases b with
    | lst b => simp only [toPy,eqD,PyData.eqv]; exact eqvs_toPys a b (by simpa [plainD] using ha) (by simpa [plainD] using hb)
    | dic _ _ => simp [plainD] at hb
    | ref _ => simp [plainD] at hb
    | _ => simp [toPy,eqD,PyData.eqv]
  | .dic _ _,_,ha,_ => by simp [plainD] at ha
  | .ref _,_,ha,_ => by simp [plainD] at ha
theorem eqvs_toPys:∀ (a b:List D),plainDs a = true → plainDs b = true → PyData.eqvAll (toPys a) (toPys b) = eqDs a b
  | [],[],_,_ => by simp [toPys,eqDs,PyData.eqvAll]
  | [],_ :: _,_,_ => by simp [toPys,eqDs,PyData.eqvAll]
  | _ :: _,[],_,_ => by simp [toPys,eqDs,PyData.eqvAll]
  | x :: xs,y :: ys,ha,hb => by
    simp only [plainDs,Bool.and_eq_true] at ha hb
    simp only [toPys,eqDs,PyData.eqvAll]
    rw [eqv_toPy x y ha.1 hb.1,eqvs_toPys xs ys ha.2 hb.2]
end
mutual
theorem canLay_toPy:∀ (a:D),plainD a = true → (toPy a).canLay0 = true
  | .non,_ => by simp [toPy,PyData.canLay0]
  | .bl _,_ => by simp [toPy,PyData.canLay0]
  | .int _,_ => by simp [toPy,PyData.canLay0]
  | .str x,h => by simp only [toPy,PyData.canLay0,PyData.strOk]; simpa [plainD] using h
  | .tup xs,h => by simp only [toPy,PyData.canLay0]; exact canLays_toPy xs (by simpa [plainD] using h)
  | .lst xs,h => by simp only [toPy,PyData.canLay0]; exact canLays_toPy xs (by simpa [plainD] using h)
  | .dic _ _,h => by simp [plainD] at h
  | .ref _,h => by simp [plainD] at h
theorem canLays_toPy:∀ (a:List D),plainDs a = true → PyData.canLayAll0 (toPys a) = true
  | [],_ => by simp [toPys,PyData.canLayAll0]
  | x :: xs,h => by
    simp only [plainDs,Bool.and_eq_true] at h
    simp only [toPys,PyData.canLayAll0,canLay_toPy x h.1,canLays_toPy xs h.2,Bool.and_self]
end
mutual
theorem depth_toPy:∀ (a:D),(toPy a).depth = dpt a
  | .non => by simp [toPy,PyData.depth,dpt]
  | .bl _ => by simp [toPy,PyData.depth,dpt]
  | .int _ => by simp [toPy,PyData.depth,dpt]
  | .str x => by simp [toPy,PyData.depth,dpt]
  | .tup xs => by simp only [toPy,PyData.depth,dpt]; rw [depths_toPys xs]
  | .lst xs => by simp only [toPy,PyData.depth,dpt]; rw [depths_toPys xs]
  | .dic _ _ => by simp [toPy,PyData.depth,dpt]
  | .ref _ => by simp [toPy,PyData.depth,dpt]
theorem depths_toPys:∀ (a:List D),PyData.depthAll (toPys a) = dpts a
  | [] => by simp [toPys,PyData.depthAll,dpts]
  | x :: xs => by simp only [toPys,PyData.depthAll,dpts]; rw [depth_toPy x,depths_toPys xs]
end
section
variable {X:Cx} {EX:EXT}
mutual
theorem reads_of {pins:List (Addr × Obj)} {σ:L2.St} {H F:Hp} {s:Shared} {α:List Addr} (I:Inv X pins σ H s) (sub:Same F H):∀ (d:D) (v:V) (u:Value),plainD d = true → Rep X.K F α d v → RelV v u → ∃ as,Reads s.heap u (toPy d) as
  | .non,v,u,_,h,r => by unfold Rep at h; subst h; cases r; exact ⟨_,by rw [toPy]; exact .none⟩
  | .bl b,v,u,_,h,r => by unfold Rep at h; subst h; cases r; exact ⟨_,by rw [toPy]; exact .bool b⟩
  | .int b,v,u,_,h,r => by unfold Rep at h; subst h; obtain ⟨t,rfl⟩:=r; exact ⟨_,by rw [toPy]; exact .int b t⟩
  | .str b,v,u,_,h,r => by unfold Rep at h; subst h; obtain ⟨t,rfl⟩:=r; exact ⟨_,by rw [toPy]; exact .str _ t⟩
  | .tup ds,v,u,hp,h,r => by
    unfold Rep at h
    obtain ⟨a,vs,rfl,hs,hr⟩:=h
    cases r
    obtain ⟨its,rv,⟨o,e1,e2,n,e3⟩,_⟩:=I.tuple (Same.tup sub hs)
    obtain ⟨as,q⟩:=readsAll_of I sub ds vs its (by simpa [plainD] using hp) hr rv
    exact ⟨_,by rw [toPy]; exact .tuple e1 e2 e3 (by simpa using q)⟩
  | .lst ds,v,u,hp,h,r => by
    unfold Rep at h
    obtain ⟨a,vs,rfl,hs,hr⟩:=h
    cases r
    obtain ⟨its,rv,⟨o,n,e1,e2,_,e3⟩,_⟩:=I.list (sub.seq hs)
    obtain ⟨as,q⟩:=readsAll_of I sub ds vs its (by simpa [plainD] using hp) hr rv
    exact ⟨_,by rw [toPy]; exact .list e1 e2 e3 (by simpa using q)⟩
  | .dic _ _,_,_,hp,_,_ => by simp [plainD] at hp
  | .ref _,_,_,hp,_,_ => by simp [plainD] at hp
theorem readsAll_of {pins:List (Addr × Obj)} {σ:L2.St} {H F:Hp} {s:Shared} {α:List Addr} (I:Inv X pins σ H s) (sub:Same F H):∀ (ds:List D) (vs:List V) (us:List Value),plainDs ds = true → Reps X.K F α ds vs → Vals vs us → ∃ as,ReadsAll s.heap us (toPys ds) as
  | [],vs,us,_,h,r => by unfold Reps at h; subst h; cases r; exact ⟨_,by rw [toPys]; exact .nil⟩
  | d :: ds,vs,us,hp,h,r => by
    unfold Reps at h
    obtain ⟨v,vr,rfl,h1,h2⟩:=h
    cases r with
    | cons r1 r2 =>
      simp only [plainDs,Bool.and_eq_true] at hp
      obtain ⟨as,q1⟩:=reads_of I sub d v _ hp.1 h1 r1
      obtain ⟨bs,q2⟩:=readsAll_of I sub ds vr _ hp.2 h2 r2
      exact ⟨_,by rw [toPys]; exact .cons q1 q2⟩
end
theorem reads_pk {pins:List (Addr × Obj)} {σ:L2.St} {H F:Hp} {s:Shared} {α:List Addr} (I:Inv X pins σ H s) (sub:Same F H) {d:D} {v:V} {u:Value} (hp:plainD d = true) (h:Pk X.K α F H d v) (r:RelV v u):∃ as,Reads s.heap u (toPy d) as:=by
  cases d with
  | lst ds =>
    obtain ⟨a,vs,rfl,hs,hr⟩:=h
    cases r
    obtain ⟨its,rv,⟨o,n,e1,e2,_,e3⟩,_⟩:=I.list hs
    obtain ⟨as,q⟩:=readsAll_of I sub ds vs its (by simpa [plainD] using hp) hr rv
    exact ⟨_,by rw [toPy]; exact .list e1 e2 e3 (by simpa using q)⟩
  | dic _ _ => simp [plainD] at hp
  | _ => exact reads_of (α:=α) I sub _ v u hp h r
noncomputable def cmpOk (a b:D):Bool:=plainD a && plainD b && decide (min (dpt a) (dpt b) ≤ 100)
noncomputable def gEq:G2:=fun a b => if cmpOk a b then some (.bl (eqD a b)) else none
noncomputable def gNe:G2:=fun a b => if cmpOk a b then some (.bl (!eqD a b)) else none
noncomputable def rDat (K:PySem.W.Frag) (neg:Bool):R2:=fun x y H Q => ∃ F α a b,Same F H ∧ Pk K α F H a x ∧ Pk K α F H b y ∧ cmpOk a b = true ∧ Q (.bl (if neg then !eqD a b else eqD a b)) H
theorem cmp_room {A:Around} {a b:D} (hu:A.units + 200 < cLine) (h:cmpOk a b = true):A.units + min (toPy a).depth (toPy b).depth < cLine:=by
  unfold cmpOk at h
  simp only [Bool.and_eq_true,decide_eq_true_eq] at h
  rw [depth_toPy,depth_toPy]
  omega
theorem op_eqD (hu:X.A.units + 200 < cLine):OpR X (compareOp .Eq) (rDat X.K false):=by
  intro pins s σ H x y v u Q I rx ry h
  obtain ⟨F,α,a,b,sub,ha,hb,hc,q⟩:=h
  have hc':=hc
  unfold cmpOk at hc'
  simp only [Bool.and_eq_true] at hc'
  obtain ⟨as,r1⟩:=reads_pk I sub hc'.1.1 ha rx
  obtain ⟨bs,r2⟩:=reads_pk I sub hc'.1.2 hb ry
  refine PySem.SeqAt.compareEq_reads r1 r2 (canLay_toPy _ hc'.1.1) (canLay_toPy _ hc'.1.2) (cmp_room hu hc) ?_
  rw [eqv_toPy _ _ hc'.1.1 hc'.1.2]
  exact ⟨.bl _,H,I,rfl,q⟩
theorem op_neD (hu:X.A.units + 200 < cLine):OpR X (compareOp .NotEq) (rDat X.K true):=by
  intro pins s σ H x y v u Q I rx ry h
  obtain ⟨F,α,a,b,sub,ha,hb,hc,q⟩:=h
  have hc':=hc
  unfold cmpOk at hc'
  simp only [Bool.and_eq_true] at hc'
  obtain ⟨as,r1⟩:=reads_pk I sub hc'.1.1 ha rx
  obtain ⟨bs,r2⟩:=reads_pk I sub hc'.1.2 hb ry
  refine PySem.SeqAt.compareNe_reads r1 r2 (canLay_toPy _ hc'.1.1) (canLay_toPy _ hc'.1.2) (cmp_room hu hc) ?_
  rw [eqv_toPy _ _ hc'.1.1 hc'.1.2]
  exact ⟨.bl _,H,I,rfl,q⟩
theorem om_eq (hu:X.A.units + 200 < cLine):OpM X (compareOp .Eq) gEq:=by
  refine ⟨_,op_eqD hu,fun Z α F H μ a b c x y Q R ha hb hg k => ?_⟩
  unfold gEq at hg
  split at hg
  · rename_i hc
    cases hg
    exact ⟨F,α,a,b,R.sub,ha,hb,hc,k _ F H R (Same.refl _) (rep_bl _)⟩
  · cases hg
theorem om_ne (hu:X.A.units + 200 < cLine):OpM X (compareOp .NotEq) gNe:=by
  refine ⟨_,op_neD hu,fun Z α F H μ a b c x y Q R ha hb hg k => ?_⟩
  unfold gNe at hg
  split at hg
  · rename_i hc
    cases hg
    exact ⟨F,α,a,b,R.sub,ha,hb,hc,k _ F H R (Same.refl _) (rep_bl _)⟩
  · cases hg
noncomputable def inD (x:D) (ds:List D):Bool:=ds.any fun y => eqD y x
noncomputable def inOk (x:D) (ds:List D):Bool:=plainD x && plainDs ds && decide (dpt x ≤ 100)
noncomputable def gInG (neg:Bool):G2:=fun a b => match b with
  | .lst ds => if inOk a ds then some (.bl (if neg then !inD a ds else inD a ds)) else none
  | .tup ds => if inOk a ds then some (.bl (if neg then !inD a ds else inD a ds)) else none
  | _ => none
noncomputable def gIn:G2:=gInG false
theorem in_fun {pins:List (Addr × Obj)} {σ:L2.St} {H F:Hp} {s:Shared} {α:List Addr} {A:Around} (hu:A.units + 150 < cLine) (I:Inv X pins σ H s) (sub:Same F H) {x:D} {v:V} {u:Value} (hx:plainD x = true) (hd:dpt x ≤ 100)
    (h:Pk X.K α F H x v) (r:RelV v u) (ds:List D) (vs:List V) (us:List Value) (hp:plainDs ds = true) (hr:Reps X.K F α ds vs) (rv:Vals vs us) :
    ∃ e:Value → Bool,(∀ w ∈ us,SeqAt.EqAt A s w u (e w)) ∧ us.any e = inD x ds:=by
  obtain ⟨bs,rx⟩:=reads_pk I sub hx h r
  have hone:∀ (d:D) (w:Value) (as:List Addr),plainD d = true → Reads s.heap w (toPy d) as → SeqAt.EqAt A s w u (eqD d x):=fun d w as hd' q => by
    have:=PySem.SeqAt.eqAt_reads (toPy d) (toPy x) A s w u as bs q rx (canLay_toPy _ hd') (canLay_toPy _ hx) (by rw [depth_toPy,depth_toPy]; omega)
    rw [eqv_toPy _ _ hd' hx] at this
    exact this
  classical
  let e:Value → Bool:=fun w => decide (∃ d as,plainD d = true ∧ Reads s.heap w (toPy d) as ∧ eqD d x = true)
  have he:∀ (d:D) (w:Value) (as:List Addr),plainD d = true → Reads s.heap w (toPy d) as → e w = eqD d x:=fun d w as hd' q => by
    cases hq:eqD d x with
    | true => exact decide_eq_true ⟨d,as,hd',q,hq⟩
    | false =>
      refine decide_eq_false ?_
      rintro ⟨d2,as2,hp2,q2,e2⟩
      have e3:=PySem.SeqAt.Reads.unique (toPy d) (toPy d2) w as as2 (canLay_toPy _ hd') q q2
      rw [← eqv_toPy _ _ hp2 hx,← e3,eqv_toPy _ _ hd' hx,hq] at e2
      cases e2
  have all:∀ (ds:List D) (vs:List V) (us:List Value),plainDs ds = true → Reps X.K F α ds vs → Vals vs us → (∀ w ∈ us,SeqAt.EqAt A s w u (e w)) ∧ us.any e = inD x ds:=by
    intro ds
    induction ds with
    | nil =>
      intro vs us _ hr rv
      unfold Reps at hr
      subst hr
      cases rv
      exact ⟨fun w hw => (nomatch hw),rfl⟩
    | cons d ds ih =>
      intro vs us hp hr rv
      unfold Reps at hr
      obtain ⟨v1,vr,rfl,h1,h2⟩:=hr
      simp only [plainDs,Bool.and_eq_true] at hp
      cases rv with
      | cons r1 r2 =>
        obtain ⟨as,q1⟩:=reads_of I sub d v1 _ hp.1 h1 r1
        obtain ⟨a1,a2⟩:=ih vr _ hp.2 h2 r2
        refine ⟨fun w hw => ?_,?_⟩
        · rcases List.mem_cons.mp hw with rfl | hw
          · rw [he d _ as hp.1 q1]; exact hone d _ as hp.1 q1
          · exact a1 w hw
        · rw [List.any_cons,he d _ as hp.1 q1,a2]
          rfl
  exact ⟨e,(all ds vs us hp hr rv).1,(all ds vs us hp hr rv).2⟩
noncomputable def rInD (K:PySem.W.Frag) (neg:Bool):R2:=fun x y H Q => ∃ F α a ds p vs,Same F H ∧ Pk K α F H a x ∧ y = .ref p ∧ (SqL K H p vs ∨ SqT K H p vs) ∧ Reps K F α ds vs ∧ inOk a ds = true ∧ Q (.bl (if neg then !inD a ds else inD a ds)) H
theorem op_inD (hu:X.A.units + 200 < cLine):OpR X (compareOp .In) (rInD X.K false):=by
  intro pins s σ H x y v u Q I rx ry h
  obtain ⟨F,α,a,ds,p,vs,sub,ha,rfl,hq,hr,hc,q⟩:=h
  unfold inOk at hc
  simp only [Bool.and_eq_true,decide_eq_true_eq] at hc
  cases ry
  rcases hq with hq | hq
  · obtain ⟨its,r,pl,hz⟩:=I.list hq
    obtain ⟨e,e1,e2⟩:=in_fun (A:=X.A.in1) (by show X.A.units + 1 + 150 < cLine; omega) I sub hc.1.1 hc.2 ha rx ds vs its hc.1.2 hr r
    refine SeqAt.in_listAt e pl.isList (fun w hw => e1 w (by simpa using hw)) ⟨.bl _,H,I,rfl,?_⟩
    rw [show its.toArray.any e = its.any e by simp,e2]
    exact q
  · obtain ⟨its,r,pl,hz⟩:=I.tuple hq
    obtain ⟨e,e1,e2⟩:=in_fun (A:=X.A.in1) (by show X.A.units + 1 + 150 < cLine; omega) I sub hc.1.1 hc.2 ha rx ds vs its hc.1.2 hr r
    refine SeqAt.in_tupleAt e pl (fun w hw => e1 w (by simpa using hw)) ⟨.bl _,H,I,rfl,?_⟩
    rw [show its.toArray.any e = its.any e by simp,e2]
    exact q
theorem sv_in {K:PySem.W.Frag} (neg:Bool):Serves K (rInD K neg) (gInG neg):=by
  intro Z α F H μ a b c x y Q R ha hb hg k
  cases b with
  | lst ds =>
    simp only [gInG] at hg
    split at hg
    · rename_i hc
      have hg:=Option.some.inj hg
      subst hg
      obtain ⟨p,vs,rfl,hs,hr⟩:=hb
      exact ⟨F,α,a,ds,p,vs,R.sub,ha,rfl,.inl hs,hr,hc,k _ F H R (Same.refl _) (rep_bl _)⟩
    · cases hg
  | tup ds =>
    simp only [gInG] at hg
    split at hg
    · rename_i hc
      have hg:=Option.some.inj hg
      subst hg
      unfold Pk Rep at hb
      obtain ⟨p,vs,rfl,hs,hr⟩:=hb
      exact ⟨F,α,a,ds,p,vs,R.sub,ha,rfl,.inr (Same.tup R.sub hs),hr,hc,k _ F H R (Same.refl _) (rep_bl _)⟩
    · cases hg
  | _ => cases hg
theorem om_in (hu:X.A.units + 200 < cLine):OpM X (compareOp .In) gIn:=⟨_,op_inD hu,sv_in false⟩
end
end M
set_option Elab.async false
set_option linter.all false
set_option maxRecDepth 100000
set_option maxHeartbeats 4000000
namespace M
open PySem PySem.Spec PyProof.Rows L2
noncomputable def keyD (d:D):Option DK:=match d with
  | .int i => some (.inl i)
  | .str x => some (.inr x)
  | _ => none
noncomputable def lookK:List DK → List D → DK → Option D
  | k :: ks,v :: vs,q => if k = q then some v else lookK ks vs q
  | _,_,_ => none
theorem dk_inj {a b:DK} (h:dk a = dk b):a = b:=by
  cases a with
  | inl i =>
    cases b with
    | inl j => exact congrArg _ (Sum.inl.inj h)
    | inr y => cases h
  | inr x =>
    cases b with
    | inl j => cases h
    | inr y =>
      have h2:(⟨x.toArray⟩:Str) = ⟨y.toArray⟩:=Sum.inr.inj h
      have h3:x.toArray = y.toArray:=by injection h2
      have h4:x = y:=by simpa using congrArg Array.toList h3
      rw [h4]
theorem key_pk {K:PySem.W.Frag} {α:List Addr} {F H:Hp} {d:D} {v:V} {k:DK} (h:Pk K α F H d v) (e:keyD d = some k):v = kV (dk k):=by
  cases d with
  | int i => cases e; exact pk_int h
  | str x => cases e; exact pk_str h
  | _ => cases e
theorem look_val {K:PySem.W.Frag} {F:Hp} {α:List Addr}:∀ {ks:List DK} {ds:List D} {vs:List V} {k:DK},Reps K F α ds vs → ks.length = ds.length →
    (∃ d v,lookK ks ds k = some d ∧ valV ((ks.map dk).zip vs) (dk k) = some v ∧ Rep K F α d v) ∨ (lookK ks ds k = none ∧ valV ((ks.map dk).zip vs) (dk k) = none)
  | [],_,_,_,_,_ => .inr ⟨rfl,rfl⟩
  | q :: ks,[],vs,k,_,hl => by simp at hl
  | q :: ks,d :: ds,vs,k,h,hl => by
    unfold Reps at h
    obtain ⟨v,vr,rfl,h1,h2⟩:=h
    by_cases e:q = k
    · subst e
      refine .inl ⟨d,v,by simp [lookK],?_,h1⟩
      exact valV_pos (p:=(dk q,v)) rfl
    · have e2:¬ dk q = dk k:=fun z => e (dk_inj z)
      have ih:=look_val (k:=k) h2 (by simpa using hl)
      rw [show lookK (q :: ks) (d :: ds) k = lookK ks ds k by simp [lookK,e],show valV (((q :: ks).map dk).zip (v :: vr)) (dk k) = valV ((ks.map dk).zip vr) (dk k) from valV_neg (p:=(dk q,v)) e2]
      exact ih
noncomputable def gDGet:G2:=fun a b => match a with
  | .dic ks vs => (keyD b).bind (lookK ks vs)
  | _ => none
section
variable {X:Cx} {EX:EXT} {e a b c:Expr} {pos:Pos} {m ma mb mc:MX} {es rest:List Expr}
theorem sv_dget {K:PySem.W.Frag}:Serves K (fun x y H Q => ∃ a v,x = .ref a ∧ DGet H a y (some v) ∧ Q v H) gDGet:=by
  intro Z α F H μ a b c x y Q R ha hb hg k
  cases a with
  | dic ks ds =>
    simp only [gDGet] at hg
    cases hk:keyD b with
    | none => rw [hk] at hg; cases hg
    | some q =>
      rw [hk] at hg
      have hy:=key_pk hb hk
      obtain ⟨p,vs,rfl,hs,hl,hr⟩:=ha
      rcases look_val (k:=q) hr hl with ⟨d,v,h1,h2,h3⟩ | ⟨h1,h2⟩
      · have hg:lookK ks ds q = some c:=hg
        rw [h1] at hg
        cases hg
        subst hy
        exact ⟨p,v,rfl,by rw [← h2]; exact DGet.k hs,k v F H R (Same.refl _) h3⟩
      · have hg:lookK ks ds q = some c:=hg
        rw [h1] at hg
        cases hg
  | _ => cases hg
theorem me_dget (hu:X.A.units + 200 < cLine) (ha:ME X EX a ma) (hb:ME X EX b mb) (hs:NoSl b):ME X EX (.Subscript a b pos) (mBin gDGet ma mb):=by
  obtain ⟨ta,pa,sa⟩:=ha
  obtain ⟨tb,pb,sb⟩:=hb
  exact ⟨_,pe_dget (by omega) pa pb hs,good_two (r:=fun x y H Q => ∃ a v,x = .ref a ∧ DGet H a y (some v) ∧ Q v H) sa sb sv_dget⟩
theorem RH.hold {K:PySem.W.Frag} {Z:ZS} {F H:Hp} {α:List Addr} {μ:Mu} {p:Addr} (o:HO) (r:RH K Z α F H μ) (hp:H p = none):RH K (ZS.up Z p o) α F (upd H p o) μ:=by
  have fp:F p = none:=by
    cases e:F p with
    | none => rfl
    | some u => rw [r.sub _ _ e] at hp; cases hp
  refine ⟨fun b u e => ?_,r.len,fun k a c ha hc => ?_,fun b u e => ?_,fun b u e => ?_,fun k a c ha hc hd => ?_,r.dis,r.ext⟩
  · rw [upd_ne (ne_of_none (r.sub b u e) hp)]; exact r.sub b u e
  · have h:=r.cell k a c ha hc
    exact h.go (Ext.refl _ _) (fun _ => rfl) fun hd => let ⟨_,_,z⟩:=h.live hd; upd_ne (ne_of_none z hp)
  · by_cases hb:b = p
    · subst hb; rw [up_same] at e; rw [upd_same]; exact e
    · rw [up_ne hb] at e; rw [upd_ne hb]; exact r.zs b u e
  · by_cases hb:b = p
    · subst hb; exact fp
    · rw [up_ne hb] at e; exact r.zf b u e
  · have h:=r.cell k a c ha hc
    have hz:=r.zc k a c ha hc hd
    obtain ⟨_,_,z⟩:=h.live hd
    rw [up_ne (ne_of_none z hp)]; exact hz
theorem RH.unhold {K:PySem.W.Frag} {Z:ZS} {F H:Hp} {α:List Addr} {μ:Mu} {p:Addr} {o:HO} (o':HO) (r:RH K (ZS.up Z p o) α F H μ) (hz:Z.z p = none):RH K Z α (upd F p o') (upd H p o') μ ∧ Same F (upd F p o'):=by
  have fp:F p = none:=r.zf p o up_same
  have sF:Same F (upd F p o'):=fun b u e => by rw [upd_ne (ne_of_none e fp)]; exact e
  have ex:Ext α F α (upd F p o'):=⟨sF,fun _ _ h => h⟩
  have nc:∀ (k:Nat) (a:Addr) (c:Cell),α[k]? = some a → μ[k]? = some c → c ≠ .dead → a ≠ p:=fun k a c ha hc hd z => by
    have:=r.zc k a c ha hc hd
    rw [z,up_same] at this
    cases this
  refine ⟨⟨fun b u e => ?_,r.len,fun k a c ha hc => ?_,fun b u e => ?_,fun b u e => ?_,fun k a c ha hc hd => ?_,r.dis,r.ext.trans ex⟩,sF⟩
  · by_cases hb:b = p
    · subst hb; rw [upd_same] at e ⊢; exact e
    · rw [upd_ne hb] at e ⊢; exact r.sub b u e
  · exact (r.cell k a c ha hc).go ex (fun hd => upd_ne (nc k a c ha hc hd)) fun hd => upd_ne (nc k a c ha hc hd)
  · have hb:b ≠ p:=ne_of_none e hz
    rw [upd_ne hb]
    exact r.zs b u (by rw [up_ne hb]; exact e)
  · have hb:b ≠ p:=ne_of_none e hz
    rw [upd_ne hb]
    exact r.zf b u (by rw [up_ne hb]; exact e)
  · have ne:=nc k a c ha hc hd
    have:=r.zc k a c ha hc hd
    rw [up_ne ne] at this
    exact this
noncomputable def MPs (X:Cx) (EX:EXT) (pos:Pos) (keys:List (Option Expr)) (values:List Expr) (ks:List DK) (ms:MAs):Prop :=
  keys.length = ks.length ∧ (∃ trs,PPs X pos keys values trs ∧ ∀ Z α F H σ ρ μ Q,RS X.K Z α F H σ ρ μ → GA X.K EX Z α F (fun vs H' => Q ((ks.map fun k => kV (dk k)).zip vs) H') (ms ρ μ) → tPairs trs σ H Q) ∧ ∀ ρ μ ds μ',ms ρ μ = .ok ds μ' → ds.length = ks.length
theorem mps_nil:MPs X EX pos [] [] [] mNil:=⟨rfl,⟨[],pps_nil,fun Z α F H σ ρ μ Q R g => g [] α F H R.hp (Ext.refl _ _) reps_nil⟩,fun ρ μ ds μ' h => by cases h; rfl⟩
theorem mps_cons {x:Str} {cs:List Nat} {j:Nat} {p:Pos} {v:Expr} {ks:List (Option Expr)} {vs:List Expr} {kd:List DK} {ms:MAs} (hx:x = ⟨cs.toArray⟩) (hv:ME X EX v m) (hr:MPs X EX pos ks vs kd ms) :
    MPs X EX pos (some (.Constant (.str x) j p) :: ks) (v :: vs) (.inr cs :: kd) (mCons m ms):=by
  obtain ⟨tv,pv,sv⟩:=hv
  obtain ⟨hk,⟨trs,pr,sr⟩,lr⟩:=hr
  refine ⟨by simp [hk],⟨_,pps_cons pe_str pv pr,fun Z α F H σ ρ μ Q R g => ?_⟩,fun ρ μ ds μ' h => ?_⟩
  rotate_left
  · unfold mCons at h
    cases e1:m ρ μ with
    | ok d μ1 =>
      rw [e1] at h
      simp only [bind_ok] at h
      cases e2:ms ρ μ1 with
      | ok dr μ2 =>
        rw [e2] at h
        simp only [bind_ok] at h
        cases h
        simp [lr _ _ _ _ e2]
      | exc x μ2 => rw [e2] at h; cases h
      | bad => rw [e2] at h; cases h
    | exc x μ1 => rw [e1] at h; cases h
    | bad => rw [e1] at h; cases h
  show tv σ H _
  refine sv Z α F H σ ρ μ _ R (GE.step (G:=GA X.K EX Z α F fun vs H' => Q (((Sum.inr cs :: kd).map fun k => kV (dk k)).zip vs) H') g (fun _ _ h => h) (fun h => h) fun d μ1 v α1 F1 H1 R1 e1 p1 g1 => ?_)
  refine sr Z α1 F1 H1 σ ρ μ1 _ (R.to R1 e1) (GA.step (G:=GA X.K EX Z α F fun vs H' => Q (((Sum.inr cs :: kd).map fun k => kV (dk k)).zip vs) H') g1 (fun _ _ h => h) (fun h => h) fun ds μ2 vs α2 F2 H2 R2 e2 p2 g2 => ?_)
  have:=g2 (v :: vs) α2 F2 H2 R2 (e1.trans e2) (reps_cons (p1.mono e2) p2)
  subst hx
  exact this
theorem merge_new:∀ (more acc:List (Key × V)),((acc ++ more).map (·.1)).Nodup → mergeK acc more = acc ++ more
  | [],acc,_ => by simp [mergeK]
  | kv :: more,acc,h => by
    have hn:valV acc kv.1 = none:=by
      cases e:valV acc kv.1 with
      | none => rfl
      | some v =>
        exfalso
        have hm:kv.1 ∈ acc.map (·.1):=by
          have q:(acc.any fun x => decide (x.1 = kv.1)) = true:=by rw [valV_any,e]; rfl
          obtain ⟨p,hp,e⟩:=List.any_eq_true.mp q
          exact List.mem_map.mpr ⟨p,hp,of_decide_eq_true e⟩
        rw [List.map_append,List.nodup_append] at h
        exact h.2.2 _ hm _ (by simp) rfl
    show mergeK (putK acc kv.1 kv.2) more = _
    rw [putK_new _ hn]
    rw [merge_new more (acc ++ [(kv.1,kv.2)]) (by simpa using h)]
    simp
theorem zip_map1 {β γ δ:Type} (f:β → γ):∀ (l:List β) (r:List δ),(l.map f).zip r = (l.zip r).map fun p => (f p.1,p.2)
  | [],_ => by simp
  | _ :: _,[] => by simp
  | a :: l,b :: r => by simp only [List.map_cons,List.zip_cons_cons]; rw [zip_map1 f l r]
theorem nodup_dk:∀ {ks:List DK},ks.Nodup → (ks.map dk).Nodup
  | [],_ => List.nodup_nil
  | k :: ks,h => by
    rw [List.nodup_cons] at h
    rw [List.map_cons,List.nodup_cons]
    refine ⟨fun hm => ?_,nodup_dk h.2⟩
    obtain ⟨q,hq,e⟩:=List.mem_map.mp hm
    exact h.1 (dk_inj e ▸ hq)
noncomputable def mDic (ks:List DK) (ms:MAs):MX:=fun ρ μ => (ms ρ μ).bind fun ds μ1 => .ok (.dic ks ds) μ1
theorem me_dic {keys:List (Option Expr)} {values:List Expr} {ks:List DK} {ms:MAs} (h:MPs X EX pos keys values ks ms) (nd:ks.Nodup) (hall:keys.all (·.isSome) = true) (hl:keys.length = values.length) (h0:keys ≠ []) (h15:keys.length ≤ 15) :
    ME X EX (.Dict keys values pos) (mDic ks ms):=by
  obtain ⟨hk,⟨trs,pp,sp⟩,lp⟩:=h
  refine ⟨_,pe_disp pp hall hl h0 h15,fun Z α F H σ ρ μ Q R g => ?_⟩
  intro p hp
  have hz:Z.z p = none:=by
    cases e:Z.z p with
    | none => rfl
    | some u => rw [R.hp.zs _ _ e] at hp; cases hp
  refine sp (ZS.up Z p (.dK [])) α F (upd H p (.dK [])) σ ρ μ _ ⟨R.hp.hold _ hp,R.len,R.sl⟩ (GA.stepE (G:=GE X.K EX Z α F Q) g (fun _ _ h => EX.mono _ _ _ _ _ hz h) (fun h => h) fun ds μ1 vs α1 F1 H1 hm R1 e1 p1 g1 => ?_)
  have hlen:=lp _ _ _ _ hm
  have hlen2:=p1.length
  refine ⟨R1.zs _ _ up_same,(ks.map dk).zip vs,?_,?_,?_⟩
  · show (ks.map fun k => kV (dk k)).zip vs = ((ks.map dk).zip vs).map fun kv => (kV kv.1,kv.2)
    have:(ks.map fun k => kV (dk k)) = (ks.map dk).map kV:=by simp
    rw [this]
    exact zip_map1 kV _ _
  · rw [List.length_zip,List.length_map]; omega
  · have nd2:(((ks.map dk).zip vs).map (·.1)).Nodup:=by
      rw [List.map_fst_zip (by simp; omega)]
      exact nodup_dk nd
    rw [merge_new _ [] (by simpa using nd2),List.nil_append]
    obtain ⟨R2,s2⟩:=R1.unhold (.dK ((ks.map dk).zip vs)) hz
    refine g1 _ α1 _ _ R2 (e1.trans ⟨s2,fun _ _ h => h⟩) ?_
    unfold Rep
    exact ⟨p,vs,rfl,upd_same,by omega,p1.mono ⟨s2,fun _ _ h => h⟩⟩
noncomputable abbrev GL:=List D → Option D
noncomputable def Pks (K:PySem.W.Frag) (α:List Addr) (F H:Hp):List D → List V → Prop
  | [],vs => vs = []
  | d :: ds,vs => ∃ v r,vs = v :: r ∧ Pk K α F H d v ∧ Pks K α F H ds r
theorem RH.pks {K:PySem.W.Frag} {Z:ZS} {α:List Addr} {F H:Hp} {μ:Mu} (r:RH K Z α F H μ):∀ {ds:List D} {vs:List V},Reps K F α ds vs → Pks K α F H (ds.map (deref μ)) vs
  | [],vs,h => by unfold Reps at h; exact h
  | d :: ds,vs,h => by
    unfold Reps at h
    obtain ⟨v,vr,hv,h1,h2⟩:=h
    exact ⟨v,vr,hv,r.pk h1,RH.pks r h2⟩
noncomputable def ServesL (K:PySem.W.Frag) (r:List V → Hp → VK → Prop) (g:GL):Prop:=∀ Z α F H μ ds c vs Q,RH K Z α F H μ → Pks K α F H ds vs → g ds = some c →
  (∀ v F' H',RH K Z α F' H' μ → Same F F' → Rep K F' α c v → Q v H') → r vs H Q
noncomputable def CallM (X:Cx) (f:Value) (g:GL):Prop:=∃ r,CallR X f r ∧ ServesL X.K r g
noncomputable def mCallB (g:GL) (ms:MAs):MX:=fun ρ μ => (ms ρ μ).bind fun ds μ1 => ofO μ1 (g (ds.map (deref μ1)))
theorem good_callB {t:TA} {ms:MAs} {r:List V → Hp → VK → Prop} {g:GL} (st:∀ Z α F H σ ρ μ Q,RS X.K Z α F H σ ρ μ → GA X.K EX Z α F Q (ms ρ μ) → t σ H Q) (hs:ServesL X.K r g):Good X EX (tCB r t) (mCallB g ms):=by
  intro Z α F H σ ρ μ Q R gd
  refine st Z α F H σ ρ μ _ R (GA.step (G:=GE X.K EX Z α F Q) gd (fun _ _ h => h) (fun h => h) fun ds μ1 vs α1 F1 H1 R1 e1 p1 g1 => ?_)
  cases hg:g (ds.map (deref μ1)) with
  | none => rw [hg] at g1; exact g1.elim
  | some c =>
    rw [hg] at g1
    exact hs Z α1 F1 H1 μ1 _ c vs Q R1 (R1.pks p1) hg fun v F' H' R' sf rp => g1 v α1 F' H' R' (e1.trans ⟨sf,fun _ _ h => h⟩) rp
theorem me_callB {x:Str} {p:Pos} {id:String} {g:GL} {ms:MAs} (hc:CallM X (.builtin id) g) (hg:Gl X x) (hm:X.mg x = none) (hv:bootBuiltins x = some (.builtin id)) (ha:MA X EX (e :: es) ms) (hn:x ≠ "__name__":=by decide) (hdb:(x == ("__debug__":Str)) = false:=by decide)
    (he:starEach (e :: es) X.env = (false,eval e X.env) :: starEach es X.env:=by rfl) (hpl:(backTo pos (starEach es X.env)).any (·.1) = false:=by rfl):ME X EX (.Call (.Name x p) (e :: es) [] pos) (mCallB g ms):=by
  obtain ⟨r,h1,h2⟩:=hc
  obtain ⟨t,pt,st,_⟩:=ha
  exact ⟨_,pe_callB h1 hg hm hv pt hn hdb he hpl,good_callB st h2⟩
theorem me_callTy {x:Str} {p:Pos} {T:String} {g:GL} {ms:MAs} (hc:CallM X (.type T) g) (hg:Gl X x) (hm:X.mg x = none) (hv:bootBuiltins x = some (.type T)) (ha:MA X EX (e :: es) ms) (hn:x ≠ "__name__":=by decide) (hdb:(x == ("__debug__":Str)) = false:=by decide)
    (he:starEach (e :: es) X.env = (false,eval e X.env) :: starEach es X.env:=by rfl) (hpl:(backTo pos (starEach es X.env)).any (·.1) = false:=by rfl):ME X EX (.Call (.Name x p) (e :: es) [] pos) (mCallB g ms):=by
  obtain ⟨r,h1,h2⟩:=hc
  obtain ⟨t,pt,st,_⟩:=ha
  exact ⟨_,pe_callTy h1 hg hm hv pt hn hdb he hpl,good_callB st h2⟩
noncomputable def gLen:GL:=fun ds => match ds with
  | [.lst xs] => some (.int xs.length)
  | [.tup xs] => some (.int xs.length)
  | [.str xs] => if xs.length ≤ 16777216 then some (.int xs.length) else none
  | _ => none
theorem cm_len:CallM X (.builtin "len") gLen:=by
  refine ⟨_,call_len,fun Z α F H μ ds c vs Q R hp hg k => ?_⟩
  match ds,hg with
  | [.lst xs],hg =>
    obtain ⟨v,r,rfl,⟨a,us,rfl,hs,hr⟩,hq⟩:=hp
    have hq:r = []:=hq
    subst hq
    cases hg
    exact ⟨_,_,rfl,.inl ⟨us,hs,rfl⟩,by rw [← hr.length]; exact k _ F H R (Same.refl _) (rep_int _)⟩
  | [.tup xs],hg =>
    obtain ⟨v,r,rfl,hv,hq⟩:=hp
    have hq:r = []:=hq
    subst hq
    unfold Pk Rep at hv
    obtain ⟨a,us,rfl,hs,hr⟩:=hv
    cases hg
    exact ⟨_,_,rfl,.inr ⟨us,Same.tup R.sub hs,rfl⟩,by rw [← hr.length]; exact k _ F H R (Same.refl _) (rep_int _)⟩
  | [.str xs],hg =>
    obtain ⟨v,r,rfl,hv,hq⟩:=hp
    have hq:r = []:=hq
    subst hq
    have hv:=pk_str hv
    subst hv
    simp only [gLen] at hg
    split at hg
    · rename_i hl
      cases hg
      refine ⟨_,xs.length,rfl,⟨by rw [sizeLine_eq]; simpa [Str.length] using hl,by simp [Str.length]⟩,k _ F H R (Same.refl _) (rep_int _)⟩
    · cases hg
noncomputable def gMax:GL:=fun ds => match ds with
  | [.int i,.int j] => some (.int (if j > i then j else i))
  | _ => none
noncomputable def gMin:GL:=fun ds => match ds with
  | [.int i,.int j] => some (.int (if j < i then j else i))
  | _ => none
theorem pks2 {K:PySem.W.Frag} {α:List Addr} {F H:Hp} {a b:D} {vs:List V} (h:Pks K α F H [a,b] vs):∃ v u,vs = [v,u] ∧ Pk K α F H a v ∧ Pk K α F H b u:=by
  obtain ⟨v,r,rfl,h1,u,r',rfl,h2,h3⟩:=h
  have h3:r' = []:=h3
  subst h3
  exact ⟨v,u,rfl,h1,h2⟩
theorem pks1 {K:PySem.W.Frag} {α:List Addr} {F H:Hp} {a:D} {vs:List V} (h:Pks K α F H [a] vs):∃ v,vs = [v] ∧ Pk K α F H a v:=by
  obtain ⟨v,r,rfl,h1,h3⟩:=h
  have h3:r = []:=h3
  subst h3
  exact ⟨v,rfl,h1⟩
theorem cm_max (hc:X.calm = true):CallM X (.builtin "max") gMax:=by
  refine ⟨_,call_max2 hc,fun Z α F H μ ds c vs Q R hp hg k => ?_⟩
  match ds,hg with
  | [.int i,.int j],hg =>
    obtain ⟨v,u,rfl,h1,h2⟩:=pks2 hp
    rw [pk_int h1,pk_int h2]
    cases hg
    exact ⟨i,j,rfl,k _ F H R (Same.refl _) (rep_int _)⟩
theorem cm_min (hc:X.calm = true):CallM X (.builtin "min") gMin:=by
  refine ⟨_,call_min2 hc,fun Z α F H μ ds c vs Q R hp hg k => ?_⟩
  match ds,hg with
  | [.int i,.int j],hg =>
    obtain ⟨v,u,rfl,h1,h2⟩:=pks2 hp
    rw [pk_int h1,pk_int h2]
    cases hg
    exact ⟨i,j,rfl,k _ F H R (Same.refl _) (rep_int _)⟩
noncomputable def gIntC:GL:=fun ds => match ds with
  | [.int i] => some (.int i)
  | [.bl k] => some (.int (if k then 1 else 0))
  | _ => none
theorem cm_int:CallM X (.type "int") gIntC:=by
  refine ⟨_,call_int1,fun Z α F H μ ds c vs Q R hp hg k => ?_⟩
  match ds,hg with
  | [.int i],hg =>
    obtain ⟨v,rfl,h1⟩:=pks1 hp
    rw [pk_int h1]
    cases hg
    exact .inl ⟨i,rfl,k _ F H R (Same.refl _) (rep_int _)⟩
  | [.bl i],hg =>
    obtain ⟨v,rfl,h1⟩:=pks1 hp
    rw [pk_bl h1]
    cases hg
    exact .inr ⟨i,rfl,k _ F H R (Same.refl _) (rep_int _)⟩
inductive Ki where
  | int | bool | str | list | tuple
noncomputable def Ki.nm:Ki → String
  | .int => "int"
  | .bool => "bool"
  | .str => "str"
  | .list => "list"
  | .tuple => "tuple"
noncomputable def isI (k:Ki) (d:D):Option Bool:=match d,k with
  | .non,_ => some false
  | .bl _,.bool => some true
  | .bl _,.int => some true
  | .bl _,_ => some false
  | .int _,.int => some true
  | .int _,_ => some false
  | .str _,.str => some true
  | .str _,_ => some false
  | .tup _,.tuple => some true
  | .tup _,_ => some false
  | .lst _,.list => some true
  | .lst _,_ => some false
  | .dic _ _,_ => some false
  | .ref _,_ => none
noncomputable def tyD:D → Option String
  | .non => some "NoneType"
  | .bl _ => some "bool"
  | .int _ => some "int"
  | .str _ => some "str"
  | .tup _ => some "tuple"
  | .lst _ => some "list"
  | .dic _ _ => some "dict"
  | .ref _ => none
theorem isI_kit {K:PySem.W.Frag} {k:Ki} {d:D} {b:Bool} {t:String} (h:isI k d = some b) (ht:tyD d = some t):PySem.W.kitOne K (.type t) (.type k.nm) = some b:=by
  cases d <;> cases ht <;> cases k <;> cases h <;> rfl
theorem isinst_pk {pins:List (Addr × Obj)} {σ:L2.St} {H F:Hp} {s:Shared} {α:List Addr} {A:Around} {E:Value → Shared → Prop} {Q:Value → Shared → Prop} {cl:Value} {b:Bool} {d:D} {v:V} {u:Value} {t:String}
    (I:Inv X pins σ H s) (sub:Same F H) (h:Pk X.K α F H d v) (r:RelV v u) (ht:tyD d = some t) (e:PySem.W.kitOne X.K (.type t) cl = some b) (q:∀ tk,Q (.bool b) { s with toks:=tk }) :
    wpAny (model X.prog X.w) A (call (.builtin "isinstance") [u,cl]) Q E s:=by
  cases d with
  | non => cases ht; have:=pk_non h; subst this; exact isinst_ok I r .non e q
  | bl x => cases ht; have:=pk_bl h; subst this; exact isinst_ok I r (.bl x) e q
  | int x => cases ht; have:=pk_int h; subst this; exact isinst_ok I r (.int x) e q
  | str x => cases ht; have:=pk_str h; subst this; exact isinst_ok I r (.str _) e q
  | tup x =>
    cases ht
    unfold Pk Rep at h
    obtain ⟨a,vs,rfl,hs,hr⟩:=h
    cases r
    obtain ⟨its,rv,⟨o,h1,h2,_⟩,_⟩:=I.tuple (Same.tup sub hs)
    exact PySem.W.kia_one PySem.W.kitx_tuple I.kIn ⟨o,h1,h2⟩ e (fun z => nomatch z) q
  | lst x =>
    cases ht
    obtain ⟨a,vs,rfl,hs,hr⟩:=h
    cases r
    obtain ⟨its,rv,⟨o,n,h1,h2,_⟩,_⟩:=I.list hs
    exact PySem.W.kia_one PySem.W.kitx_list I.kIn ⟨o,h1,h2⟩ e (fun z => nomatch z) q
  | dic ks x =>
    cases ht
    obtain ⟨a,vs,rfl,hs,_⟩:=h
    exact isinst_ok I r (.dK hs) e q
  | ref x => cases ht
noncomputable def mIsI (k:Ki) (m:MX):MX:=fun ρ μ => (m ρ μ).bind fun d μ1 => ofO μ1 ((isI k (deref μ1 d)).map .bl)
theorem call_isI (k:Ki):CallR X (.builtin "isinstance") (fun xs H Q => ∃ F α d v b,Same F H ∧ xs = [v,.ty k.nm] ∧ Pk X.K α F H d v ∧ isI k d = some b ∧ Q (.bl b) H):=by
  intro pins s σ H xs us Q I r h
  obtain ⟨F,α,d,v,b,sub,rfl,hp,hk,q⟩:=h
  obtain ⟨u,w',rfl,h1,h2⟩:=vals2 r
  cases h2
  obtain ⟨t,ht⟩:∃ t,tyD d = some t:=by
    cases d <;> first | exact ⟨_,rfl⟩ | (cases hk)
  exact isinst_pk I sub hp h1 ht (isI_kit hk ht) fun tk => ⟨.bl b,H,I.tok _,rfl,q⟩
theorem me_isI {x:Str} {p p2:Pos} (k:Ki) (hx:bootBuiltins x = some (.type k.nm)) (hg:Gl X "isinstance") (hm:X.mg "isinstance" = none) (hg2:Gl X x) (hm2:X.mg x = none) (ha:ME X EX e m) (hn2:x ≠ "__name__":=by decide) (hd2:(x == ("__debug__":Str)) = false:=by decide)
    (hs:starEach [e,.Name x p2] X.env = (false,eval e X.env) :: starEach [.Name x p2] X.env:=by rfl) (hs2:starEach [.Name x p2] X.env = [(false,eval (.Name x p2) X.env)]:=by rfl):ME X EX (.Call (.Name "isinstance" p) [e,.Name x p2] [] pos) (mIsI k m):=by
  obtain ⟨t,pt,st⟩:=ha
  refine ⟨_,pe_callB (call_isI k) hg hm PyProof.Rows.boot_isinstance (pa_cons pt (pa_cons (pe_bltn (v:=.ty k.nm) hg2 hm2 hx rfl hn2 hd2) pa_nil hs2) hs) (by decide) (by decide) hs (by rw [hs2]; rfl),fun Z α F H σ ρ μ Q R g => ?_⟩
  refine st Z α F H σ ρ μ _ R (GE.step (G:=GE X.K EX Z α F Q) g (fun _ _ h => h) (fun h => h) fun d μ1 v α1 F1 H1 R1 e1 p1 g1 => ?_)
  cases hk:isI k (deref μ1 d) with
  | none => rw [hk] at g1; exact g1.elim
  | some b =>
    rw [hk] at g1
    exact ⟨F1,α1,deref μ1 d,v,b,R1.sub,rfl,R1.pk p1,hk,g1 _ α1 F1 H1 R1 e1 (rep_bl _)⟩
end
end M
set_option Elab.async false
set_option linter.all false
set_option maxRecDepth 100000
set_option maxHeartbeats 4000000
namespace M
open PySem PySem.Spec PyProof.Rows L2
noncomputable def NoX:EXT:=⟨fun _ _ _ => False,fun _ _ _ _ _ _ h => h⟩
noncomputable abbrev Fn:=List D → Mu → Res D
noncomputable def noX {α:Type}:Res α → Res α
  | .exc _ _ => .bad
  | r => r
@[simp] theorem noX_ok {α:Type} (a:α) (μ:Mu):noX (.ok a μ) = .ok a μ:=rfl
noncomputable def spM (K:PySem.W.Frag) (n:Nat) (φ:Fn):Sp:=fun vs H Q _ => ∃ Z α F ds μ,RH K Z α F H μ ∧ Reps K F α ds vs ∧ ds.length = n ∧ GE K NoX Z α F Q (φ ds μ)
noncomputable def mCall (φ:Fn) (ms:MAs):MX:=fun ρ μ => (ms ρ μ).bind fun ds μ1 => noX (φ ds μ1)
section
variable {X:Cx} {EX:EXT} {e a b c:Expr} {pos:Pos} {m ma mb mc:MX} {es rest:List Expr} {ms:MAs}
theorem GE.noX {K:PySem.W.Frag} {Z:ZS} {α:List Addr} {F:Hp} {Q:VK} {r:Res D} (h:GE K EX Z α F Q (M.noX r)):GE K NoX Z α F Q r:=by
  cases r with
  | ok d μ => exact h
  | exc x μ => exact h.elim
  | bad => exact h
theorem me_call {x:Str} {p:Pos} {k:Nat} {f:Addr} {fd:FuncData} {ps:List Str} {φ:Fn} (F:FnOk X.prog X.w X.K X.mg X.base CX0 k f fd ps (spM X.K ps.length φ)) (hr:Room k X.A) (hg:Gl X x) (hm:X.mg x = some (.ref f)) (hk:PySem.W.keepIn X.K (.ref f) = true) (hb:Binds X.K fd ps [])
    (ha:MA X EX (e :: es) ms) (hl:(e :: es).length = ps.length) (hdb:(x == ("__debug__":Str)) = false:=by decide) (he:starEach (e :: es) X.env = (false,eval e X.env) :: starEach es X.env:=by rfl) (hpl:(backTo pos (starEach es X.env)).any (·.1) = false:=by rfl) :
    ME X EX (.Call (.Name x p) (e :: es) [] pos) (mCall φ ms):=by
  obtain ⟨t,pt,st,lt⟩:=ha
  refine ⟨_,pe_call F hr hg hm hk hb .nil pass0 pt hdb he hpl,fun Z α G H σ ρ μ Q R g => ?_⟩
  refine st Z α G H σ ρ μ _ R (GA.stepE (G:=GE X.K EX Z α G Q) g (fun _ _ h => h) (fun h => h) fun ds μ1 vs α1 F1 H1 hm1 R1 e1 p1 g1 => ?_)
  rw [List.append_nil]
  exact ⟨Z,α1,F1,ds,μ1,R1,p1,(lt _ _ _ _ hm1).trans hl,GE.noX (GE.ext e1 g1)⟩
variable {st:Stmt} {sts:List Stmt} {n n1 n2:MSt} {t:MB}
noncomputable def mSkip:MSt:=fun ρ μ => .ok (.nx ρ) μ
noncomputable def mSeq (n1 n2:MSt):MSt:=fun ρ μ => (n1 ρ μ).bind fun o μ1 => match o with
  | .nx ρ1 => n2 ρ1 μ1
  | o => .ok o μ1
noncomputable def mRet (m:MX):MSt:=fun ρ μ => (m ρ μ).bind fun d μ1 => .ok (.rt d) μ1
noncomputable def mRetN:MSt:=fun _ μ => .ok (.rt .non) μ
noncomputable def mDrop (m:MX):MSt:=fun ρ μ => (m ρ μ).bind fun _ μ1 => .ok (.nx ρ) μ1
noncomputable def mSet (i:Nat) (m:MX):MSt:=fun ρ μ => (m ρ μ).bind fun d μ1 => .ok (.nx (ρ.set i (some d))) μ1
noncomputable def mIte (t:MB) (n1 n2:MSt):MSt:=fun ρ μ => (t ρ μ).bind fun k μ1 => match k with
  | true => n1 ρ μ1
  | false => n2 ρ μ1
theorem mss_nil:MSs X EX [] mSkip:=⟨_,pss_nil,fun Z α F H σ ρ μ N R g => g σ α F H R (Ext.refl _ _)⟩
theorem mss_one (h:MS X EX st n):MSs X EX [st] n:=let ⟨t,p,s⟩:=h; ⟨t,pss_one p,s⟩
theorem mss_cons (h1:MS X EX st n1) (h2:MSs X EX sts n2):MSs X EX (st :: sts) (mSeq n1 n2):=by
  obtain ⟨t,p,s⟩:=h1
  obtain ⟨u,q,r⟩:=h2
  refine ⟨_,pss_cons p q,fun Z α F H σ ρ μ N R g => ?_⟩
  refine s Z α F H σ ρ μ _ R ?_
  unfold mSeq at g
  cases e:n1 ρ μ with
  | ok o μ1 =>
    rw [e] at g
    cases o with
    | nx ρ1 => exact fun σ' α' F' H' R' e' => r Z α' F' H' σ' ρ1 μ1 N R' (GS.ext e' g)
    | rt d => exact g
    | bk ρ1 => exact g
    | ct ρ1 => exact g
  | exc x μ1 => rw [e] at g; exact g
  | bad => rw [e] at g; exact g
theorem ms_ret (h:ME X EX e m):MS X EX (.Return (some e) pos) (mRet m):=by
  obtain ⟨t,p,s⟩:=h
  refine ⟨_,ps_ret p,fun Z α F H σ ρ μ N R g => ?_⟩
  exact s Z α F H σ ρ μ _ R (GE.step (G:=GS X.K EX Z α F N) g (fun _ _ h => h) (fun h => h) fun d μ1 v α1 F1 H1 R1 e1 p1 g1 => g1 v α1 F1 H1 R1 e1 p1)
theorem ms_expr (h:ME X EX e m) (hs:swapsWith e none pos.line X.env = pure false:=by rfl):MS X EX (.Expr e pos) (mDrop m):=by
  obtain ⟨t,p,s⟩:=h
  refine ⟨_,ps_expr p hs,fun Z α F H σ ρ μ N R g => ?_⟩
  exact s Z α F H σ ρ μ _ R (GE.step (G:=GS X.K EX Z α F N) g (fun _ _ h => h) (fun h => h) fun d μ1 v α1 F1 H1 R1 e1 p1 g1 => g1 σ α1 F1 H1 (R.to R1 e1) e1)
theorem RS.set {K:PySem.W.Frag} {Z:ZS} {F H:Hp} {α:List Addr} {σ:L2.St} {ρ:En} {μ:Mu} {d:D} {v:V} (i:Nat) (R:RS K Z α F H σ ρ μ) (p:Rep K F α d v):RS K Z α F H (σ.set i (some v)) (ρ.set i (some d)) μ:=by
  refine ⟨R.hp,by simpa using R.len,fun j e h => ?_⟩
  by_cases hj:j = i
  · subst hj
    have hl:j < ρ.length:=by
      have:=(List.getElem?_eq_some_iff.mp h).1
      simpa using this
    rw [List.getElem?_set_self hl] at h
    cases h
    exact ⟨v,List.getElem?_set_self (by rw [← R.len]; exact hl),p⟩
  · rw [List.getElem?_set_ne (Ne.symm hj)] at h
    obtain ⟨u,h1,h2⟩:=R.sl j e h
    exact ⟨u,by rw [List.getElem?_set_ne (Ne.symm hj)]; exact h1,h2⟩
theorem ms_set {i:Nat} {x:Str} {pos':Pos} (hN:X.N.Nodup) (hi:X.N[i]? = some x) (hx:Loc X.env.scope x) (hf:X.fn x = true ∨ X.env.scope.names.lookup x = some .local) (h:ME X EX e m) (hs:swapsWith e (some (.Name x pos')) pos.line X.env = pure false:=by rfl) :
    MS X EX (.Assign [.Name x pos'] e pos) (mSet i m):=by
  obtain ⟨t,p,s⟩:=h
  refine ⟨_,ps_set hN hi hx p hs hf,fun Z α F H σ ρ μ N R g => ?_⟩
  exact s Z α F H σ ρ μ _ R (GE.step (G:=GS X.K EX Z α F N) g (fun _ _ h => h) (fun h => h) fun d μ1 v α1 F1 H1 R1 e1 p1 g1 => g1 _ α1 F1 H1 ((R.to R1 e1).set i p1) e1)
theorem ms_if {sa sb:List Stmt} (hc:MT X EX c t) (ha:MSs X EX sa n1) (hb:MSs X EX sb n2):MS X EX (.If c sa sb pos) (mIte t n1 n2):=by
  obtain ⟨tc,pc,sc⟩:=hc
  obtain ⟨ta,pa,ga⟩:=ha
  obtain ⟨tb,pb,gb⟩:=hb
  refine ⟨_,ps_if pc pa pb,fun Z α F H σ ρ μ N R g => ?_⟩
  refine sc Z α F H σ ρ μ _ R (GB.step (G:=GS X.K EX Z α F N) g (fun _ _ h => h) (fun h => h) fun k μ1 α1 F1 H1 R1 e1 g1 => ?_)
  cases k with
  | true => exact ga Z α1 F1 H1 σ ρ μ1 N (R.to R1 e1) (GS.ext e1 g1)
  | false => exact gb Z α1 F1 H1 σ ρ μ1 N (R.to R1 e1) (GS.ext e1 g1)
noncomputable abbrev MG:=D → En → Option En
noncomputable def MTg (X:Cx) (tg:Expr) (mg:MG):Prop:=∃ g:TG,PG X tg g ∧ ∀ Z α F H σ ρ μ v d ρ' Q,RS X.K Z α F H σ ρ μ → Rep X.K F α d v → mg d ρ = some ρ' → (∀ σ',RS X.K Z α F H σ' ρ' μ → Q σ' H) → g v σ H Q
noncomputable def gN (i:Nat):MG:=fun d ρ => some (ρ.set i (some d))
theorem mt_name {i:Nat} {x:Str} (hN:X.N.Nodup) (hi:X.N[i]? = some x) (hx:Loc X.env.scope x) (hf:X.fn x = true ∨ X.env.scope.names.lookup x = some .local):MTg X (.Name x pos) (gN i) :=
  ⟨_,pg_name hN hi hx hf,fun Z α F H σ ρ μ v d ρ' Q R p h k => by cases h; exact k _ (R.set i p)⟩
noncomputable def forGo (tg:MG) (n:MSt):List D → En → Mu → Res Out
  | [],ρ,μ => .ok (.nx ρ) μ
  | d :: ds,ρ,μ => match tg d ρ with
    | none => .bad
    | some ρ1 => (n ρ1 μ).bind fun o μ1 => match o with
      | .nx ρ2 => forGo tg n ds ρ2 μ1
      | .ct ρ2 => forGo tg n ds ρ2 μ1
      | .bk ρ2 => .ok (.nx ρ2) μ1
      | .rt d => .ok (.rt d) μ1
noncomputable abbrev MIt:=En → Mu → Res (List D)
noncomputable def mFor (tg:MG) (it:MIt) (n:MSt):MSt:=fun ρ μ => (it ρ μ).bind fun ds μ1 => forGo tg n ds ρ μ1
noncomputable def WalkOk (K:PySem.W.Frag) (α:List Addr) (F:Hp) (J:It) (ds:List D):Prop :=
  ∀ (Z:ZS) α' F' H' (μ':Mu),RH K Z α' F' H' μ' → Ext α F α' F' → ∀ i,(i < ds.length → J.go i H' ∧ ∀ x H2,J.yld i H' x H2 → ∃ d F2,ds[i]? = some d ∧ RH K Z α' F2 H2 μ' ∧ Same F' F2 ∧ Rep K F2 α' d x) ∧ (ds.length = i → J.stop i H')
noncomputable def MI (X:Cx) (EX:EXT) (tg e:Expr) (m:MIt):Prop:=∃ wi:TI,PI X tg e wi ∧ ∀ Z α F H σ ρ μ Rr,RS X.K Z α F H σ ρ μ →
  (match m ρ μ with
    | .ok ds μ' => ∀ J α' F' H',RH X.K Z α' F' H' μ' → Ext α F α' F' → WalkOk X.K α' F' J ds → Rr J H'
    | .exc x μ' => EX.P Z x μ'
    | .bad => False) → wi σ H Rr
theorem ms_for {tg it:Expr} {body:List Stmt} {mi:MIt} {g:MG} (hp:PassesOwn (model X.prog X.w) X.A X.env X.xe) (hc:X.calm = true) (hi:MI X EX tg it mi) (hg:MTg X tg g) (hb:MSs X EX body n)
    (hs:∀ x,foldedSetIterable it X.env x = pure x:=by intro _; rfl):MS X EX (.For tg it body [] pos) (mFor g mi n):=by
  obtain ⟨wi,pi,si⟩:=hi
  obtain ⟨tgt,pg,sg⟩:=hg
  obtain ⟨tb,pb,sb⟩:=hb
  refine ⟨_,ps_for hp hc pi pg pb hs,fun Z α F H σ ρ μ N R gd => ?_⟩
  refine si Z α F H σ ρ μ _ R ?_
  unfold mFor at gd
  cases hm:mi ρ μ with
  | exc x μ1 => rw [hm] at gd; exact gd
  | bad => rw [hm] at gd; exact gd
  | ok ds μ1 =>
    rw [hm] at gd
    intro J α1 F1 H1 R1 e1 wk
    let W:Nat → Nat → L2.St → Hp → Prop:=fun i k σ' H' => k = ds.length - i ∧ i ≤ ds.length ∧ ∃ α' F' ρ' μ',RS X.K Z α' F' H' σ' ρ' μ' ∧ Ext α1 F1 α' F' ∧ GS X.K EX Z α' F' N (forGo g n (ds.drop i) ρ' μ')
    refine ⟨W,⟨ds.length,rfl,Nat.zero_le _,α1,F1,ρ,μ1,R.to R1 e1,Ext.refl _ _,GS.ext e1 gd⟩,?_⟩
    rintro i k σ2 H2 ⟨rfl,hi2,α2,F2,ρ2,μ2,R2,e2,g2⟩
    obtain ⟨w1,w2⟩:=wk Z α2 F2 H2 μ2 R2.hp e2 i
    by_cases hlt:i < ds.length
    · obtain ⟨w3,w4⟩:=w1 hlt
      refine .inr ⟨w3,fun σ' H' => W (i + 1) (ds.length - (i + 1)) σ' H',fun σ' H' h => ⟨_,by omega,h⟩,fun x H3 y => ?_⟩
      obtain ⟨d,F3,hd,R3,s3,p3⟩:=w4 x H3 y
      have e3:Ext α2 F2 α2 F3:=⟨s3,fun _ _ h => h⟩
      rw [List.drop_eq_getElem_cons hlt] at g2
      have hd':ds[i] = d:=by
        rw [List.getElem?_eq_getElem hlt] at hd
        exact Option.some.inj hd
      rw [hd'] at g2
      have R3':RS X.K Z α2 F3 H3 σ2 ρ2 μ2:=R2.to R3 e3
      simp only [forGo] at g2
      cases ht:g d ρ2 with
      | none => rw [ht] at g2; exact g2.elim
      | some ρ4 =>
        rw [ht] at g2
        simp only at g2
        refine sg Z α2 F3 H3 σ2 ρ2 μ2 x d ρ4 _ R3' p3 ht fun σ4 R4 => ?_
        refine sb Z α2 F3 H3 σ4 ρ4 μ2 _ R4 ?_
        cases hn:n ρ4 μ2 with
        | exc x μ1 => rw [hn] at g2; exact g2
        | bad => rw [hn] at g2; exact g2
        | ok o μ5 =>
          rw [hn] at g2
          cases o with
          | nx ρ5 => exact fun σ' α' F' H' R' e' => ⟨rfl,hlt,α',F',ρ5,μ5,R',e2.trans (e3.trans e'),GS.ext (e3.trans e') g2⟩
          | ct ρ5 => exact fun σ' α' F' H' R' e' => ⟨rfl,hlt,α',F',ρ5,μ5,R',e2.trans (e3.trans e'),GS.ext (e3.trans e') g2⟩
          | bk ρ5 => exact fun σ' α' F' H' R' e' => g2 σ' α' F' H' R' (e3.trans e')
          | rt d => exact fun v α' F' H' R' e' q => g2 v α' F' H' R' (e3.trans e') q
    · refine .inl ⟨w2 (by omega),?_⟩
      rw [List.drop_eq_nil_of_le (by omega)] at g2
      exact g2 σ2 α2 F2 H2 R2 (Ext.refl _ _)
noncomputable def rangeD (n:Nat):List D:=(List.range n).map fun k => .int (k:Nat)
noncomputable def asRange (ds:List D):Option (List D):=match ds with
  | [.int j] => if -(2 ^ 62) ≤ j ∧ j < 2 ^ 62 then some (rangeD j.toNat) else none
  | _ => none
noncomputable def mRange1 (m:MX):MIt:=fun ρ μ => (m ρ μ).bind fun d μ1 => ofO μ1 (asRange [d])
theorem walk_range {K:PySem.W.Frag} {F:Hp} {α:List Addr} (n:Nat):WalkOk K α F (Itr 0 n) (rangeD n):=by
  intro Z α' F' H' μ' R e i
  have hl:(rangeD n).length = n:=by simp [rangeD]
  refine ⟨fun h => ⟨by rw [hl] at h; exact h,fun x H2 y => ?_⟩,fun h => by rw [hl] at h; exact Nat.le_of_eq h⟩
  obtain ⟨rfl,rfl⟩:=y
  rw [hl] at h
  refine ⟨.int (i:Nat),F',by simp [rangeD,h],R,Same.refl _,?_⟩
  rw [Int.zero_add]
  exact rep_int _
theorem mi_range1 {tg:Expr} {p:Pos} (hg:Gl X "range") (hm:X.mg "range" = none) (ha:ME X EX a m) (hs:starEach [a] X.env = [(false,eval a X.env)]:=by rfl):MI X EX tg (.Call (.Name "range" p) [a] [] pos) (mRange1 m):=by
  obtain ⟨t,pt,st⟩:=ha
  refine ⟨_,pi_range1 hg hm (pa_cons pt pa_nil hs) hs,fun Z α F H σ ρ μ Rr R g => ?_⟩
  unfold mRange1 at g
  refine st Z α F H σ ρ μ _ R ?_
  cases h1:m ρ μ with
  | exc x μ1 => rw [h1] at g; exact g
  | bad => rw [h1] at g; exact g
  | ok d μ1 =>
    rw [h1] at g
    intro v α' F' H' R' e' p
    cases d with
    | int j =>
      unfold Rep at p
      subst p
      simp only [bind_ok,asRange] at g
      by_cases hj:-(2 ^ 62) ≤ j ∧ j < 2 ^ 62
      · rw [if_pos hj] at g
        exact ⟨j,rfl,hj.1,hj.2,g _ α' F' H' R' e' (walk_range _)⟩
      · rw [if_neg hj] at g; exact g.elim
    | _ => exact g.elim
noncomputable def asSeqL (d:D):Option (List D):=match d with
  | .lst xs => some xs
  | _ => none
noncomputable def asSeqT (d:D):Option (List D):=match d with
  | .tup xs => some xs
  | _ => none
noncomputable def mOverL (m:MX):MIt:=fun ρ μ => (m ρ μ).bind fun d μ1 => ofO μ1 (asSeqL d)
noncomputable def mOverT (m:MX):MIt:=fun ρ μ => (m ρ μ).bind fun d μ1 => ofO μ1 (asSeqT d)
theorem walk_list {K:PySem.W.Frag} {F:Hp} {α:List Addr} {a:Addr} {ds:List D} {vs:List V} (hs:SqL K F a vs) (hr:Reps K F α ds vs):WalkOk K α F (Itl K a) ds:=by
  intro Z α' F' H' μ' R e i
  have hl:=hr.length
  have hq:SqL K H' a vs:=(e.fr.trans R.sub).seq hs
  refine ⟨fun h => ?_,fun h => ⟨vs,hq,by omega⟩⟩
  obtain ⟨v,h1,h2⟩:=hr.get (List.getElem?_eq_getElem h)
  refine ⟨⟨vs,v,hq,h1⟩,fun x H2 y => ?_⟩
  obtain ⟨rfl,y⟩:=y
  have hx:=y vs hq
  rw [h1] at hx
  cases hx
  exact ⟨_,F',List.getElem?_eq_getElem h,R,Same.refl _,h2.mono e⟩
theorem mi_list {tg:Expr} (ha:ME X EX a m):MI X EX tg a (mOverL m):=by
  obtain ⟨t,pt,st⟩:=ha
  refine ⟨_,pi_list pt,fun Z α F H σ ρ μ Rr R g => ?_⟩
  unfold mOverL at g
  refine st Z α F H σ ρ μ _ R ?_
  cases h1:m ρ μ with
  | exc x μ1 => rw [h1] at g; exact g
  | bad => rw [h1] at g; exact g
  | ok d μ1 =>
    rw [h1] at g
    intro v α' F' H' R' e' p
    cases d with
    | lst ds =>
      unfold Rep at p
      obtain ⟨b,vs,rfl,hs,hr⟩:=p
      exact ⟨b,rfl,⟨vs,R'.sub.seq hs⟩,g _ α' F' H' R' e' (walk_list hs hr)⟩
    | _ => exact g.elim
end
noncomputable def fin (r:Res Out):Res D:=r.bind fun o μ1 => match o with
  | .rt d => .ok d μ1
  | .nx _ => .ok .non μ1
  | _ => .bad
noncomputable def fnOf (k:Nat) (n:MSt):Fn:=fun ds μ => fin (n (ds.map some ++ List.replicate k none) μ)
section
variable {P:Program} {w:World} {K:PySem.W.Frag} {mg:Str → Option Value} {base:Heap}
theorem rs_start {Z:ZS} {F H:Hp} {α:List Addr} {μ:Mu} {ds:List D} {vs:List V} (N:List Str) (k:Nat) (hk:N.length - vs.length = k) (R:RH K Z α F H μ) (r:Reps K F α ds vs):RS K Z α F H (start N vs) (ds.map some ++ List.replicate k none) μ:=by
  have hl:=r.length
  refine ⟨R,by simp [L2.start,hl,hk],fun i d h => ?_⟩
  by_cases hi:i < ds.length
  · rw [List.getElem?_append_left (by simpa using hi),List.getElem?_map] at h
    cases e:ds[i]? with
    | none => rw [e] at h; cases h
    | some d' =>
      rw [e] at h
      cases h
      obtain ⟨v,h1,h2⟩:=r.get e
      refine ⟨v,?_,h2⟩
      unfold L2.start
      rw [List.getElem?_append_left (by rw [List.length_map]; omega),List.getElem?_map,h1]
      rfl
  · rw [List.getElem?_append_right (by simp; omega)] at h
    have:=List.getElem?_replicate (a:=(none:Option D)) (n:=k) (i:=i - (ds.map some).length)
    rw [this] at h
    split at h <;> cases h
theorem fn_ok {x qual:Str} {st:Stmt} {f:Addr} {fd:FuncData} {N ps:List Str} {k j:Nat} {n:MSt} (F:Fun K x qual st f fd) (S:FnScope N ps (defScope st)) (hj:N.length - ps.length = j)
    (hb:∀ (cdv:Value) (A:Around) (outer:List Env) (s:Shared) (H:Hp) (E:XK),Room k (A.deeper (envOfC qual (defScope st) s.heap.objs.size f cdv)) →
      MSs (cxOf CX0 P w K mg base N qual (defScope st) f cdv A outer s H E).nox NoX (defBody st) n):FnOk P w K mg base CX0 (k + 1) f fd ps (spM K ps.length (fnOf j n)):=by
  refine F.ok S (fun vs H Q E h => ?_) (fun cdv A outer s H vs Q E hr h => ?_)
  · obtain ⟨Z,α,G,ds,μ,R,r,hl,_⟩:=h
    rw [← hl,r.length]
  · obtain ⟨Z,α,G,ds,μ,R,r,hl,g⟩:=h
    obtain ⟨t,p,s'⟩:=hb cdv A outer s H E hr
    refine ⟨t,p,s' Z α G H (start N vs) (ds.map some ++ List.replicate j none) μ _ (rs_start N j (by rw [← r.length,hl]; exact hj) R r) ?_⟩
    unfold fnOf fin at g
    cases e:n (ds.map some ++ List.replicate j none) μ with
    | exc x μ1 => rw [e] at g; exact g
    | bad => rw [e] at g; exact g
    | ok o μ1 =>
      rw [e] at g
      cases o with
      | rt d => exact g
      | nx ρ => exact fun σ' α' F' H' R' e' => g .non α' F' H' R'.hp e' rep_non
      | bk ρ => exact g.elim
      | ct ρ => exact g.elim
structure Ct (X:Cx) (N G:List Str):Prop where
  hN:X.N = N
  nd:N.Nodup
  loc:∀ x ∈ N,Loc X.env.scope x ∧ (x == ("__debug__":Str)) = false ∧ (x == ("__classdict__":Str)) = false
  gl:∀ x ∈ G,Gl X x
  fn:∀ x,X.fn x = true
  calm:X.calm = true
  un:X.A.units + 200 < cLine
theorem Ct.ndX {X:Cx} {N G:List Str} (C:Ct X N G):X.N.Nodup:=by rw [C.hN]; exact C.nd
theorem Ct.at {X:Cx} {N G:List Str} (C:Ct X N G) {i:Nat} {x:Str} (h:N[i]? = some x):X.N[i]? = some x:=by rw [C.hN]; exact h
theorem mem_at {N:List Str} {i:Nat} {x:Str} (h:N[i]? = some x):x ∈ N:=List.mem_of_getElem? h
theorem Loc.vis {sc:Scope} {x:Str} (h:Loc sc x):Vis sc x:=h.elim .inl fun z => .inr (.inl z)
theorem sv {X:Cx} {EX:EXT} {N G:List Str} (C:Ct X N G) (i:Nat) {x:Str} {pos:Pos} (h:N[i]? = some x):ME X EX (.Name x pos) (mVar i) :=
  me_var (C.at h) (Loc.vis (C.loc x (mem_at h)).1) (C.loc x (mem_at h)).2.1 (C.loc x (mem_at h)).2.2
theorem sa {X:Cx} {EX:EXT} {N G:List Str} (C:Ct X N G) (i:Nat) {x:Str} {pos pos':Pos} {e:Expr} {m:MX} (h:N[i]? = some x) (he:ME X EX e m) (hs:swapsWith e (some (.Name x pos')) pos.line X.env = pure false:=by rfl) :
    MS X EX (.Assign [.Name x pos'] e pos) (mSet i m):=ms_set (C.ndX) (C.at h) (C.loc x (mem_at h)).1 (.inl (C.fn x)) he hs
theorem st {X:Cx} {N G:List Str} (C:Ct X N G) (i:Nat) {x:Str} {pos:Pos} (h:N[i]? = some x):MTg X (.Name x pos) (gN i):=mt_name (C.ndX) (C.at h) (C.loc x (mem_at h)).1 (.inl (C.fn x))
theorem Ct.g {X:Cx} {N G:List Str} (C:Ct X N G) (j:Nat) {x:Str} (h:G[j]? = some x):Gl X x:=C.gl x (mem_at h)
theorem ct_of {CX:CXT} {N G:List Str} {qual:Str} {sc:Scope} {f:Addr} {cdv:Value} {A:Around} {outer:List Env} {s:Shared} {H:Hp} {E:XK} {k:Nat} (nd:N.Nodup)
    (loc:∀ x ∈ N,Loc sc x ∧ (x == ("__debug__":Str)) = false ∧ (x == ("__classdict__":Str)) = false) (gl:∀ x ∈ G,sc.names.lookup x = some .globalImplicit) (hr:Room k (A.deeper (envOfC qual sc s.heap.objs.size f cdv))) :
    Ct (cxOf CX P w K mg base N qual sc f cdv A outer s H E).nox N G :=
  ⟨rfl,nd,loc,gl,fun _ => rfl,rfl,by have:=hr.un; show (A.deeper _).units + 200 < cLine; omega⟩
end
end M
set_option Elab.async false
set_option linter.all false
set_option maxRecDepth 100000
set_option maxHeartbeats 4000000
namespace M
open PySem PySem.Spec PyProof.Rows L2
noncomputable def mNeg (m:MX):MX:=fun ρ μ => (m ρ μ).bind fun d μ1 => ofO μ1 (match d with
  | .int i => some (.int (-i))
  | _ => none)
theorem me_neg {X:Cx} {EX:EXT} {e:Expr} {pos:Pos} {m:MX} (h:ME X EX e m):ME X EX (.UnaryOp .USub e pos) (mNeg m):=by
  obtain ⟨t,p,s⟩:=h
  refine ⟨_,pe_un un_neg p,fun Z α F H σ ρ μ Q R g => ?_⟩
  refine s Z α F H σ ρ μ _ R (GE.step (G:=GE X.K EX Z α F Q) g (fun _ _ h => h) (fun h => h) fun d μ1 v α1 F1 H1 R1 e1 p1 g1 => ?_)
  cases d with
  | int i => unfold Rep at p1; exact ⟨i,p1,g1 _ α1 F1 H1 R1 e1 (rep_int _)⟩
  | _ => exact g1.elim
theorem boot_bool:bootBuiltins "bool" = some (.type "bool"):=by decide +kernel
theorem boot_list:bootBuiltins "list" = some (.type "list"):=by decide +kernel
noncomputable def ConstAt (K:PySem.W.Frag) (mg:Str → Option Value) (x:Str) (d:D):Prop:=∃ v u,mg x = some u ∧ RelV v u ∧ ∀ F α,Rep K F α d v
theorem me_const {X:Cx} {EX:EXT} {x:Str} {d:D} {pos:Pos} (c:ConstAt X.K X.mg x d) (hg:Gl X x) (hd:(x == ("__debug__":Str)) = false:=by decide):ME X EX (.Name x pos) (mC d):=by
  obtain ⟨v,u,h1,h2,h3⟩:=c
  exact me_c (pe_glob hg h1 h2 hd) h3
noncomputable def BindsS (fd:FuncData) (ps:List Str):Prop:=∀ us:List Value,us.length = ps.length → bindArgs fd ⟨us,[]⟩ = pure (ps.zip us)
noncomputable def DefAt (K:PySem.W.Frag) (mg:Str → Option Value) (x:Str) (st:Stmt) (ps:List Str):Prop:=∃ f fd,mg x = some (.ref f) ∧ Fun K x x st f fd ∧ BindsS fd ps
noncomputable def FnAt (P:Program) (w:World) (K:PySem.W.Frag) (mg:Str → Option Value) (base:Heap) (x:Str) (k n:Nat) (φ:Fn):Prop :=
  ∃ f fd ps,mg x = some (.ref f) ∧ PySem.W.keepIn K (.ref f) = true ∧ BindsS fd ps ∧ ps.length = n ∧ FnOk P w K mg base CX0 k f fd ps (spM K n φ)
theorem fnOk_of {P:Program} {w:World} {K:PySem.W.Frag} {mg:Str → Option Value} {base:Heap} {x:Str} {st:Stmt} {N ps:List Str} {k j n:Nat} {b:MSt} {f:Addr} {fd:FuncData} (F:Fun K x x st f fd) (S:FnScope N ps (defScope st)) (hj:N.length - ps.length = j) (hn:ps.length = n)
    (hb:∀ (cdv:Value) (A:Around) (outer:List Env) (s:Shared) (H:Hp) (E:XK),Room k (A.deeper (envOfC x (defScope st) s.heap.objs.size f cdv)) →
      MSs (cxOf CX0 P w K mg base N x (defScope st) f cdv A outer s H E).nox NoX (defBody st) b):FnOk P w K mg base CX0 (k + 1) f fd ps (spM K n (fnOf j b)):=by
  subst hn
  exact fn_ok F S hj hb
theorem fnAt_of {P:Program} {w:World} {K:PySem.W.Frag} {mg:Str → Option Value} {base:Heap} {x:Str} {st:Stmt} {ps:List Str} {k n:Nat} {φ:Fn} (D:DefAt K mg x st ps) (hn:ps.length = n)
    (hb:∀ (f:Addr) (fd:FuncData),Fun K x x st f fd → FnOk P w K mg base CX0 k f fd ps (spM K n φ)):FnAt P w K mg base x k n φ:=by
  obtain ⟨f,fd,h1,h2,h3⟩:=D
  exact ⟨f,fd,ps,h1,h2.kp,h3,hn,hb f fd h2⟩
theorem def_mk {K:PySem.W.Frag} {mg:Str → Option Value} {h:Heap} {x:Str} {st:Stmt} {ps:List Str} {f:Addr} {oc:Value} {od an:Option Addr} {osl:Array (Option Value)} {kV doc pm cdv ct:Value} (X:K.In h) (G:h.Ns mainGlobals mg)
    (a:PySem.W.nsIn K mainGlobals x = some (some (.ref f))) (l:K.lookup f = some ⟨oc,od,.func (PySem.W.fnOf x x (defArgs st) (defBody st) (defScope st) .none kV doc pm an cdv ct),osl⟩)
    (c:PySem.W.codeIn K cdv x = true) (k:PySem.W.keepIn K (.ref f) = true) (hb:BindsS (PySem.W.fnOf x x (defArgs st) (defBody st) (defScope st) .none kV doc pm an cdv ct) ps):DefAt K mg x st ps :=
  ⟨f,_,PySem.W.mg_of X G a,fun_mk (st:=st) l c k,hb⟩
theorem const_int {K:PySem.W.Frag} {mg:Str → Option Value} {h:Heap} {x:Str} {i:Int} {t:Tok} (X:K.In h) (G:h.Ns mainGlobals mg) (a:PySem.W.nsIn K mainGlobals x = some (some (.int i t))):ConstAt K mg x (.int i) :=
  ⟨.int i,_,PySem.W.mg_of X G a,⟨t,rfl⟩,fun _ _ => rep_int i⟩
theorem const_tup {K:PySem.W.Frag} {mg:Str → Option Value} {h:Heap} {x:Str} {p:Addr} {od:Option Addr} {its:Array Value} {n:Nat} {sl:Array (Option Value)} {ds:List D} {vs:List V} (X:K.In h) (G:h.Ns mainGlobals mg)
    (a:PySem.W.nsIn K mainGlobals x = some (some (.ref p))) (l:K.lookup p = some ⟨.type "tuple",od,.seq its n,sl⟩) (hz:its.size ≤ 16777216) (hv:Vals vs its.toList) (hr:∀ F α,Reps K F α ds vs):ConstAt K mg x (.tup ds) :=
  ⟨.ref p,_,PySem.W.mg_of X G a,rfl,fun F α => by unfold Rep; exact ⟨p,vs,rfl,.inr ⟨_,its,n,l,rfl,rfl,by rw [sizeLine_eq]; exact hz,hv⟩,hr F α⟩⟩
theorem reps_ints {K:PySem.W.Frag} {F:Hp} {α:List Addr}:∀ ns:List Int,Reps K F α (ns.map D.int) (ns.map V.int)
  | [] => reps_nil
  | n :: ns => reps_cons (rep_int n) (reps_ints ns)
theorem me_fn {X:Cx} {EX:EXT} {x:Str} {p pos:Pos} {k n:Nat} {φ:Fn} {e:Expr} {es:List Expr} {ms:MAs} (F:FnAt X.prog X.w X.K X.mg X.base x k n φ) (hr:Room k X.A) (hg:Gl X x)
    (ha:MA X EX (e :: es) ms) (hl:(e :: es).length = n) (hdb:(x == ("__debug__":Str)) = false:=by decide) (he:starEach (e :: es) X.env = (false,eval e X.env) :: starEach es X.env:=by rfl) (hpl:(backTo pos (starEach es X.env)).any (·.1) = false:=by rfl) :
    ME X EX (.Call (.Name x p) (e :: es) [] pos) (mCall φ ms):=by
  obtain ⟨f,fd,ps,h1,h2,h3,h4,h5⟩:=F
  subst h4
  exact me_call h5 hr hg h1 h2 (.all h3) ha hl hdb he hpl
noncomputable def locB (sc:Scope) (N:List Str):Bool:=N.all fun x => (sc.names.lookup x == some .local || sc.names.lookup x == some .cell) && !(x == ("__debug__":Str)) && !(x == ("__classdict__":Str))
noncomputable def glB (sc:Scope) (N:List Str):Bool:=N.all fun x => sc.names.lookup x == some .globalImplicit
theorem loc_of {sc:Scope} {N:List Str} (h:locB sc N = true):∀ x ∈ N,Loc sc x ∧ (x == ("__debug__":Str)) = false ∧ (x == ("__classdict__":Str)) = false:=fun x hx => by
  have:=List.all_eq_true.mp h x hx
  simp only [Bool.and_eq_true,Bool.or_eq_true,beq_iff_eq,Bool.not_eq_true'] at this
  exact ⟨this.1.1,this.1.2,this.2⟩
theorem gl_of {sc:Scope} {N:List Str} (h:glB sc N = true):∀ x ∈ N,sc.names.lookup x = some .globalImplicit:=fun x hx => by
  have:=List.all_eq_true.mp h x hx
  simpa using this
end M
set_option Elab.async false
set_option linter.all false
set_option maxRecDepth 100000
set_option maxHeartbeats 4000000
namespace M
open PySem PySem.Spec PyProof.Rows L2
section
variable (ρ:En) (μ:Mu) (m ma mb mc:MX) (ms:MAs) (t t1 t2:MB) (n n1 n2:MSt) (x y d:D) (ds:List D) (g g':G2) (gl:GL) (b:Bool) (φ:Fn) (i:Nat) (tg:MG) (it:MIt)
noncomputable def kBin1 (g:G2) (mb:MX) (ρ:En) (x:D) (μ:Mu):Res D:=(mb ρ μ).bind fun y μ2 => ofO μ2 (g (deref μ2 x) (deref μ2 y))
noncomputable def kBin2 (g:G2) (x y:D) (μ:Mu):Res D:=ofO μ (g (deref μ x) (deref μ y))
theorem e_bin:mBin g ma mb ρ μ = (ma ρ μ).bind (kBin1 g mb ρ):=rfl
theorem e_bin1:kBin1 g mb ρ x μ = (mb ρ μ).bind (kBin2 g x):=rfl
theorem e_bin2:kBin2 g x y μ = ofO μ (g (deref μ x) (deref μ y)):=rfl
theorem e_var0 (o:D) (r:En):mVar 0 (some o :: r) μ = .ok o μ:=rfl
theorem e_varS (o:Option D) (r:En) (i:Nat):mVar (i + 1) (o :: r) μ = mVar i r μ:=rfl
theorem e_c:mC d ρ μ = .ok d μ:=rfl
noncomputable def kTest (d:D) (μ:Mu):Res Bool:=ofO μ (asB d)
theorem e_test:mTest m ρ μ = (m ρ μ).bind kTest:=rfl
theorem e_kTest:kTest (.bl b) μ = .ok b μ:=rfl
noncomputable def kCh1 (g g':G2) (mb mc:MX) (ρ:En) (x:D) (μ1:Mu):Res D:=(mb ρ μ1).bind fun y μ2 => (ofO μ2 ((g (deref μ2 x) (deref μ2 y)).bind asB)).bind fun k μ3 => match k with
  | true => (mc ρ μ3).bind fun z μ4 => ofO μ4 (g' (deref μ4 y) (deref μ4 z))
  | false => .ok (.bl false) μ3
noncomputable def kCh2 (g g':G2) (mc:MX) (ρ:En) (x y:D) (μ2:Mu):Res D:=(ofO μ2 ((g (deref μ2 x) (deref μ2 y)).bind asB)).bind fun k μ3 => match k with
  | true => (mc ρ μ3).bind fun z μ4 => ofO μ4 (g' (deref μ4 y) (deref μ4 z))
  | false => .ok (.bl false) μ3
noncomputable def kCh3 (g':G2) (mc:MX) (ρ:En) (y:D) (k:Bool) (μ3:Mu):Res D:=match k with
  | true => (mc ρ μ3).bind fun z μ4 => ofO μ4 (g' (deref μ4 y) (deref μ4 z))
  | false => .ok (.bl false) μ3
theorem e_ch:mChain g g' ma mb mc ρ μ = (ma ρ μ).bind (kCh1 g g' mb mc ρ):=rfl
theorem e_ch1:kCh1 g g' mb mc ρ x μ = (mb ρ μ).bind (kCh2 g g' mc ρ x):=rfl
theorem e_ch2:kCh2 g g' mc ρ x y μ = (ofO μ ((g (deref μ x) (deref μ y)).bind asB)).bind (kCh3 g' mc ρ y):=rfl
theorem e_ch3:kCh3 g' mc ρ y b μ = if b = true then (mc ρ μ).bind (kBin2 g' y) else .ok (.bl false) μ:=by cases b <;> rfl
noncomputable def kIsN (d:D) (μ:Mu):Res D:=.ok (.bl (isN d)) μ
noncomputable def kNotN (d:D) (μ:Mu):Res D:=.ok (.bl (!isN d)) μ
theorem e_isN:mIsN m ρ μ = (m ρ μ).bind kIsN:=rfl
theorem e_notN:mNotN m ρ μ = (m ρ μ).bind kNotN:=rfl
theorem e_kIsN:kIsN d μ = .ok (.bl (isN d)) μ:=rfl
theorem e_kNotN:kNotN d μ = .ok (.bl (!isN d)) μ:=rfl
noncomputable def kTru (d:D) (μ:Mu):Res Bool:=ofO μ (truD (deref μ d))
theorem e_tru:mTru m ρ μ = (m ρ μ).bind kTru:=rfl
theorem e_kTru:kTru d μ = ofO μ (truD (deref μ d)):=rfl
noncomputable def kAnd (n:MB) (ρ:En) (k:Bool) (μ1:Mu):Res Bool:=match k with
  | true => n ρ μ1
  | false => .ok false μ1
noncomputable def kOr (n:MB) (ρ:En) (k:Bool) (μ1:Mu):Res Bool:=match k with
  | true => .ok true μ1
  | false => n ρ μ1
noncomputable def kNot (k:Bool) (μ1:Mu):Res Bool:=.ok (!k) μ1
theorem e_and:mAnd t1 t2 ρ μ = (t1 ρ μ).bind (kAnd t2 ρ):=rfl
theorem e_or:mOr t1 t2 ρ μ = (t1 ρ μ).bind (kOr t2 ρ):=rfl
theorem e_not:mNot t ρ μ = (t ρ μ).bind kNot:=rfl
theorem e_kAnd:kAnd t ρ b μ = if b = true then t ρ μ else .ok false μ:=by cases b <;> rfl
theorem e_kOr:kOr t ρ b μ = if b = true then .ok true μ else t ρ μ:=by cases b <;> rfl
theorem e_kNot:kNot b μ = .ok (!b) μ:=rfl
noncomputable def kAndV (mb:MX) (ρ:En) (x:D) (μ1:Mu):Res D:=match x with
  | .bl true => mb ρ μ1
  | .bl false => .ok (.bl false) μ1
  | _ => .bad
noncomputable def kOrV (mb:MX) (ρ:En) (x:D) (μ1:Mu):Res D:=match x with
  | .bl true => .ok (.bl true) μ1
  | .bl false => mb ρ μ1
  | _ => .bad
noncomputable def kNotV (x:D) (μ1:Mu):Res D:=match x with
  | .bl k => .ok (.bl (!k)) μ1
  | _ => .bad
theorem e_andV:mAndV ma mb ρ μ = (ma ρ μ).bind (kAndV mb ρ):=rfl
theorem e_orV:mOrV ma mb ρ μ = (ma ρ μ).bind (kOrV mb ρ):=rfl
theorem e_notV:mNotV ma ρ μ = (ma ρ μ).bind kNotV:=rfl
theorem e_kAndV:kAndV mb ρ (.bl b) μ = if b = true then mb ρ μ else .ok (.bl false) μ:=by cases b <;> rfl
theorem e_kOrV:kOrV mb ρ (.bl b) μ = if b = true then .ok (.bl true) μ else mb ρ μ:=by cases b <;> rfl
theorem e_kNotV:kNotV (.bl b) μ = .ok (.bl (!b)) μ:=rfl
noncomputable def kIf (ma mb:MX) (ρ:En) (k:Bool) (μ1:Mu):Res D:=match k with
  | true => ma ρ μ1
  | false => mb ρ μ1
theorem e_if:mIf t ma mb ρ μ = (t ρ μ).bind (kIf ma mb ρ):=rfl
theorem e_kIf:kIf ma mb ρ b μ = if b = true then ma ρ μ else mb ρ μ:=by cases b <;> rfl
noncomputable def kCons1 (ms:MAs) (ρ:En) (d:D) (μ1:Mu):Res (List D):=(ms ρ μ1).bind fun ds μ2 => .ok (d :: ds) μ2
noncomputable def kCons2 (d:D) (ds:List D) (μ2:Mu):Res (List D):=.ok (d :: ds) μ2
theorem e_nil:mNil ρ μ = .ok [] μ:=rfl
theorem e_cons:mCons m ms ρ μ = (m ρ μ).bind (kCons1 ms ρ):=rfl
theorem e_cons1:kCons1 ms ρ d μ = (ms ρ μ).bind (kCons2 d):=rfl
theorem e_cons2:kCons2 d ds μ = .ok (d :: ds) μ:=rfl
noncomputable def kTup (ds:List D) (μ1:Mu):Res D:=.ok (.tup ds) μ1
noncomputable def kLst (ds:List D) (μ1:Mu):Res D:=.ok (.lst ds) μ1
noncomputable def kDic (ks:List DK) (ds:List D) (μ1:Mu):Res D:=.ok (.dic ks ds) μ1
theorem e_tup:mTup ms ρ μ = (ms ρ μ).bind kTup:=rfl
theorem e_lst:mLst ms ρ μ = (ms ρ μ).bind kLst:=rfl
theorem e_dic (ks:List DK):mDic ks ms ρ μ = (ms ρ μ).bind (kDic ks):=rfl
theorem e_kTup:kTup ds μ = .ok (.tup ds) μ:=rfl
theorem e_kLst:kLst ds μ = .ok (.lst ds) μ:=rfl
theorem e_kDic (ks:List DK):kDic ks ds μ = .ok (.dic ks ds) μ:=rfl
noncomputable def kCallB (g:GL) (ds:List D) (μ1:Mu):Res D:=ofO μ1 (g (ds.map (deref μ1)))
theorem e_callB:mCallB gl ms ρ μ = (ms ρ μ).bind (kCallB gl):=rfl
theorem e_kCallB:kCallB gl ds μ = ofO μ (gl (ds.map (deref μ))):=rfl
noncomputable def kIsI (k:Ki) (d:D) (μ1:Mu):Res D:=ofO μ1 ((isI k (deref μ1 d)).map .bl)
theorem e_isI (k:Ki):mIsI k m ρ μ = (m ρ μ).bind (kIsI k):=rfl
theorem e_kIsI (k:Ki):kIsI k d μ = ofO μ ((isI k (deref μ d)).map .bl):=rfl
noncomputable def kCall (φ:Fn) (ds:List D) (μ1:Mu):Res D:=noX (φ ds μ1)
theorem e_call:mCall φ ms ρ μ = (ms ρ μ).bind (kCall φ):=rfl
theorem e_kCall:kCall φ ds μ = noX (φ ds μ):=rfl
noncomputable def kNeg (d:D) (μ1:Mu):Res D:=ofO μ1 (match d with
  | .int i => some (.int (-i))
  | _ => none)
theorem e_neg:mNeg m ρ μ = (m ρ μ).bind kNeg:=rfl
theorem e_kNeg (i:Int):kNeg (.int i) μ = .ok (.int (-i)) μ:=rfl
theorem e_skip:mSkip ρ μ = .ok (.nx ρ) μ:=rfl
noncomputable def kSeq (n2:MSt) (o:Out) (μ1:Mu):Res Out:=match o with
  | .nx ρ1 => n2 ρ1 μ1
  | o => .ok o μ1
theorem e_seq:mSeq n1 n2 ρ μ = (n1 ρ μ).bind (kSeq n2):=rfl
theorem e_kSeqN:kSeq n (.nx ρ) μ = n ρ μ:=rfl
theorem e_kSeqR:kSeq n (.rt d) μ = .ok (.rt d) μ:=rfl
theorem e_kSeqB:kSeq n (.bk ρ) μ = .ok (.bk ρ) μ:=rfl
theorem e_kSeqC:kSeq n (.ct ρ) μ = .ok (.ct ρ) μ:=rfl
noncomputable def kRet (d:D) (μ1:Mu):Res Out:=.ok (.rt d) μ1
theorem e_ret:mRet m ρ μ = (m ρ μ).bind kRet:=rfl
theorem e_kRet:kRet d μ = .ok (.rt d) μ:=rfl
theorem e_retN:mRetN ρ μ = .ok (.rt .non) μ:=rfl
noncomputable def kDrop (ρ:En) (d:D) (μ1:Mu):Res Out:=.ok (.nx ρ) μ1
theorem e_drop:mDrop m ρ μ = (m ρ μ).bind (kDrop ρ):=rfl
theorem e_kDrop:kDrop ρ d μ = .ok (.nx ρ) μ:=rfl
noncomputable def kSet (i:Nat) (ρ:En) (d:D) (μ1:Mu):Res Out:=.ok (.nx (ρ.set i (some d))) μ1
theorem e_set:mSet i m ρ μ = (m ρ μ).bind (kSet i ρ):=rfl
theorem e_kSet:kSet i ρ d μ = .ok (.nx (ρ.set i (some d))) μ:=rfl
noncomputable def kIte (n1 n2:MSt) (ρ:En) (k:Bool) (μ1:Mu):Res Out:=match k with
  | true => n1 ρ μ1
  | false => n2 ρ μ1
theorem e_ite:mIte t n1 n2 ρ μ = (t ρ μ).bind (kIte n1 n2 ρ):=rfl
theorem e_kIte:kIte n1 n2 ρ b μ = if b = true then n1 ρ μ else n2 ρ μ:=by cases b <;> rfl
noncomputable def kFor (tg:MG) (n:MSt) (ρ:En) (ds:List D) (μ1:Mu):Res Out:=forGo tg n ds ρ μ1
theorem e_for:mFor tg it n ρ μ = (it ρ μ).bind (kFor tg n ρ):=rfl
theorem e_kFor:kFor tg n ρ ds μ = forGo tg n ds ρ μ:=rfl
noncomputable def kRange1 (d:D) (μ1:Mu):Res (List D):=ofO μ1 (asRange [d])
theorem e_range1:mRange1 m ρ μ = (m ρ μ).bind kRange1:=rfl
theorem e_kRange1:kRange1 d μ = ofO μ (asRange [d]):=rfl
noncomputable def kOverL (d:D) (μ1:Mu):Res (List D):=ofO μ1 (asSeqL d)
noncomputable def kOverT (d:D) (μ1:Mu):Res (List D):=ofO μ1 (asSeqT d)
theorem e_overL:mOverL m ρ μ = (m ρ μ).bind kOverL:=rfl
theorem e_overT:mOverT m ρ μ = (m ρ μ).bind kOverT:=rfl
theorem e_kOverL:kOverL (.lst ds) μ = .ok ds μ:=rfl
theorem e_kOverT:kOverT (.tup ds) μ = .ok ds μ:=rfl
noncomputable def kFin (o:Out) (μ1:Mu):Res D:=match o with
  | .rt d => .ok d μ1
  | .nx _ => .ok .non μ1
  | _ => .bad
theorem e_fin (r:Res Out):fin r = r.bind kFin:=by cases r with
  | ok o μ => cases o <;> rfl
  | exc _ _ => rfl
  | bad => rfl
theorem e_kFinR:kFin (.rt d) μ = .ok d μ:=rfl
theorem e_kFinN:kFin (.nx ρ) μ = .ok .non μ:=rfl
theorem e_fnOf (k:Nat):fnOf k n ds μ = (n (ds.map some ++ List.replicate k none) μ).bind kFin:=e_fin _
noncomputable def kTurn (tg:MG) (n:MSt) (ds:List D) (o:Out) (μ1:Mu):Res Out:=match o with
  | .nx ρ2 => forGo tg n ds ρ2 μ1
  | .ct ρ2 => forGo tg n ds ρ2 μ1
  | .bk ρ2 => .ok (.nx ρ2) μ1
  | .rt d => .ok (.rt d) μ1
theorem e_forCons (i:Nat):forGo (gN i) n (d :: ds) ρ μ = (n (ρ.set i (some d)) μ).bind (kTurn (gN i) n ds):=by
  simp only [forGo,gN]
  cases n (ρ.set i (some d)) μ with
  | ok o μ => cases o <;> rfl
  | exc _ _ => rfl
  | bad => rfl
theorem e_turnN:kTurn tg n ds (.nx ρ) μ = forGo tg n ds ρ μ:=rfl
end
section
variable (i j:Int) (a b:List Nat) (xs ys:List D) (k l:Bool)
theorem g_add:gAdd (.int i) (.int j) = some (.int (i + j)):=rfl
theorem g_sub:gSub (.int i) (.int j) = some (.int (i - j)):=rfl
theorem g_mulL (h:-18446744073709551616 < i) (h2:i < 18446744073709551616):gMul (.int i) (.int j) = some (.int (i * j)):=by
  simp only [gMul,gInt]; rw [if_pos (.inl ⟨h,h2⟩)]; rfl
theorem g_mulR (h:-18446744073709551616 < j) (h2:j < 18446744073709551616):gMul (.int i) (.int j) = some (.int (i * j)):=by
  simp only [gMul,gInt]; rw [if_pos (.inr ⟨h,h2⟩)]; rfl
theorem g_div (h:0 < j) (h2:j < 18446744073709551616):gDiv (.int i) (.int j) = some (.int (i / j)):=by
  simp only [gDiv,gInt]; rw [if_pos ⟨h,h2⟩]; rfl
theorem g_mod (h:0 < j):gMod (.int i) (.int j) = some (.int (i % j)):=by
  simp only [gMod,gInt]; rw [if_pos h]; rfl
theorem g_and:gAnd (.int i) (.int j) = some (.int (Builtin.bitAnd i j)):=rfl
theorem g_or:gOrB (.int i) (.int j) = some (.int (Builtin.bitOr i j)):=rfl
theorem g_xor:gXor (.int i) (.int j) = some (.int (Builtin.bitXor i j)):=rfl
theorem g_shl (h:0 ≤ j) (h1:j ≤ 1000000) (h2:i.natAbs < 18446744073709551616):gShl (.int i) (.int j) = some (.int (i * 2 ^ j.toNat)):=by
  simp only [gShl,gInt]; rw [if_pos ⟨h,h1,h2⟩]; rfl
theorem g_shr (h:0 ≤ j):gShr (.int i) (.int j) = some (.int (i / 2 ^ j.toNat)):=by
  simp only [gShr,gInt]; rw [if_pos h]; rfl
theorem g_lt:gLt (.int i) (.int j) = some (.bl (decide (i < j))):=rfl
theorem g_le:gLe (.int i) (.int j) = some (.bl (decide (i ≤ j))):=rfl
theorem g_gt:gGt (.int i) (.int j) = some (.bl (decide (j < i))):=rfl
theorem g_ge:gGe (.int i) (.int j) = some (.bl (decide (j ≤ i))):=rfl
theorem g_eqI:gEq (.int i) (.int j) = some (.bl (i == j)):=by
  unfold gEq; rw [if_pos (by rfl)]; simp [eqD]
theorem g_neI:gNe (.int i) (.int j) = some (.bl (!(i == j))):=by
  unfold gNe; rw [if_pos (by rfl)]; simp [eqD]
theorem g_eqB:gEq (.bl k) (.bl l) = some (.bl (k == l)):=by
  unfold gEq; rw [if_pos (by rfl)]; simp [eqD]
noncomputable def okS (a:List Nat):Bool:=a.all (· < 0x110000)
theorem g_eqS (ha:okS a = true) (hb:okS b = true):gEq (.str a) (.str b) = some (.bl (a == b)):=by
  unfold okS at ha hb
  unfold gEq cmpOk; simp only [plainD,dpt,ha,hb]; simp [eqD]
theorem g_neS (ha:okS a = true) (hb:okS b = true):gNe (.str a) (.str b) = some (.bl (!(a == b))):=by
  unfold okS at ha hb
  unfold gNe cmpOk; simp only [plainD,dpt,ha,hb]; simp [eqD]
theorem g_idxL:gIdx (.lst xs) (.int i) = atI xs i:=rfl
theorem g_idxT:gIdx (.tup xs) (.int i) = atI xs i:=rfl
theorem g_lenL:gLen [.lst xs] = some (.int xs.length):=rfl
theorem g_lenT:gLen [.tup xs] = some (.int xs.length):=rfl
theorem g_max:gMax [.int i,.int j] = some (.int (if j > i then j else i)):=rfl
theorem g_min:gMin [.int i,.int j] = some (.int (if j < i then j else i)):=rfl
theorem g_intB:gIntC [.bl k] = some (.int (if k then 1 else 0)):=rfl
theorem g_intI:gIntC [.int i] = some (.int i):=rfl
theorem atI_pos {β:Type} {xs:List β} {i:Int} (h0:0 ≤ i):atI xs i = xs[i.toNat]?:=by
  unfold atI ixN
  rw [if_pos h0]
  by_cases h:i < xs.length
  · rw [if_pos h]; rfl
  · rw [if_neg h]
    simp only [Option.bind_none]
    symm
    rw [List.getElem?_eq_none_iff]
    omega
theorem atI_neg {β:Type} {xs:List β} {i:Int} (h0:i < 0) (h1:-(xs.length:Int) ≤ i):atI xs i = xs[(i + xs.length).toNat]?:=by
  unfold atI ixN
  rw [if_neg (by omega)]
  split
  · rfl
  · omega
theorem asRange_nat (n:Nat) (h:n < 4611686018427387904):asRange [.int (n:Nat)] = some (rangeD n):=by
  simp only [asRange]
  have h1:(-(2 ^ 62):Int) = -4611686018427387904:=by decide
  have h2:(2 ^ 62:Int) = 4611686018427387904:=by decide
  rw [h2,if_pos (by constructor <;> omega),Int.toNat_natCast]
end
end M
set_option Elab.async false
set_option linter.all false
set_option maxRecDepth 100000
set_option maxHeartbeats 4000000
namespace M
open PySem PySem.Spec PyProof.Rows L2
noncomputable def closL (env:Env):List (Str × NameKind) → List (Str × Addr) → List (Str × Addr)
  | [],acc => acc
  | p :: r,acc => closL env r (if (p.2 == .free) = true then (p.1,(env.cells.lookup p.1).getD 0) :: acc else acc)
theorem closure_eq {env:Env} {scope:Scope} (h:∀ p ∈ scope.names,p.2 = .free → ∃ c,env.cells.lookup p.1 = some c):closureFor scope env = pure (closL env scope.names []):=by
  simp only [closureFor]
  generalize ([]:List (Str × Addr)) = acc
  generalize scope.names = l at h
  induction l generalizing acc with
  | nil => rfl
  | cons p r ih =>
    obtain ⟨n,k⟩:=p
    rw [List.forIn_cons]
    by_cases hk:(k == NameKind.free) = true
    · obtain ⟨c,hc⟩:=h (n,k) List.mem_cons_self (by simpa using hk)
      have hc':cellOf env n = pure c:=by unfold cellOf; rw [hc]
      simp only [hk,if_true,hc',pure_bind,closL]
      rw [hc]
      exact ih _ (fun p hp => h p (List.mem_cons_of_mem _ hp))
    · simp only [hk,if_false,pure_bind,closL]
      exact ih _ (fun p hp => h p (List.mem_cons_of_mem _ hp))
theorem closL_mem {env:Env}:∀ (l:List (Str × NameKind)) (acc:List (Str × Addr)),(∀ p ∈ l,p.2 = .free → ∃ c,env.cells.lookup p.1 = some c) → (∀ p ∈ acc,env.cells.lookup p.1 = some p.2) → ∀ p ∈ closL env l acc,env.cells.lookup p.1 = some p.2
  | [],_,_,ha => ha
  | q :: r,acc,h,ha => by
    refine closL_mem r _ (fun p hp => h p (List.mem_cons_of_mem _ hp)) ?_
    by_cases hk:(q.2 == NameKind.free) = true
    · rw [if_pos hk]
      intro p hp
      rcases List.mem_cons.mp hp with rfl | hp
      · obtain ⟨c,hc⟩:=h q List.mem_cons_self (by simpa using hk)
        simp [hc]
      · exact ha p hp
    · rw [if_neg hk]; exact ha
theorem lookup_mem {β:Type} {l:List (Str × β)} {x:Str} {c:β} (h:l.lookup x = some c):(x,c) ∈ l:=by
  induction l with
  | nil => cases h
  | cons p r ih =>
    obtain ⟨n,k⟩:=p
    rw [List.lookup_cons] at h
    by_cases e:x = n
    · subst e
      simp at h
      subst h
      exact List.mem_cons_self
    · have e':(x == n) = false:=by simpa using e
      rw [e'] at h
      exact List.mem_cons_of_mem _ (ih h)
theorem mem_lookup {β:Type} {l:List (Str × β)} {x:Str} {c:β} (h:(x,c) ∈ l):∃ c',l.lookup x = some c':=by
  induction l with
  | nil => cases h
  | cons p r ih =>
    obtain ⟨n,k⟩:=p
    rw [List.lookup_cons]
    by_cases e:x = n
    · subst e; exact ⟨k,by simp⟩
    · rcases List.mem_cons.mp h with h | h
      · cases h; exact absurd rfl e
      · obtain ⟨c',hc⟩:=ih h
        have e':(x == n) = false:=by simpa using e
        exact ⟨c',by rw [e']; exact hc⟩
theorem closL_acc {env:Env}:∀ (l:List (Str × NameKind)) (acc:List (Str × Addr)) (p:Str × Addr),p ∈ acc → p ∈ closL env l acc
  | [],_,_,h => h
  | q :: r,acc,p,h => by
    refine closL_acc r _ p ?_
    split
    · exact List.mem_cons_of_mem _ h
    · exact h
theorem closL_has {env:Env}:∀ (l:List (Str × NameKind)) (acc:List (Str × Addr)) (x:Str),(x,NameKind.free) ∈ l → ∃ c,(closL env l acc).lookup x = some c
  | [],_,_,h => nomatch h
  | q :: r,acc,x,h => by
    rcases List.mem_cons.mp h with rfl | h
    · exact mem_lookup (closL_acc r _ (x,(env.cells.lookup x).getD 0) (by simp))
    · exact closL_has r _ x h
structure CompScope (scope:Scope) (env:Env):Prop where
  kind:scope.kind = .function
  nocell:∀ y ∈ scope.names,y.2 ≠ .cell
  loc:∀ y ∈ scope.names,y.2 = .local → scope.names.lookup y.1 = some .local
  cap:∀ y ∈ scope.names,y.2 = .free → env.kindOf y.1 = some .cell ∨ env.kindOf y.1 = some .free
noncomputable abbrev cellsC (scope:Scope) (env:Env):List (Str × Addr):=closL env scope.names []
theorem relabel_kind {scope:Scope} {env:Env} {x:Str} (hn:∀ y ∈ scope.names,y.2 ≠ .cell) (h:(relabel scope env).names.lookup x = some .cell ∨ (relabel scope env).names.lookup x = some .free):(x,NameKind.free) ∈ scope.names:=by
  have:∃ k,(x,k) ∈ (relabel scope env).names ∧ (k = .cell ∨ k = .free):=by
    rcases h with h | h
    · exact ⟨_,lookup_mem h,.inl rfl⟩
    · exact ⟨_,lookup_mem h,.inr rfl⟩
  obtain ⟨k,hm,hk⟩:=this
  unfold relabel at hm
  obtain ⟨⟨n,k'⟩,hq,e⟩:=List.mem_map.mp hm
  simp only at e
  split at e
  · rename_i hc
    simp only [Bool.and_eq_true,beq_iff_eq] at hc
    cases e
    rw [hc.1.1] at hq
    exact hq
  · cases e
    rcases hk with rfl | rfl
    · exact absurd rfl (hn _ hq)
    · exact hq
noncomputable abbrev NoE:Value → Shared → Prop:=fun _ _ => False
theorem compLoop_own {prog:Program} {w:World} {A:Around} {R:Result → Shared → Prop} {s:Shared} {elt target iter:Expr} {ifs:List Expr} {scope:Scope} {pos:Pos} {it acc:Value} {env:Env} (I:Nat → Shared → Prop)
    (turn:∀ n s,I n s → wpAny (model prog w) A (pyNext it) (fun r s₁ => match r with
      | none => R (.ok .next) s₁
      | some v => wpAny (model prog w) A (letOwnedTupleGo target it v) (fun _ s₁' => wpAny (model prog w) A (assign target env v) (fun _ s₂ =>
          wpAny (model prog w) A (forIn ifs true fun c r => if r = true then do let ok ← isTrue c env (eval c env); pure (ForInStep.yield ok) else pure (ForInStep.yield r)) (fun ok s₃ =>
            if ok = true then wpAny (model prog w) A (eval elt env) (fun x s₄ =>
              wpAny (model prog w) A (call (.builtin "list.append") [acc,x]) (fun _ s₅ => ∃ m,m < n ∧ I m s₅) NoE s₄) NoE s₃
            else ∃ m,m < n ∧ I m s₃) NoE s₂) NoE s₁') NoE s₁) NoE s)
    (n:Nat) (h:I n s):codeAny (model prog w) A (.compLoop (.ListComp elt [⟨target,iter,ifs,0⟩] scope pos) 0 it acc env) R s:=by
  refine codeAny_loop rfl I (fun n s hI => ?_) n h
  show wpAny _ A ((compTurn (.ListComp elt [⟨target,iter,ifs,0⟩] scope pos) 0 it acc env).onRaise (fun x => do noteFrame x env; theTreesLotGoes x)) _ _ s
  refine wpAny_noted ?_
  rw [compTurn_list]
  refine wpAny_bind (wpAny_standAt (wpAny_bind (wpAny_mono (turn n s hI) (fun r s₁ h₁ => ?_) fun _ _ h' => h'.elim)))
  cases r with
  | none => exact wpAny_pure h₁
  | some v =>
    refine wpAny_bind (wpAny_mono h₁ (fun _ s₁' h₁' => ?_) fun _ _ h' => h'.elim)
    refine wpAny_bind (wpAny_mono h₁' (fun _ s₂ h₂ => wpAny_bind (wpAny_mono h₂ (fun ok s₃ h₃ => ?_) fun _ _ h' => h'.elim)) fun _ _ h' => h'.elim)
    cases ok with
    | false => exact wpAny_pure ⟨rfl,h₃⟩
    | true =>
      exact wpAny_bind (wpAny_bind (wpAny_mono h₃ (fun x s₄ h₄ => wpAny_bind (wpAny_mono h₄ (fun _ s₅ h₅ => wpAny_pure (wpAny_pure ⟨rfl,h₅⟩)) fun _ _ h' => h'.elim)) fun _ _ h' => h'.elim))
noncomputable def compCx (X:Cx) (N':List Str) (scope:Scope) (C:Addr) (s:Shared) (H:Hp) (ex:List Addr):Cx :=
  { X with N:=N',s₀:=s,H₀:=H,env:=compEnvC scope (cellsC scope X.env) C X.env,outer:=X.stack,ex:=ex,fn:=fun _ => false,pn:=[],xe:=NoE }
section
variable {X:Cx} {EX:EXT} {pins:List (Addr × Obj)} {σ:L2.St} {H:Hp} {s:Shared} {scope:Scope} {C:Addr} {ex:List Addr} {N':List Str}
theorem CompScope.had (cs:CompScope scope X.env) (ok:X.Ok):∀ p ∈ scope.names,p.2 = .free → ∃ c,X.env.cells.lookup p.1 = some c:=fun p hp hk => ok.has p.1 (cs.cap p hp hk)
theorem cellsC_at (cs:CompScope scope X.env) (ok:X.Ok) {x:Str} {c:Addr} (h:(cellsC scope X.env).lookup x = some c):X.env.cells.lookup x = some c :=
  closL_mem scope.names [] (cs.had ok) (fun _ z => nomatch z) (x,c) (lookup_mem h)
theorem compCx_ok (I:Inv X pins σ H s) (cs:CompScope scope X.env) (hC:s.heap.objs.size ≤ C) (hex:∀ b ∈ ex,FpOk X pins H b ∧ ∃ o,s.heap.get? b = some o):(compCx X N' scope C s H ex).Ok:=by
  refine ⟨I.ok.mod,cs.kind,I.ok.glob,I.ok.blt,hC,fun x y c h1 h2 => I.ok.inj x y c (cellsC_at cs I.ok h1) (cellsC_at cs I.ok h2),fun x h => ?_,fun x c h => (by cases h),I.ok.hd,I.ok.frames,.inl rfl,fun b hb => ⟨?_,fun x c h => ?_⟩,I.bs,Nat.le_trans I.ok.bsz I.sz,fun b o e hb => ?_,fun b hb hf => ?_,I.stack,I.stkFree⟩
  · exact closL_has scope.names [] x (relabel_kind cs.nocell h)
  · obtain ⟨o,e⟩:=(hex b hb).2
    exact Nat.ne_of_lt (Nat.lt_of_lt_of_le (Heap.lt_size e) hC)
  · exact (hex b hb).1.2.2.2.2.1 x c (cellsC_at cs I.ok h)
  · rcases (hex b hb).1.2.2.2.1 with z | z
    · exact I.ok.noex b o e z
    · exact absurd (Nat.lt_of_lt_of_le (Heap.lt_size e) (Nat.le_trans I.ok.bsz z)) (Nat.lt_irrefl _)
  · rcases List.mem_cons.mp (I.stkSub b hf) with z | z
    · exact (hex b hb).1.2.1 z
    · exact (hex b hb).1.2.2.1 z
theorem relabel_free {env:Env} {scope:Scope} {x:Str} (h:scope.names.lookup x = some .free):(relabel scope env).names.lookup x = some .cell ∨ (relabel scope env).names.lookup x = some .free:=by
  unfold relabel
  generalize scope.names = l at h
  simp only
  induction l with
  | nil => cases h
  | cons p r ih =>
    obtain ⟨n,k⟩:=p
    rw [List.lookup_cons] at h
    simp only [List.map_cons]
    by_cases e:(x == n) = true
    · rw [e] at h
      cases h
      split
      · left; rw [List.lookup_cons,e]
      · right; rw [List.lookup_cons,e]
    · have e':(x == n) = false:=by simpa using e
      rw [e'] at h
      have:=ih h
      split
      · rw [List.lookup_cons,e']; exact this
      · rw [List.lookup_cons,e']; exact this
structure Caps (X:Cx) (scope:Scope) (T caps:List Str) (ix:List Nat):Prop where
  len:ix.length = caps.length
  at':∀ (j:Nat) (x:Str) (i:Nat),caps[j]? = some x → ix[j]? = some i → X.N[i]? = some x ∧ scope.names.lookup x = some .free
noncomputable def blk {β:Type} (k:Nat) (ix:List Nat) (σ:List (Option β)):List (Option β):=List.replicate k none ++ ix.map fun i => (σ[i]?).getD none
theorem comp_start {T caps:List Str} {ix:List Nat} (I:Inv X pins σ H s) (cs:CompScope scope X.env) (cp:Caps X scope T caps ix) {h':Heap} {tk:Nat} (hC:C = s.heap.objs.size) (hex:∀ b ∈ ex,FpOk X pins H b ∧ ∃ o,s.heap.get? b = some o)
    (hn:h'.Ns C fun _ => none) (hk:∀ b o,s.heap.get? b = some o → h'.get? b = some o) :
    Inv (compCx X (T ++ caps) scope C s H ex) [] (blk T.length ix σ) H { s with heap:=h',toks:=tk }:=by
  have ok:=compCx_ok (N':=T ++ caps) (C:=C) I cs (by rw [hC]; exact Nat.le_refl _) hex
  refine ⟨ok,rfl,I.bare,Un.kept hk,⟨_,hn,fun i x v e1 e2 e3 => ?_⟩,fun x c e => ?_,?_,fun x c e => I.freeC x c (cellsC_at cs I.ok e),fun p hp => (by simp [compCx] at hp),I.hok.kept hk,by simp [blk,compCx,cp.len]⟩
  · have e1:(T ++ caps)[i]? = some x:=e1
    unfold blk at e2
    by_cases hi:i < T.length
    · rw [List.getElem?_append_left (by simpa using hi),List.getElem?_replicate] at e2
      split at e2 <;> cases e2
    · rw [List.getElem?_append_right (by simp; omega)] at e2
      rw [List.getElem?_append_right (by omega)] at e1
      simp only [List.length_replicate,List.getElem?_map] at e2
      cases q:ix[i - T.length]? with
      | none => rw [q] at e2; cases e2
      | some j =>
        rw [q] at e2
        obtain ⟨hN,hl⟩:=cp.at' _ x j e1 q
        have e2:(σ[j]?).getD none = some v:=by simpa using e2
        have hσ:σ[j]? = some (some v):=by
          cases z:σ[j]? with
          | none => rw [z] at e2; cases e2
          | some o => rw [z] at e2; simp at e2; rw [e2]
        have hm:(x,NameKind.free) ∈ scope.names:=lookup_mem hl
        have hkind:=cs.cap (x,.free) hm rfl
        obtain ⟨m,hns,hloc⟩:=I.loc
        obtain ⟨u,ru,look⟩:=hloc j x v hN hσ (hkind.elim (fun z => .inr (.inl z)) fun z => .inr (.inr z))
        refine ⟨u,ru,.inr ⟨relabel_free hl,?_⟩⟩
        rcases look with ⟨z,_⟩ | ⟨_,c,hc,hcell⟩
        · rcases hkind with y | y
          · rw [z] at y; cases y
          · rw [z] at y; cases y
        · obtain ⟨c',hc'⟩:=closL_has (env:=X.env) scope.names [] x hm
          have:=cellsC_at cs I.ok hc'
          rw [hc] at this
          cases this
          obtain ⟨o,ho,hd⟩:=hcell
          exact ⟨c,hc',o,hk _ _ ho,hd⟩
  · obtain ⟨v,o,ho,hd⟩:=I.cell x c (cellsC_at cs I.ok e)
    exact ⟨v,o,hk _ _ ho,hd⟩
  · show H C = none
    rw [hC]
    exact I.fresh
theorem comp_back {T caps:List Str} {σ':L2.St} {H1 H':Hp} {s2 s3 s':Shared} {D:Addr} {o:HO} (I2:Inv X pins σ H1 s2) (hD:s2.heap.objs.size ≤ D) (h3:s3.os = s2.os) (hk:∀ b u,s2.heap.get? b = some u → s3.heap.get? b = some u)
    (hex:∀ b ∈ ex,FpOk X pins H1 b) (I':Inv (compCx X (T ++ caps) scope C s3 (upd H1 D o) ex) [] σ' H' s'):Inv X pins σ H' s':=by
  have hos:s'.os = s2.os:=I'.os.trans h3
  have u0:Un (frs X.stack) ex H1 (upd H1 D o) s2.heap s3.heap:=Un.laid hk hD (I2.hok.fresh hD)
  have u:Un (frs X.stack) ex H1 H' s2.heap s'.heap:=u0.trans I'.base
  exact I2.call' hos u I'.hok I'.bare fun b hb => ⟨(hex b hb).2.2.2.1,(hex b hb).2.1,(hex b hb).2.2.2.2.1,(hex b hb).2.2.2.2.2⟩
end
end M
set_option Elab.async false
set_option linter.all false
set_option maxRecDepth 100000
set_option maxHeartbeats 4000000
namespace M
open PySem PySem.Spec PyProof.Rows L2
noncomputable def compGo (tg:MG) (t:MB) (m:MX):List D → En → Mu → List D → Res (List D)
  | [],_,μ,acc => .ok acc μ
  | d :: ds,ρ,μ,acc => match tg d ρ with
    | none => .bad
    | some ρ1 => (noX (t ρ1 μ)).bind fun k μ1 => if k = true then (noX (m ρ1 μ1)).bind fun x μ2 => compGo tg t m ds ρ1 μ2 (acc ++ [x]) else compGo tg t m ds ρ1 μ1 acc
noncomputable def mComp (k:Nat) (ix:List Nat) (tg:MG) (it:MIt) (t:MB) (m:MX):MX:=fun ρ μ => (it ρ μ).bind fun ds μ1 => if ds.length ≤ 16777216 then (compGo tg t m ds (blk k ix ρ) μ1 []).bind fun xs μ2 => .ok (.lst xs) μ2 else .bad
noncomputable def mTT:MB:=fun _ μ => .ok true μ
noncomputable def MIfs (X:Cx) (ifs:List Expr) (t:MB):Prop:=∀ pins s Z α F H σ ρ μ Q,Inv X pins σ H s → RS X.K Z α F H σ ρ μ → GB X.K NoX Z α F Q (t ρ μ) →
  wpAny (model X.prog X.w) X.A (forIn ifs true fun c r => if r = true then do let ok ← isTrue c X.env (eval c X.env); pure (ForInStep.yield ok) else pure (ForInStep.yield r)) (TP X pins σ Q) X.xe s
theorem mifs_nil {X:Cx}:MIfs X [] mTT:=fun pins s Z α F H σ ρ μ Q I R g => wpAny_tests_nil ⟨H,I,g α F H R.hp (Ext.refl _ _)⟩
theorem rs_blk {K:PySem.W.Frag} {Z:ZS} {F H:Hp} {α:List Addr} {σ:L2.St} {ρ:En} {μ:Mu} (k:Nat) (ix:List Nat) (R:RS K Z α F H σ ρ μ):RS K Z α F H (blk k ix σ) (blk k ix ρ) μ:=by
  refine ⟨R.hp,by simp [blk],fun i d h => ?_⟩
  unfold blk at h ⊢
  by_cases hi:i < k
  · rw [List.getElem?_append_left (by simpa using hi),List.getElem?_replicate] at h
    split at h <;> cases h
  · rw [List.getElem?_append_right (by simp; omega)] at h ⊢
    simp only [List.length_replicate,List.getElem?_map] at h ⊢
    cases q:ix[i - k]? with
    | none => rw [q] at h; cases h
    | some j =>
      rw [q] at h
      have e2:(ρ[j]?).getD none = some d:=by simpa using h
      have hρ:ρ[j]? = some (some d):=by
        cases z:ρ[j]? with
        | none => rw [z] at e2; cases e2
        | some o => rw [z] at e2; simp at e2; rw [e2]
      obtain ⟨v,h1,h2⟩:=R.sl j d hρ
      exact ⟨v,by simp [h1],h2⟩
theorem RH.rehold {K:PySem.W.Frag} {Z:ZS} {F H:Hp} {α:List Addr} {μ:Mu} {p:Addr} {o:HO} (o':HO) (r:RH K (ZS.up Z p o) α F H μ):RH K (ZS.up Z p o') α F (upd H p o') μ:=by
  have fp:F p = none:=r.zf p o up_same
  have nc:∀ (k:Nat) (a:Addr) (c:Cell),α[k]? = some a → μ[k]? = some c → c ≠ .dead → a ≠ p:=fun k a c ha hc hd z => by
    have:=r.zc k a c ha hc hd
    rw [z,up_same] at this
    cases this
  refine ⟨fun b u e => ?_,r.len,fun k a c ha hc => ?_,fun b u e => ?_,fun b u e => ?_,fun k a c ha hc hd => ?_,r.dis,r.ext⟩
  · rw [upd_ne (ne_of_none e fp)]; exact r.sub b u e
  · exact (r.cell k a c ha hc).go (Ext.refl _ _) (fun _ => rfl) fun hd => upd_ne (nc k a c ha hc hd)
  · by_cases hb:b = p
    · subst hb; rw [up_same] at e; rw [upd_same]; exact e
    · rw [up_ne hb] at e; rw [upd_ne hb]; exact r.zs b u (by rw [up_ne hb]; exact e)
  · by_cases hb:b = p
    · subst hb; exact fp
    · rw [up_ne hb] at e; exact r.zf b u (by rw [up_ne hb]; exact e)
  · have:=r.zc k a c ha hc hd
    rw [up_ne (nc k a c ha hc hd)] at this ⊢
    exact this
theorem upd_id {H:Hp} {p:Addr} {o:HO} (h:H p = some o):upd H p o = H:=by
  funext b
  unfold upd
  split
  · rename_i e; rw [e,h]
  · rfl
section
variable {X:Cx} {EX:EXT} {elt tg iter:Expr} {ifs:List Expr} {scope:Scope} {pos:Pos} {T caps:List Str} {ix:List Nat} {g:MG} {t:MB} {m:MX}
noncomputable def Blk (X:Cx) (scope:Scope) (N':List Str) (tg:Expr) (ifs:List Expr) (elt:Expr) (g:MG) (t:MB) (m:MX):Prop :=
  ∀ C s H ex,MTg (compCx X N' scope C s H ex) tg g ∧ MIfs (compCx X N' scope C s H ex) ifs t ∧ ME (compCx X N' scope C s H ex) NoX elt m
inductive CSt (Y:Cx) (Z:ZS) (D':Addr) (fp:List Addr) (tn:Nat → Heap → Prop) (α:List Addr) (F:Hp) (g:MG) (t:MB) (m:MX) (ds:List D) (G:Res (List D) → Prop):Nat → Shared → Prop
  | mk {i:Nat} {σ':L2.St} {H':Hp} {α':List Addr} {F':Hp} {ρ':En} {μ':Mu} {xs:List D} {vs:List V} {s':Shared}:i ≤ ds.length → xs.length ≤ i → Inv Y [] σ' H' s' → tn i s'.heap → (∀ b ∈ fp,H' b = none) → RS Y.K (ZS.up Z D' (.lst vs)) α' F' H' σ' ρ' μ' → Ext α F α' F' → Reps Y.K F' α' xs vs → G (compGo g t m (ds.drop i) ρ' μ' xs) → CSt Y Z D' fp tn α F g t m ds G (ds.length + 1 - i) s'
theorem comp_loop {Y:Cx} {Rr:Result → Shared → Prop} {s:Shared} {σ:L2.St} {Z:ZS} {H F:Hp} {α:List Addr} {ρ:En} {μ:Mu} {ds:List D} {J:It} {fp:List Addr} {it D':Addr} {tn:Nat → Heap → Prop} {G:Res (List D) → Prop} (hxe:Y.xe = NoE) (hcalm:Y.calm = true)
    (hgt:MTg Y tg g) (hif:MIfs Y ifs t) (he:ME Y NoX elt m) (Tn:Turn Y.prog Y.w Y.K tg J fp it tn) (stat:∀ H',(∀ b ∈ fp,H' b = none) → ∀ b ∈ fp,FpOk Y [] H' b) (I:Inv Y [] σ H s) (ht0:tn 0 s.heap) (hf0:∀ b ∈ fp,H b = none)
    (R:RS Y.K (ZS.up Z D' (.lst [])) α F H σ ρ μ) (wk:WalkOk Y.K α F J ds) (hds:ds.length ≤ 16777216) (hG:G (compGo g t m ds ρ μ [])) (hbad:¬ G .bad)
    (hR:∀ (σ':L2.St) (H':Hp) (s':Shared) (α':List Addr) (F':Hp) (xs:List D) (vs:List V) (μ':Mu),Inv Y [] σ' H' s' → RH Y.K (ZS.up Z D' (.lst vs)) α' F' H' μ' → Ext α F α' F' → Reps Y.K F' α' xs vs → G (.ok xs μ') → Rr (.ok .next) s') :
    codeAny (model Y.prog Y.w) Y.A (.compLoop (.ListComp elt [⟨tg,iter,ifs,0⟩] scope pos) 0 (.ref it) (.ref D') Y.env) Rr s:=by
  obtain ⟨tgt,pg,sg⟩:=hgt
  obtain ⟨te,pe,se⟩:=he
  have nox:∀ {α:Type} {tr:Sem α} {Q:α → Shared → Prop} {s:Shared},wpAny (model Y.prog Y.w) Y.A tr Q Y.xe s → wpAny (model Y.prog Y.w) Y.A tr Q NoE s:=fun h => by rw [hxe] at h; exact h
  refine compLoop_own (CSt Y Z D' fp tn α F g t m ds G) ?_ (ds.length + 1) (.mk (i:=0) (xs:=[]) (vs:=[]) (Nat.zero_le _) (Nat.zero_le _) I ht0 hf0 R (Ext.refl _ _) reps_nil hG)
  rintro n s1 (@⟨i,σ1,H1,α1,F1,ρ1,μ1,xs,vs,_,hi,hxl,I1,t1,f1,R1,e1,r1,g1⟩)
  obtain ⟨w1,w2⟩:=wk _ α1 F1 H1 μ1 R1.hp e1 i
  by_cases hlt:i < ds.length
  · obtain ⟨w3,w4⟩:=w1 hlt
    refine wpAny_mono (Tn.item Y rfl rfl rfl hcalm i [] s1 σ1 H1 NoE I1 (stat H1 f1) t1 w3) (fun r s2 h2 => ?_) fun _ _ z => z
    obtain ⟨u,rfl,h2⟩:=h2
    refine wpAny_mono h2 (fun _ s3 h3 => ?_) fun _ _ z => z
    obtain ⟨x,H3,I3,rx,yl,t3,f3⟩:=h3
    obtain ⟨d,F3,hd,R3,sf3,p3⟩:=w4 x H3 yl
    have e3:Ext α1 F1 α1 F3:=⟨sf3,fun _ _ h => h⟩
    rw [List.drop_eq_getElem_cons hlt] at g1
    have hd':ds[i] = d:=by
      rw [List.getElem?_eq_getElem hlt] at hd
      exact Option.some.inj hd
    rw [hd'] at g1
    simp only [compGo] at g1
    cases ht:g d ρ1 with
    | none => rw [ht] at g1; exact absurd g1 hbad
    | some ρ4 =>
      rw [ht] at g1
      simp only at g1
      have I3':=I3.pinned (stat H3 f3) (Tn.obj _ _ t3)
      have R3':RS Y.K (ZS.up Z D' (.lst vs)) α1 F3 H3 σ1 ρ1 μ1:=R1.to R3 e3
      refine wpAny_mono (nox (pg _ s3 σ1 H3 x u (fun σ4 H4 => H4 = H3 ∧ RS Y.K (ZS.up Z D' (.lst vs)) α1 F3 H3 σ4 ρ4 μ1) I3' rx (sg _ α1 F3 H3 σ1 ρ1 μ1 x d ρ4 _ R3' p3 ht fun σ4 R4 => ⟨rfl,R4⟩))) (fun _ s4 h4 => ?_) fun _ _ z => z
      obtain ⟨σ4,H4,I4,rfl,R4⟩:=h4
      have back:∀ {σ5:L2.St} {H5:Hp} {s5:Shared},Inv Y ([] ++ pinsAt fp s3.heap) σ5 H5 s5 → Inv Y [] σ5 H5 s5 ∧ tn (i + 1) s5.heap ∧ ∀ b ∈ fp,H5 b = none:=fun {σ5 H5 s5} I5 => by
        refine ⟨I5.unpinned,Tn.keep _ _ _ t3 fun b hb o e => (I5.pin (b,o) (List.mem_append_right _ (List.mem_append_right _ (mem_pinsAt hb e)))).1,fun b hb => ?_⟩
        obtain ⟨o,e,_⟩:=Tn.obj _ _ t3 b hb
        exact (I5.pin (b,o) (List.mem_append_right _ (List.mem_append_right _ (mem_pinsAt hb e)))).2.1
      refine wpAny_mono (nox (hif _ s4 _ α1 F3 H4 σ4 ρ4 μ1 (fun k H5 => ∃ μ5 α5 F5,RH Y.K (ZS.up Z D' (.lst vs)) α5 F5 H5 μ5 ∧ Ext α1 F3 α5 F5 ∧ G (if k = true then (noX (m ρ4 μ5)).bind fun x μ2 => compGo g t m (ds.drop (i + 1)) ρ4 μ2 (xs ++ [x]) else compGo g t m (ds.drop (i + 1)) ρ4 μ5 xs)) I4 R4 ?_)) (fun k s5 h5 => ?_) fun _ _ z => z
      · cases hk:t ρ4 μ1 with
        | ok k μ5 => rw [hk] at g1; exact fun α5 F5 H5 R5 e5 => ⟨μ5,α5,F5,R5,e5,g1⟩
        | exc x μ5 => rw [hk] at g1; exact absurd g1 hbad
        | bad => rw [hk] at g1; exact absurd g1 hbad
      obtain ⟨H5,I5,μ5,α5,F5,R5,e5,g5⟩:=h5
      cases k with
      | false =>
        obtain ⟨b1,b2,b3⟩:=back I5
        exact ⟨_,by omega,.mk (i:=i + 1) hlt (Nat.le_succ_of_le hxl) b1 b2 b3 (R4.to R5 e5) (e1.trans (e3.trans e5)) ((r1.mono e3).mono e5) g5⟩
      | true =>
        simp only [if_true] at g5 ⊢
        refine wpAny_mono (nox (pe _ s5 σ4 H5 (fun v6 H6 => ∃ x6 μ6 α6 F6,RH Y.K (ZS.up Z D' (.lst vs)) α6 F6 H6 μ6 ∧ Ext α5 F5 α6 F6 ∧ Rep Y.K F6 α6 x6 v6 ∧ G (compGo g t m (ds.drop (i + 1)) ρ4 μ6 (xs ++ [x6]))) I5 (se _ α5 F5 H5 σ4 ρ4 μ5 _ (R4.to R5 e5) ?_))) (fun y s6 h6 => ?_) fun _ _ z => z
        · cases hm:m ρ4 μ5 with
          | ok x6 μ6 => rw [hm] at g5; exact fun v6 α6 F6 H6 R6 e6 p6 => ⟨x6,μ6,α6,F6,R6,e6,p6,g5⟩
          | exc x μ5 => rw [hm] at g5; exact absurd g5 hbad
          | bad => rw [hm] at g5; exact absurd g5 hbad
        obtain ⟨v6,H6,I6,rv,x6,μ6,α6,F6,R6,e6,p6,g6⟩:=h6
        have hHD:H6 D' = some (.lst vs):=R6.zs _ _ up_same
        have hvl:vs.length < sizeLine:=by rw [← r1.length,sizeLine_eq]; omega
        refine wpAny_mono (nox (mt_append (X:=Y) _ s6 σ4 H6 (.ref D') [v6] (.ref D') [y] (fun _ H7 => H7 = upd H6 D' (.lst (vs ++ [v6]))) I6 rfl (.cons rv .nil) ⟨D',vs,v6,rfl,rfl,hHD,hvl,rfl⟩)) (fun z s7 h7 => ?_) fun _ _ z => z
        obtain ⟨_,H7,I7,_,rfl⟩:=h7
        obtain ⟨b1,b2,b3⟩:=back I7
        have R7:=R6.rehold (.lst (vs ++ [v6]))
        refine ⟨_,by omega,.mk (i:=i + 1) (xs:=xs ++ [x6]) (vs:=vs ++ [v6]) hlt ?_ b1 b2 b3 ?_ (e1.trans (e3.trans (e5.trans e6))) ?_ g6⟩
        · rw [List.length_append,List.length_singleton]; exact Nat.succ_le_succ hxl
        · exact ⟨R7,R4.len,fun j dd h => let ⟨v,h1,h2⟩:=R4.sl j dd h; ⟨v,h1,(h2.mono e5).mono e6⟩⟩
        · exact ((((r1.mono e3).mono e5).mono e6).append (reps_cons p6 reps_nil))
  · refine wpAny_mono (Tn.done Y rfl rfl rfl hcalm i [] s1 σ1 H1 NoE I1 (stat H1 f1) t1 (w2 (by omega))) (fun r s2 h2 => ?_) fun _ _ z => z
    obtain ⟨rfl,I2⟩:=h2
    rw [List.drop_eq_nil_of_le (by omega)] at g1
    exact hR σ1 H1 s2 α1 F1 xs vs μ1 I2 R1.hp e1 r1 g1
theorem comp_core {pins:List (Addr × Obj)} {σ:L2.St} {H1:Hp} {s2:Shared} {E:Value → Shared → Prop} {RR:Value → Addr → Result → Shared → Prop} {it:Addr} {fp:List Addr} {tn:Nat → Heap → Prop} {J:It} {Z:ZS} {α:List Addr} {F:Hp} {ρ:En} {μ:Mu} {ds:List D} {G:Res (List D) → Prop}
    (cs:CompScope scope X.env) (cp:Caps X scope T caps ix) (hcalm:X.calm = true) (hb:Blk X scope (T ++ caps) tg ifs elt g t m)
    (I2:Inv X pins σ H1 s2) (Tn:Turn X.prog X.w X.K tg J fp it tn) (ht0:tn 0 s2.heap) (hfp:∀ b ∈ fp,FpOk X pins H1 b) (R:RS X.K Z α F H1 σ ρ μ) (wk:WalkOk X.K α F J ds) (hds:ds.length ≤ 16777216)
    (hG:G (compGo g t m ds (blk T.length ix ρ) μ [])) (hbad:¬ G .bad)
    (hRR:∀ (D' C:Addr) (H':Hp) (s':Shared) (α':List Addr) (F':Hp) (xs:List D) (μ':Mu) (mm:Str → Option Value),Inv X pins σ H' s' → FpOk X pins H' C → s'.heap.Ns C mm → RH X.K Z α' F' H' μ' → Ext α F α' F' → Rep X.K F' α' (.lst xs) (.ref D') → G (.ok xs μ') → RR (.ref D') C (.ok .next) s') :
    wpAny (model X.prog X.w) X.A (newList []) (fun acc s₃ => wpAny (model X.prog X.w) X.A (newFunctionEnv scope X.env.globals (cellsC scope X.env) [] X.env.qual none .none (some X.env)) (fun cenv s₄ =>
      codeAny (model X.prog X.w) X.A (.compStart (.ListComp elt [⟨tg,iter,ifs,0⟩] scope pos) 0 (.ref it) acc { cenv with scope:=relabel scope X.env }) (RR acc cenv.locals) s₄) E s₃) E s2:=by
  have hD:H1 s2.heap.objs.size = none:=I2.fresh
  have hZ:Z.z s2.heap.objs.size = none:=by
    cases e:Z.z s2.heap.objs.size with
    | none => rfl
    | some u => rw [R.hp.zs _ _ e] at hD; cases hD
  have I3:Inv X pins σ (upd H1 s2.heap.objs.size (.lst [])) { s2 with heap:=s2.heap.push { cls:=.type "list",data:=.seq ([]:List Value).toArray },toks:=s2.toks }:=I2.lnew (its:=[]) (ys:=[]) .nil (Nat.zero_le _)
  have k3:∀ b u,s2.heap.get? b = some u → (s2.heap.push { cls:=.type "list",data:=.seq ([]:List Value).toArray }).get? b = some u:=fun b u e => Heap.get?_push_of_some _ e
  refine wpAny_newObj_type (wpAny_newFunctionEnv cs.nocell (by intro y hy; simp at hy) (fun h₁ hns₁ hsb₁ => ?_) cs.kind)
  have hobj:∀ b ∈ fp,∃ o,s2.heap.get? b = some o:=fun b hb => let ⟨o,e,_⟩:=Tn.obj 0 _ ht0 b hb; ⟨o,e⟩
  have hnD:∀ b ∈ fp,b ≠ s2.heap.objs.size:=fun b hb => let ⟨o,e⟩:=hobj b hb; Nat.ne_of_lt (Heap.lt_size e)
  have hex3:∀ b ∈ fp,FpOk X pins (upd H1 s2.heap.objs.size (.lst [])) b ∧ ∃ o,(s2.heap.push { cls:=.type "list",data:=.seq ([]:List Value).toArray }).get? b = some o:=fun b hb => by
    obtain ⟨f0,f1⟩:=hfp b hb
    obtain ⟨o,e⟩:=hobj b hb
    exact ⟨⟨by rw [upd_ne (hnD b hb)]; exact f0,f1⟩,o,k3 b o e⟩
  have keep1:∀ b o,(s2.heap.push { cls:=.type "list",data:=.seq ([]:List Value).toArray }).get? b = some o → h₁.get? b = some o:=fun b o e =>
    hsb₁.extBut b o (Nat.ne_of_lt (Heap.lt_size e)) (Heap.get?_push_of_some _ e)
  have I4:=comp_start (scope:=scope) (T:=T) (caps:=caps) (ix:=ix) (ex:=fp) (tk:=s2.toks + ([]:List (Str × Value)).length) I3 cs cp rfl hex3 (by simpa using hns₁) keep1
  obtain ⟨hgt,hif,he⟩:=hb (s2.heap.push { cls:=.type "list",data:=.seq ([]:List Value).toArray }).objs.size { s2 with heap:=s2.heap.push { cls:=.type "list",data:=.seq ([]:List Value).toArray },toks:=s2.toks } (upd H1 s2.heap.objs.size (.lst [])) fp
  have t1:tn 0 h₁:=Tn.keep 0 _ _ ht0 fun b _ o e => keep1 b o (k3 b o e)
  have stat:∀ H':Hp,(∀ b ∈ fp,H' b = none) → ∀ b ∈ fp,FpOk (compCx X (T ++ caps) scope (s2.heap.push { cls:=.type "list",data:=.seq ([]:List Value).toArray }).objs.size { s2 with heap:=s2.heap.push { cls:=.type "list",data:=.seq ([]:List Value).toArray },toks:=s2.toks } (upd H1 s2.heap.objs.size (.lst [])) fp) [] H' b:=fun H' hn b hb => by
    refine ⟨hn b hb,(I4.ok.exf b hb).1,I4.ok.exfs b hb,.inl hb,(I4.ok.exf b hb).2,fun p hp => ?_⟩
    exact absurd hp (by simp [compCx])
  have loop:codeAny (model X.prog X.w) X.A (.compLoop (.ListComp elt [⟨tg,iter,ifs,0⟩] scope pos) 0 (.ref it) (.ref s2.heap.objs.size) (compEnvC scope (cellsC scope X.env) (s2.heap.push { cls:=.type "list",data:=.seq ([]:List Value).toArray }).objs.size X.env))
      (RR (.ref s2.heap.objs.size) (s2.heap.push { cls:=.type "list",data:=.seq ([]:List Value).toArray }).objs.size) { s2 with heap:=h₁,toks:=s2.toks + ([]:List (Str × Value)).length }:=by
    refine comp_loop (Y:=compCx X (T ++ caps) scope (s2.heap.push { cls:=.type "list",data:=.seq ([]:List Value).toArray }).objs.size { s2 with heap:=s2.heap.push { cls:=.type "list",data:=.seq ([]:List Value).toArray },toks:=s2.toks } (upd H1 s2.heap.objs.size (.lst [])) fp) (Z:=Z) (G:=G) rfl hcalm hgt hif he Tn stat I4 t1 (fun b hb => by rw [upd_ne (hnD b hb)]; exact (hfp b hb).1)
      (rs_blk T.length ix ⟨R.hp.hold (.lst []) hD,R.len,R.sl⟩) wk hds hG hbad fun σ' H' s' α' F' xs vs μ' I' R' e' r' g' => ?_
    have Ib:=comp_back (T:=T) (caps:=caps) (s3:={ s2 with heap:=s2.heap.push { cls:=.type "list",data:=.seq ([]:List Value).toArray },toks:=s2.toks }) I2 (Nat.le_refl _) rfl k3 hfp I'
    obtain ⟨mm,hmm,_⟩:=I'.loc
    have hHD:H' s2.heap.objs.size = some (.lst vs):=R'.zs _ _ up_same
    obtain ⟨R2,s2'⟩:=R'.unhold (.lst vs) hZ
    rw [upd_id hHD] at R2
    refine hRR _ _ H' s' α' _ xs μ' mm Ib (I3.fpOk (Nat.le_refl _) I'.free) hmm R2 (e'.trans ⟨s2',fun _ _ h => h⟩) ?_ g'
    unfold Rep
    exact ⟨_,vs,rfl,SqL.of upd_same,r'.mono ⟨s2',fun _ _ h => h⟩⟩
  exact codeAny_compStart_list loop (Tn.self X.A 0 _ _ _ t1 loop)
theorem inv_but {pins:List (Addr × Obj)} {σ:L2.St} {H:Hp} {s:Shared} {C:Addr} {h':Heap} (I:Inv X pins σ H s) (f:FpOk X pins H C) (hs:Heap.SameBut C s.heap h'):Inv X pins σ H { s with heap:=h' } :=
  I.turned (t':=s.toks) (fun b o hb e => hs.extBut b o hb e) f.1 f.2.1 f.2.2.2.1 f.2.2.2.2.1 f.2.2.2.2.2
theorem me_comp {mi:MIt} (cs:CompScope scope X.env) (cp:Caps X scope T caps ix) (hcalm:X.calm = true) (hi:MI X EX tg iter mi) (hb:Blk X scope (T ++ caps) tg ifs elt g t m) (hs:∀ x,foldedSetIterable iter X.env x = pure x:=by intro _; rfl) :
    ME X EX (.ListComp elt [⟨tg,iter,ifs,0⟩] scope pos) (mComp T.length ix g mi t m):=by
  obtain ⟨wi,pi,si⟩:=hi
  refine ⟨fun σ H Q => ∀ pins s,Inv X pins σ H s → wpAny (model X.prog X.w) X.A (eval (.ListComp elt [⟨tg,iter,ifs,0⟩] scope pos) X.env) (EP X pins σ Q) X.xe s,fun pins s σ H Q I h => h pins s I,fun Z α F H σ ρ μ Q R gd pins s I => ?_⟩
  rw [eval_ListComp]
  refine wpAny_comprehension_free (use:=none) rfl hs (closure_eq (cs.had I.ok)) cs.kind cs.loc ?_
  unfold mComp at gd
  cases hm:mi ρ μ with
  | exc x μ1 =>
    rw [hm] at gd
    have hw:wi σ H fun _ _ => False:=si Z α F H σ ρ μ _ R (by rw [hm]; exact gd)
    refine thn (pi pins s σ H _ I hw) fun v s1 h1 => thn h1 fun itv s2 h2 => ?_
    obtain ⟨_,_,_,_,_,_,_,_,_,_,z⟩:=h2
    exact z.elim
  | bad => rw [hm] at gd; exact gd.elim
  | ok ds μ1 =>
    rw [hm] at gd
    simp only [bind_ok] at gd
    by_cases hds:ds.length ≤ 16777216
    · rw [if_pos hds] at gd
      have hw:wi σ H fun J H1 => ∃ α1 F1,RH X.K Z α1 F1 H1 μ1 ∧ Ext α F α1 F1 ∧ WalkOk X.K α1 F1 J ds:=si Z α F H σ ρ μ _ R (by rw [hm]; exact fun J α' F' H' R' e' w' => ⟨α',F',R',e',w'⟩)
      refine thn (pi pins s σ H _ I hw) fun v s1 h1 => thn h1 fun itv s2 h2 => ?_
      obtain ⟨it,fp,tn,J,H2,rfl,I2,Tn,t0,f2,α1,F1,R1,e1,wk⟩:=h2
      refine comp_core (G:=fun r => GE X.K NoX Z α F Q (r.bind fun xs μ2 => .ok (.lst xs) μ2) ∨ GE X.K EX Z α F Q (r.bind fun xs μ2 => .ok (.lst xs) μ2)) cs cp hcalm hb I2 Tn t0 f2 (R.to R1 e1) wk hds (.inr gd) (fun z => z.elim id id) fun D' C H' s' α' F' xs μ' mm I' fC hn R' e' rp gg => ?_
      refine ⟨mm,hn,fun h' hs' => ⟨.ref D',H',inv_but I' fC hs',rfl,?_⟩⟩
      rcases gg with gg | gg
      · exact gg _ α' F' H' R' (e1.trans e') rp
      · exact gg _ α' F' H' R' (e1.trans e') rp
    · rw [if_neg hds] at gd; exact gd.elim
end
end M
set_option Elab.async false
set_option linter.all false
set_option maxRecDepth 100000
set_option maxHeartbeats 4000000
namespace M
open PySem PySem.Spec PyProof.Rows L2
section
variable {prog:Program} {w:World} {A:Around}
variable {E:Value → Shared → Prop} {s:Shared} {z tI tO i1 i2:Addr} {f1 f2:List Addr} {n1 n2 k:Nat} {P1 P2:Nat → Value → Prop} {S1 S2:Nat → Heap → Prop} {p q:Value}
end
section
variable {X:Cx} {pins:List (Addr × Obj)} {σ:L2.St} {H:Hp} {s:Shared} {h':Heap} {fp:List Addr}
end
end M
set_option Elab.async false
set_option linter.all false
set_option maxRecDepth 100000
set_option maxHeartbeats 4000000
namespace M
open PySem PySem.Spec PyProof.Rows L2
end M
set_option Elab.async false
set_option linter.all false
set_option maxRecDepth 100000
set_option maxHeartbeats 4000000
namespace M
open PySem PySem.Spec PyProof.Rows L2
section
variable {X:Cx} {EX:EXT} {a b:Expr} {pos p tpos:Pos} {ma mb:MX} {elts:List Expr} {x1:Nat}
end
end M
set_option Elab.async false
set_option linter.all false
set_option maxRecDepth 100000
set_option maxHeartbeats 4000000
namespace M
open PySem PySem.Spec PyProof.Rows L2
noncomputable abbrev MGs:=List D → En → Option En
noncomputable def gsNil:MGs:=fun ds ρ => match ds with
  | [] => some ρ
  | _ => none
section
variable {X:Cx} {EX:EXT} {e a b c:Expr} {pos:Pos} {m ma mb mc:MX} {es:List Expr}
noncomputable abbrev MOp:=En → Mu → Res (Option Int)
noncomputable def mPart (m:MX):MOp:=fun ρ μ => (m ρ μ).bind fun d μ1 => match d with
  | .int i => .ok (some i) μ1
  | _ => .bad
noncomputable def GO (K:PySem.W.Frag) (EX:EXT) (Z:ZS) (α:List Addr) (F:Hp) (Q:Option Int → Hp → Prop):Res (Option Int) → Prop
  | .ok o μ => ∀ α' F' H',RH K Z α' F' H' μ → Ext α F α' F' → Q o H'
  | .exc x μ => EX.P Z x μ
  | .bad => False
theorem GO.step {K:PySem.W.Frag} {Z:ZS} {α:List Addr} {F:Hp} {r:Res (Option Int)} {β:Type} {f:Option Int → Mu → Res β} {G:Res β → Prop} {Q:Option Int → Hp → Prop} (h:G (r.bind f)) (hx:∀ x μ,G (.exc x μ) → EX.P Z x μ) (hb:¬ G .bad)
    (hk:∀ d μ' α' F' H',RH K Z α' F' H' μ' → Ext α F α' F' → G (f d μ') → Q d H'):GO K EX Z α F Q r:=by
  cases r with
  | ok d μ => exact fun α' F' H' R e => hk d μ α' F' H' R e h
  | exc x μ => exact hx _ _ h
  | bad => exact hb h
noncomputable def MPt (X:Cx) (EX:EXT) (o:Option Expr) (mo:MOp):Prop:=∃ t:TO,PO X o t ∧ ∀ Z α F H σ ρ μ Q,RS X.K Z α F H σ ρ μ → GO X.K EX Z α F Q (mo ρ μ) → t σ H Q
theorem mp_some (h:ME X EX e m):MPt X EX (some e) (mPart m):=by
  obtain ⟨t,p,s⟩:=h
  refine ⟨_,po_some p,fun Z α F H σ ρ μ Q R g => ?_⟩
  refine s Z α F H σ ρ μ _ R (GE.step (G:=GO X.K EX Z α F Q) g (fun _ _ h => h) (fun h => h) fun d μ1 v α1 F1 H1 R1 e1 p1 g1 => ?_)
  cases d with
  | int i => unfold Rep at p1; exact ⟨i,p1,g1 α1 F1 H1 R1 e1⟩
  | _ => exact g1.elim
noncomputable def cutD (xs:List D) (lo hi:Option Int):List D:=(xs.drop (HT.sIx xs.length 0 lo)).take (HT.sIx xs.length xs.length hi - HT.sIx xs.length 0 lo)
noncomputable def gSl (d:D) (lo hi:Option Int):Option D:=match d with
  | .tup xs => if HT.sIx xs.length 0 lo = 0 ∧ HT.sIx xs.length xs.length hi = xs.length then none else some (.tup (cutD xs lo hi))
  | .lst xs => some (.lst (cutD xs lo hi))
  | _ => none
noncomputable def mSl (m:MX) (lo hi:MOp):MX:=fun ρ μ => (m ρ μ).bind fun d μ1 => (lo ρ μ1).bind fun l μ2 => (hi ρ μ2).bind fun h μ3 => ofO μ3 (gSl (deref μ3 d) l h)
theorem reps_cut {K:PySem.W.Frag} {F:Hp} {α:List Addr} {ds:List D} {vs:List V} {lo hi:Option Int} (h:Reps K F α ds vs):Reps K F α (cutD ds lo hi) (cutV vs lo hi):=by
  unfold cutD cutV
  rw [h.length]
  exact Reps.take _ (Reps.drop _ h)
theorem me_slice {lo hi:Option Expr} {l h:MOp} {p2:Pos} (ha:ME X EX a ma) (hl:MPt X EX lo l) (hh:MPt X EX hi h):ME X EX (.Subscript a (.Slice lo hi none p2) pos) (mSl ma l h):=by
  obtain ⟨ta,pa,sa⟩:=ha
  obtain ⟨tl,pl,sl⟩:=hl
  obtain ⟨th,ph,sh⟩:=hh
  refine ⟨_,pe_slice (SlR.or sl_tup sl_list) pa pl ph,fun Z α F H σ ρ μ Q R g => ?_⟩
  refine sa Z α F H σ ρ μ _ R (GE.step (G:=GE X.K EX Z α F Q) g (fun _ _ h => h) (fun h => h) fun d μ1 v α1 F1 H1 R1 e1 p1 g1 => ?_)
  refine sl Z α1 F1 H1 σ ρ μ1 _ (R.to R1 e1) (GO.step (G:=GE X.K EX Z α F Q) g1 (fun _ _ h => h) (fun h => h) fun l μ2 α2 F2 H2 R2 e2 g2 => ?_)
  refine sh Z α2 F2 H2 σ ρ μ2 _ (R.to R2 (e1.trans e2)) (GO.step (G:=GE X.K EX Z α F Q) g2 (fun _ _ h => h) (fun h => h) fun h μ3 α3 F3 H3 R3 e3 g3 => ?_)
  have p3:=R3.pk ((p1.mono e2).mono e3)
  cases hd:deref μ3 d with
  | tup xs =>
    rw [hd] at p3 g3
    unfold Pk Rep at p3
    obtain ⟨q,vs,rfl,hs,hr⟩:=p3
    simp only [gSl] at g3
    split at g3
    · exact g3.elim
    · rename_i hw
      refine .inl ⟨q,vs,rfl,Same.tup R3.sub hs,by rw [← hr.length]; exact hw,fun p hp => ?_⟩
      obtain ⟨a1,a2,a3⟩:=lay_tup R3 (reps_cut (lo:=l) (hi:=h) hr) hp
      exact g3 _ _ _ _ a1 (e1.trans (e2.trans (e3.trans ⟨a2,fun _ _ h => h⟩))) a3
  | lst xs =>
    rw [hd] at p3 g3
    obtain ⟨q,vs,rfl,hs,hr⟩:=p3
    refine .inr ⟨q,vs,rfl,hs,fun p hp => ?_⟩
    obtain ⟨a1,a2,a3⟩:=lay_lst R3 (reps_cut (lo:=l) (hi:=h) hr) hp
    exact g3 _ _ _ _ a1 (e1.trans (e2.trans (e3.trans ⟨a2,fun _ _ h => h⟩))) a3
  | _ => rw [hd] at g3; exact g3.elim
noncomputable def gListC:GL:=fun ds => match ds with
  | [.lst xs] => some (.lst xs)
  | [.tup xs] => some (.lst xs)
  | _ => none
theorem cm_list:CallM X (.type "list") gListC:=by
  refine ⟨_,call_list_of,fun Z α F H μ ds c vs Q R hp hg k => ?_⟩
  match ds,hg with
  | [.lst xs],hg =>
    obtain ⟨v,r,rfl,⟨q,us,rfl,hs,hr⟩,hq⟩:=hp
    have hq:r = []:=hq
    subst hq
    cases hg
    refine ⟨q,us,rfl,.inl hs,fun p hp => ?_⟩
    obtain ⟨a1,a2,a3⟩:=lay_lst R hr hp
    exact k _ _ _ a1 a2 a3
  | [.tup xs],hg =>
    obtain ⟨v,r,rfl,hv,hq⟩:=hp
    have hq:r = []:=hq
    subst hq
    unfold Pk Rep at hv
    obtain ⟨q,us,rfl,hs,hr⟩:=hv
    cases hg
    refine ⟨q,us,rfl,.inr (Same.tup R.sub hs),fun p hp => ?_⟩
    obtain ⟨a1,a2,a3⟩:=lay_lst R hr hp
    exact k _ _ _ a1 a2 a3
end
end M
set_option Elab.async false
set_option linter.all false
set_option maxRecDepth 100000
set_option maxHeartbeats 4000000
namespace M
open PySem PySem.Spec PyProof.Rows L2
section
variable {X:Cx} {EX:EXT} {e a b c f:Expr} {pos:Pos} {m ma mb mc:MX} {es:List Expr}
theorem key_rep {K:PySem.W.Frag} {α:List Addr} {F:Hp} {d:D} {v:V} {k:DK} (h:Rep K F α d v) (e:keyD d = some k):v = kV (dk k):=by
  cases d with
  | int i => cases e; unfold Rep at h; exact h
  | str x => cases e; unfold Rep at h; exact h
  | _ => cases e
variable {x:Str} {ks:List DK} {ds:List D}
structure Cb (X:Cx) (N G:List Str):Prop where
  hN:X.N = N
  nd:N.Nodup
  vis:∀ x ∈ N,Vis X.env.scope x ∧ (x == ("__debug__":Str)) = false ∧ (x == ("__classdict__":Str)) = false
  gl:∀ x ∈ G,Gl X x
  calm:X.calm = true
  un:X.A.units + 200 < cLine
end
section
variable {X:Cx} {EX:EXT} {N G:List Str}
theorem Cb.at (C:Cb X N G) {i:Nat} {x:Str} (h:N[i]? = some x):X.N[i]? = some x:=by rw [C.hN]; exact h
theorem Cb.ndX (C:Cb X N G):X.N.Nodup:=by rw [C.hN]; exact C.nd
theorem Cb.g (C:Cb X N G) (j:Nat) {x:Str} (h:G[j]? = some x):Gl X x:=C.gl x (mem_at h)
theorem svb (C:Cb X N G) (i:Nat) {x:Str} {pos:Pos} (h:N[i]? = some x):ME X EX (.Name x pos) (mVar i) :=
  me_var (C.at h) (C.vis x (mem_at h)).1 (C.vis x (mem_at h)).2.1 (C.vis x (mem_at h)).2.2
theorem stb (C:Cb X N G) (i:Nat) {x:Str} {pos:Pos} (h:N[i]? = some x) (hl:X.env.scope.names.lookup x = some .local):MTg X (.Name x pos) (gN i):=mt_name C.ndX (C.at h) (.inl hl) (.inr hl)
theorem relabel_of {env:Env} {scope:Scope} {x:Str} {k:NameKind} (hk:k ≠ .free) (h:scope.names.lookup x = some k):(relabel scope env).names.lookup x = some k:=by
  unfold relabel
  generalize scope.names = l at h
  simp only
  induction l with
  | nil => cases h
  | cons p r ih =>
    obtain ⟨n,q⟩:=p
    rw [List.lookup_cons] at h
    simp only [List.map_cons]
    by_cases e:(x == n) = true
    · rw [e] at h
      cases h
      rw [if_neg (by simp [hk]),List.lookup_cons,e]
    · have e':(x == n) = false:=by simpa using e
      rw [e'] at h
      have:=ih h
      split
      · rw [List.lookup_cons,e']; exact this
      · rw [List.lookup_cons,e']; exact this
noncomputable def blkB (sc:Scope) (T caps G:List Str):Bool:=T.all (fun x => sc.names.lookup x == some .local && !(x == ("__debug__":Str)) && !(x == ("__classdict__":Str))) && caps.all (fun x => sc.names.lookup x == some .free && !(x == ("__debug__":Str)) && !(x == ("__classdict__":Str))) && G.all fun x => sc.names.lookup x == some .globalImplicit
noncomputable def compB (sc out:Scope):Bool:=sc.kind == .function && sc.names.all fun y => (match y.2 with
  | .cell => false
  | .local => sc.names.lookup y.1 == some .local
  | .free => out.names.lookup y.1 == some .cell || out.names.lookup y.1 == some .free
  | _ => true)
theorem compScope_of {scope:Scope} {env:Env} (h:compB scope env.scope = true):CompScope scope env:=by
  unfold compB at h
  rw [Bool.and_eq_true] at h
  have hk:=h.1
  have ha:=List.all_eq_true.mp h.2
  refine ⟨by simpa using hk,fun y hy e => ?_,fun y hy e => ?_,fun y hy e => ?_⟩
  · have:=ha y hy; rw [e] at this; cases this
  · have:=ha y hy; rw [e] at this; simpa using this
  · have:=ha y hy
    rw [e] at this
    simpa [Env.kindOf] using this
noncomputable def capsB (sc:Scope) (N caps:List Str) (ix:List Nat):Bool:=ix.length == caps.length && (caps.zip ix).all fun p => N[p.2]? == some p.1 && sc.names.lookup p.1 == some .free
theorem caps_of {scope:Scope} {T caps:List Str} {ix:List Nat} (hN:X.N = N) (h:capsB scope N caps ix = true):Caps X scope T caps ix:=by
  unfold capsB at h
  rw [Bool.and_eq_true] at h
  refine ⟨by simpa using h.1,fun j x i e1 e2 => ?_⟩
  have hm:(x,i) ∈ caps.zip ix:=by
    refine List.mem_of_getElem? (i:=j) ?_
    rw [List.getElem?_zip_eq_some]
    exact ⟨e1,e2⟩
  have:=List.all_eq_true.mp h.2 (x,i) hm
  simp only [Bool.and_eq_true,beq_iff_eq] at this
  rw [hN]
  exact this
theorem cb_of {scope:Scope} {T caps:List Str} {C:Addr} {s:Shared} {H:Hp} {ex:List Addr} (hc:X.calm = true) (hu:X.A.units + 200 < cLine) (nd:(T ++ caps).Nodup) (h:blkB scope T caps G = true):Cb (compCx X (T ++ caps) scope C s H ex) (T ++ caps) G:=by
  unfold blkB at h
  rw [Bool.and_eq_true,Bool.and_eq_true] at h
  refine ⟨rfl,nd,fun x hx => ?_,fun x hx => ?_,hc,hu⟩
  · rcases List.mem_append.mp hx with hx | hx
    · have:=List.all_eq_true.mp h.1.1 x hx
      simp only [Bool.and_eq_true,beq_iff_eq,Bool.not_eq_true'] at this
      exact ⟨.inl (relabel_of (by decide) this.1.1),this.1.2,this.2⟩
    · have:=List.all_eq_true.mp h.1.2 x hx
      simp only [Bool.and_eq_true,beq_iff_eq,Bool.not_eq_true'] at this
      exact ⟨.inr (relabel_free this.1.1),this.1.2,this.2⟩
  · have:=List.all_eq_true.mp h.2 x hx
    exact relabel_of (by decide) (by simpa using this)
theorem blk_loc {scope:Scope} {env:Env} {T caps:List Str} (h:blkB scope T caps G = true) {j:Nat} {x:Str} (e:T[j]? = some x):(relabel scope env).names.lookup x = some .local:=by
  unfold blkB at h
  rw [Bool.and_eq_true,Bool.and_eq_true] at h
  have:=List.all_eq_true.mp h.1.1 x (mem_at e)
  simp only [Bool.and_eq_true,beq_iff_eq,Bool.not_eq_true'] at this
  exact relabel_of (by decide) this.1.1
end
end M
set_option Elab.async false
set_option linter.all false
set_option maxRecDepth 100000
set_option maxHeartbeats 4000000
namespace M
open PySem PySem.Spec PyProof.Rows L2
end M
set_option Elab.async false
set_option linter.all false
set_option maxRecDepth 100000
set_option maxHeartbeats 4000000
namespace M
open PySem PySem.Spec PyProof.Rows L2
variable {ρ:En} {μ μ1 μ2:Mu} {m ma mb mc:MX} {ms:MAs} {t u:MB} {n a b r:MSt} {d x y z:D} {ds:List D} {k:Bool} {φ:Fn} {g:G2} {o:Out}
theorem v_var (i:Nat) (h:ρ[i]? = some (some d)):mVar i ρ μ = .ok d μ:=by unfold mVar; rw [h]
theorem v_bin (ha:ma ρ μ = .ok x μ1) (hb:mb ρ μ1 = .ok y μ2) (hg:g (deref μ2 x) (deref μ2 y) = some z):mBin g ma mb ρ μ = .ok z μ2:=by unfold mBin; rw [ha,bind_ok,hb,bind_ok,hg]; rfl
theorem v_nil:mNil ρ μ = .ok [] μ:=rfl
theorem v_cons (ha:m ρ μ = .ok d μ1) (hb:ms ρ μ1 = .ok ds μ2):mCons m ms ρ μ = .ok (d :: ds) μ2:=by rw [e_cons,ha,bind_ok,e_cons1,hb,bind_ok,e_cons2]
theorem v_tup (h:ms ρ μ = .ok ds μ1):mTup ms ρ μ = .ok (.tup ds) μ1:=by unfold mTup; rw [h]; rfl
theorem v_lst (h:ms ρ μ = .ok ds μ1):mLst ms ρ μ = .ok (.lst ds) μ1:=by unfold mLst; rw [h]; rfl
theorem v_call (h:ms ρ μ = .ok ds μ1) (hf:φ ds μ1 = .ok d μ2):mCall φ ms ρ μ = .ok d μ2:=by unfold mCall; rw [h,bind_ok,hf]; rfl
theorem v_callB {g:GL} (h:ms ρ μ = .ok ds μ1) (hf:g (ds.map (deref μ1)) = some d):mCallB g ms ρ μ = .ok d μ1:=by unfold mCallB; rw [h,bind_ok,hf]; rfl
theorem v_test (h:m ρ μ = .ok (.bl k) μ1):mTest m ρ μ = .ok k μ1:=by unfold mTest; rw [h]; rfl
theorem v_tru (h:m ρ μ = .ok d μ1) (ht:truD (deref μ1 d) = some k):mTru m ρ μ = .ok k μ1:=by unfold mTru; rw [h,bind_ok,ht]; rfl
theorem v_not (h:t ρ μ = .ok k μ1):mNot t ρ μ = .ok (!k) μ1:=by unfold mNot; rw [h]; rfl
theorem v_andT (h:t ρ μ = .ok true μ1):mAnd t u ρ μ = u ρ μ1:=by unfold mAnd; rw [h]; rfl
theorem v_andF (h:t ρ μ = .ok false μ1):mAnd t u ρ μ = .ok false μ1:=by unfold mAnd; rw [h]; rfl
theorem v_orT (h:t ρ μ = .ok true μ1):mOr t u ρ μ = .ok true μ1:=by unfold mOr; rw [h]; rfl
theorem v_orF (h:t ρ μ = .ok false μ1):mOr t u ρ μ = u ρ μ1:=by unfold mOr; rw [h]; rfl
theorem v_ifT (h:t ρ μ = .ok true μ1):mIf t ma mb ρ μ = ma ρ μ1:=by unfold mIf; rw [h]; rfl
theorem v_ifF (h:t ρ μ = .ok false μ1):mIf t ma mb ρ μ = mb ρ μ1:=by unfold mIf; rw [h]; rfl
theorem v_ret (h:m ρ μ = .ok d μ1):mRet m ρ μ = .ok (.rt d) μ1:=by unfold mRet; rw [h]; rfl
theorem v_set (i:Nat) (h:m ρ μ = .ok d μ1):mSeq (mSet i m) r ρ μ = r (ρ.set i (some d)) μ1:=by unfold mSeq mSet; rw [h]; rfl
theorem v_iteT (h:t ρ μ = .ok true μ1):mIte t a b ρ μ = a ρ μ1:=by unfold mIte; rw [h]; rfl
theorem v_iteF (h:t ρ μ = .ok false μ1):mIte t a b ρ μ = b ρ μ1:=by unfold mIte; rw [h]; rfl
theorem v_seqN {ρ1:En} (h:n ρ μ = .ok (.nx ρ1) μ1):mSeq n r ρ μ = r ρ1 μ1:=by unfold mSeq; rw [h]; rfl
theorem v_seqR (h:n ρ μ = .ok (.rt d) μ1):mSeq n r ρ μ = .ok (.rt d) μ1:=by unfold mSeq; rw [h]; rfl
theorem v_skip (h:t ρ μ = .ok false μ1):mSeq (mIte t a mSkip) r ρ μ = r ρ μ1:=v_seqN (v_iteF h)
theorem v_take (h:t ρ μ = .ok true μ1) (hm:m ρ μ1 = .ok d μ2):mSeq (mIte t (mRet m) b) r ρ μ = .ok (.rt d) μ2:=v_seqR ((v_iteT h).trans (v_ret hm))
theorem v_fn (j:Nat) (h:n (ds.map some ++ List.replicate j none) μ = .ok (.rt d) μ1):fnOf j n ds μ = .ok d μ1:=by rw [e_fnOf,h]; rfl
theorem v_forN (i:Nat) {ρ1:En} (h:n (ρ.set i (some d)) μ = .ok (.nx ρ1) μ1):forGo (gN i) n (d :: ds) ρ μ = forGo (gN i) n ds ρ1 μ1:=by rw [e_forCons,h]; rfl
theorem v_pick {L:List D} {i:Int} {n:Nat} (h:ms ρ μ = .ok L μ) (hi:m ρ μ = .ok (.int i) μ) (hl:L.length = n) (h0:0 < n):∃ d ∈ L,mBin gIdx (mLst ms) (mBin gMod m (mC (.int n))) ρ μ = .ok d μ:=by
  have h1:mBin gMod m (mC (.int n)) ρ μ = .ok (.int (i % n)) μ:=v_bin hi rfl (g_mod i n (by omega))
  have hk:(i % n).toNat < L.length:=by
    have a1:=Int.emod_nonneg i (b:=(n:Int)) (by omega)
    have a2:=Int.emod_lt_of_pos i (b:=(n:Int)) (by omega)
    omega
  refine ⟨L[(i % n).toNat],List.getElem_mem hk,v_bin (v_lst h) h1 ?_⟩
  show atI L (i % n) = _
  rw [atI_pos (Int.emod_nonneg _ (by omega)),List.getElem?_eq_getElem hk]
end M
set_option Elab.async false
set_option linter.all false
set_option maxRecDepth 100000
set_option maxHeartbeats 4000000
namespace M
open PySem PySem.Spec PyProof.Rows L2
theorem get_snoc {β:Type} {l:List β} {x y:β} {k:Nat} (h:(l ++ [x])[k]? = some y):l[k]? = some y ∨ (k = l.length ∧ y = x):=by
  by_cases hk:k < l.length
  · rw [List.getElem?_append_left hk] at h; exact .inl h
  · rw [List.getElem?_append_right (by omega)] at h
    have:k - l.length = 0:=by
      cases e:k - l.length with
      | zero => rfl
      | succ n => rw [e] at h; simp at h
    rw [this] at h
    simp at h
    exact .inr ⟨by omega,h.symm⟩
theorem ext_snoc (α:List Addr) (F:Hp) (p:Addr):Ext α F (α ++ [p]) F:=⟨Same.refl F,fun k a h => by
  have:k < α.length:=by
    by_cases hk:k < α.length
    · exact hk
    · rw [List.getElem?_eq_none (by omega)] at h; cases h
  rw [List.getElem?_append_left this]; exact h⟩
section
variable {K:PySem.W.Frag} {Z:ZS} {F H:Hp} {α:List Addr} {μ:Mu} {p:Addr} {o o':HO} {c:Cell}
theorem CellOk.mono {α':List Addr} {H':Hp} {a:Addr} (h:CellOk K α F H a c) (e:Ext α F α' F) (hh:c ≠ .dead → H' a = H a):CellOk K α' F H' a c:=by
  exact h.go e (fun _ => rfl) hh
theorem RH.unholdC (r:RH K (ZS.up Z p o) α F H μ) (hz:Z.z p = none) (hok:CellOk K (α ++ [p]) F (upd H p o') p c):RH K Z (α ++ [p]) F (upd H p o') (μ ++ [c]):=by
  have fp:F p = none:=r.zf p o up_same
  have nc:∀ (k:Nat) (a:Addr) (c:Cell),α[k]? = some a → μ[k]? = some c → c ≠ .dead → a ≠ p:=fun k a c ha hc hd z => by
    have:=r.zc k a c ha hc hd
    rw [z,up_same] at this
    cases this
  have hlen:=r.len
  have both:∀ (k:Nat) (a:Addr) (c':Cell),(α ++ [p])[k]? = some a → (μ ++ [c])[k]? = some c' → (α[k]? = some a ∧ μ[k]? = some c') ∨ (k = α.length ∧ a = p ∧ c' = c):=fun k a c' ha hc => by
    rcases get_snoc ha with h1 | ⟨h1,h2⟩
    · rcases get_snoc hc with h3 | ⟨h3,h4⟩
      · exact .inl ⟨h1,h3⟩
      · have:k < α.length:=(List.getElem?_eq_some_iff.mp h1).1
        omega
    · rcases get_snoc hc with h3 | ⟨h3,h4⟩
      · have:k < μ.length:=(List.getElem?_eq_some_iff.mp h3).1
        omega
      · exact .inr ⟨h1,h2,h4⟩
  refine ⟨fun b u e => ?_,by simp [hlen],fun k a c' ha hc => ?_,fun b u e => ?_,fun b u e => ?_,fun k a c' ha hc hd => ?_,fun j k a c1 c2 hj hk cj ck d1 d2 => ?_,r.ext.trans (ext_snoc α F p)⟩
  · rw [upd_ne (fun z => by rw [z,fp] at e; cases e)]; exact r.sub b u e
  · rcases both k a c' ha hc with ⟨h1,h2⟩ | ⟨h1,h2,h3⟩
    · exact (r.cell k a c' h1 h2).mono (ext_snoc α F p) fun hd => by rw [upd_ne (nc k a c' h1 h2 hd)]
    · rw [h2,h3]; exact hok
  · have hb:b ≠ p:=fun z => by rw [z,hz] at e; cases e
    rw [upd_ne hb]
    exact r.zs b u (by rw [up_ne hb]; exact e)
  · have hb:b ≠ p:=fun z => by rw [z,hz] at e; cases e
    exact r.zf b u (by rw [up_ne hb]; exact e)
  · rcases both k a c' ha hc with ⟨h1,h2⟩ | ⟨h1,h2,h3⟩
    · have:=r.zc k a c' h1 h2 hd
      rw [up_ne (nc k a c' h1 h2 hd)] at this
      exact this
    · rw [h2]; exact hz
  · rcases both j a c1 hj cj with ⟨h1,h2⟩ | ⟨h1,h2,h3⟩
    · rcases both k a c2 hk ck with ⟨g1,g2⟩ | ⟨g1,g2,g3⟩
      · exact r.dis j k a c1 c2 h1 g1 h2 g2 d1 d2
      · exact absurd g2 (nc j a c1 h1 h2 d1)
    · rcases both k a c2 hk ck with ⟨g1,g2⟩ | ⟨g1,g2,g3⟩
      · exact absurd h2 (nc k a c2 g1 g2 d2)
      · omega
theorem upd_upd (H:Hp) (p:Addr) (o o':HO):upd (upd H p o) p o' = upd H p o':=by
  funext b
  by_cases hb:b = p
  · subst hb; rw [upd_same,upd_same]
  · rw [upd_ne hb,upd_ne hb,upd_ne hb]
theorem RH.newCell (r:RH K Z α F H μ) (hp:H p = none) (hok:CellOk K (α ++ [p]) F (upd H p o') p c):RH K Z (α ++ [p]) F (upd H p o') (μ ++ [c]):=by
  have hz:Z.z p = none:=by
    cases e:Z.z p with
    | none => rfl
    | some u => rw [r.zs _ _ e] at hp; cases hp
  have:=RH.unholdC (o:=o') (o':=o') (r.hold o' hp) hz (by rw [upd_upd]; exact hok)
  rw [upd_upd] at this
  exact this
theorem fnone (r:RH K Z α F H μ) (hp:H p = none):F p = none:=by
  cases e:F p with
  | none => rfl
  | some u => rw [r.sub _ _ e] at hp; cases hp
theorem new_lst {ds:List D} {vs:List V} (r:RH K Z α F H μ) (hr:Reps K F α ds vs) (hp:H p = none) :
    RH K Z (α ++ [p]) F (upd H p (.lst vs)) (μ ++ [.lst ds]) ∧ Ext α F (α ++ [p]) F ∧ Rep K F (α ++ [p]) (.ref μ.length) (.ref p):=by
  refine ⟨r.newCell hp ⟨fnone r hp,vs,upd_same,hr.mono (ext_snoc α F p)⟩,ext_snoc α F p,?_⟩
  unfold Rep
  exact ⟨p,by rw [← r.len,List.getElem?_append_right (Nat.le_refl _)]; simp,rfl⟩
theorem RH.setCell {k:Nat} {a:Addr} {c0:Cell} (r:RH K Z α F H μ) (ha:α[k]? = some a) (hc:μ[k]? = some c0) (hd:c0 ≠ .dead) (hok:CellOk K α F (upd H a o) a c):RH K Z α F (upd H a o) (μ.set k c):=by
  have hF:F a = none:=by
    exact ((r.cell k a c0 ha hc).live hd).1
  have hZ:Z.z a = none:=r.zc k a c0 ha hc hd
  have hk:k < μ.length:=(List.getElem?_eq_some_iff.mp hc).1
  have at':∀ (j:Nat) (c':Cell),(μ.set k c)[j]? = some c' → (j = k ∧ c' = c) ∨ (j ≠ k ∧ μ[j]? = some c'):=fun j c' h => by
    by_cases e:j = k
    · subst e; rw [List.getElem?_set_self hk] at h; exact .inl ⟨rfl,(Option.some.inj h).symm⟩
    · rw [List.getElem?_set_ne (Ne.symm e)] at h; exact .inr ⟨e,h⟩
  refine ⟨fun b u e => ?_,by simp [r.len],fun j b c' hj hc' => ?_,fun b u e => ?_,r.zf,fun j b c' hj hc' d' => ?_,fun i j b c1 c2 hi hj ci cj d1 d2 => ?_,r.ext⟩
  · rw [upd_ne (fun z => by rw [z,hF] at e; cases e)]; exact r.sub b u e
  · rcases at' j c' hc' with ⟨e1,e2⟩ | ⟨e1,e2⟩
    · subst e1; rw [ha] at hj; cases hj; rw [e2]; exact hok
    · refine (r.cell j b c' hj e2).mono (Ext.refl _ _) fun d' => ?_
      rw [upd_ne (fun z => e1 (r.dis j k a c' c0 (by rw [← z]; exact hj) ha e2 hc d' hd))]
  · rw [upd_ne (fun z => by rw [z,hZ] at e; cases e)]; exact r.zs b u e
  · rcases at' j c' hc' with ⟨e1,e2⟩ | ⟨e1,e2⟩
    · subst e1; rw [ha] at hj; cases hj; exact hZ
    · exact r.zc j b c' hj e2 d'
  · rcases at' i c1 ci with ⟨e1,e2⟩ | ⟨e1,e2⟩
    · rcases at' j c2 cj with ⟨g1,g2⟩ | ⟨g1,g2⟩
      · omega
      · subst e1
        exact r.dis i j b c0 c2 hi hj hc g2 hd d2
    · rcases at' j c2 cj with ⟨g1,g2⟩ | ⟨g1,g2⟩
      · subst g1
        exact r.dis i j b c1 c0 hi hj e2 hc d1 hd
      · exact r.dis i j b c1 c2 hi hj e2 g2 d1 d2
end
noncomputable def mLstC (ms:MAs):MX:=fun ρ μ => (ms ρ μ).bind fun ds μ1 => .ok (.ref μ1.length) (μ1 ++ [.lst ds])
section
variable {X:Cx} {EX:EXT} {e a b c:Expr} {pos:Pos} {m ma mb mc:MX} {es:List Expr} {ms:MAs}
theorem me_lstC (h:MA X EX es ms) (hl:es.length ≤ 16777216:=by decide):ME X EX (.List es pos) (mLstC ms):=by
  obtain ⟨t,p,s,l⟩:=h
  refine ⟨_,pe_lst p,fun Z α F H σ ρ μ Q R g => ?_⟩
  refine s Z α F H σ ρ μ _ R (GA.stepE (G:=GE X.K EX Z α F Q) g (fun _ _ h => h) (fun h => h) fun ds μ1 vs α1 F1 H1 hm R1 e1 p1 g1 => ?_)
  refine ⟨by rw [← p1.length,sizeLine_eq,l _ _ _ _ hm]; exact hl,fun q hq => ?_⟩
  obtain ⟨a1,a2,a3⟩:=new_lst R1 p1 hq
  exact g1 _ _ _ _ a1 (e1.trans a2) a3
end
end M
set_option Elab.async false
set_option linter.all false
set_option maxRecDepth 100000
set_option maxHeartbeats 4000000
namespace M
open PySem PySem.Spec PyProof.Rows L2
noncomputable def isLst:D → Bool
  | .lst _ => true
  | _ => false
noncomputable def appC (d y:D) (μ:Mu):Res D:=match d with
  | .ref k => match μ[k]? with
    | some (.lst ds) => if ds.length < 16777216 then .ok .non (μ.set k (.lst (ds ++ [y]))) else .bad
    | _ => .bad
  | _ => .bad
noncomputable def mAppend (mo m:MX):MX:=fun ρ μ => (mo ρ μ).bind fun d μ1 => if isLst (deref μ1 d) = true then (m ρ μ1).bind fun y μ2 => appC d y μ2 else .bad
noncomputable def putVs (ks:List DK) (vs:List D) (q:DK) (v:D):List D:=List.zipWith (fun k w => if k = q then v else w) ks vs
noncomputable def putC (ρ:En) (d i v:D) (μ:Mu):Res Out:=match d with
  | .ref k => match μ[k]?,keyD i with
    | some (.dic ks vs),some q => if ks.length < 16777216 then (if (ks.any fun k => decide (k = q)) = true then .ok (.nx ρ) (μ.set k (.dic ks (putVs ks vs q v))) else .ok (.nx ρ) (μ.set k (.dic (ks ++ [q]) (vs ++ [v])))) else .bad
    | _,_ => .bad
  | _ => .bad
noncomputable def mPut (mo mi mv:MX):MSt:=fun ρ μ => (mv ρ μ).bind fun v μ1 => (mo ρ μ1).bind fun d μ2 => (mi ρ μ2).bind fun i μ3 => putC ρ d i v μ3
section
variable {X:Cx} {EX:EXT} {e a b c o i:Expr} {pos pos':Pos} {m ma mb mc mo mi mv:MX} {es:List Expr} {ms:MAs}
theorem lst_at {K:PySem.W.Frag} {Z:ZS} {F H:Hp} {α:List Addr} {μ:Mu} {k:Nat} {v:V} {ds:List D} (R:RH K Z α F H μ) (p:Rep K F α (.ref k) v) (h:μ[k]? = some (.lst ds)):∃ a vs,v = .ref a ∧ α[k]? = some a ∧ H a = some (.lst vs) ∧ Reps K F α ds vs ∧ F a = none:=by
  unfold Rep at p
  obtain ⟨a,ha,hv⟩:=p
  obtain ⟨h1,vs,h2,h3⟩:=R.cell k a _ ha h
  exact ⟨a,vs,hv,ha,h2,h3,h1⟩
theorem dic_at {K:PySem.W.Frag} {Z:ZS} {F H:Hp} {α:List Addr} {μ:Mu} {k:Nat} {v:V} {ks:List DK} {ds:List D} (R:RH K Z α F H μ) (p:Rep K F α (.ref k) v) (h:μ[k]? = some (.dic ks ds)):∃ a vs,v = .ref a ∧ α[k]? = some a ∧ H a = some (.dK ((ks.map dk).zip vs)) ∧ ks.length = ds.length ∧ Reps K F α ds vs ∧ F a = none:=by
  unfold Rep at p
  obtain ⟨a,ha,hv⟩:=p
  obtain ⟨h1,vs,h2,hl,h3⟩:=R.cell k a _ ha h
  exact ⟨a,vs,hv,ha,h2,hl,h3,h1⟩
theorem me_append {apos cpos:Pos} (ho:ME X EX o mo) (ha:MA X EX [a] ms) (hm:∀ ρ μ,ms ρ μ = (m ρ μ).bind fun d μ1 => .ok [d] μ1)
    (hbase:attributeBase o "append" X.env (eval o X.env) = eval o X.env:=by rfl)
    (hfew:((backTo cpos (starEach [a] X.env)).all (fun x => !x.1) && (backToKw cpos (keywordEach [] X.env)).all (fun x => x.1.isSome)
      && decide ([a].length + ([]:List Keyword).length + (if ([]:List Keyword).isEmpty then 0 else 1) < 30)) = true:=by rfl)
    (hline:(apos.endLine == cpos.line) = true:=by rfl) (hs:starEach [a] X.env = (false,eval a X.env) :: starEach [] X.env:=by rfl) (hplain:(backTo cpos (starEach [] X.env)).any (·.1) = false:=by rfl) :
    ME X EX (.Call (.Attribute o "append" apos) [a] [] cpos) (mAppend mo m):=by
  obtain ⟨to,po,so⟩:=ho
  obtain ⟨ta,pa,sa,_⟩:=ha
  refine ⟨_,pe_bm PySem.F.plainAttrs_list PySem.F.slot_list_append PySem.F.type_list_append mt_append po pa hbase hfew hline hs hplain,fun Z α F H σ ρ μ Q R g => ?_⟩
  refine so Z α F H σ ρ μ _ R (GE.step (G:=GE X.K EX Z α F Q) g (fun _ _ h => h) (fun h => h) fun d μ1 v α1 F1 H1 R1 e1 p1 g1 => ?_)
  by_cases hd:isLst (deref μ1 d) = true
  · rw [if_pos hd] at g1
    refine ⟨?_,?_⟩
    · have k1:=R1.pk p1
      cases hq:deref μ1 d with
      | lst xs =>
        rw [hq] at k1
        obtain ⟨q,us,rfl,hsq,hr⟩:=k1
        exact .inl ⟨rfl,us,hsq⟩
      | _ => rw [hq] at hd; cases hd
    · refine sa Z α1 F1 H1 σ ρ μ1 _ (R.to R1 e1) ?_
      rw [hm]
      cases hy:m ρ μ1 with
      | exc x μ2 => rw [hy] at g1; exact g1
      | bad => rw [hy] at g1; exact g1
      | ok y μ2 =>
        rw [hy] at g1
        intro vs α2 F2 H2 R2 e2 p2
        unfold Reps at p2
        obtain ⟨vy,r,rfl,p2,hr⟩:=p2
        have hr:r = []:=hr
        subst hr
        have p1':=p1.mono e2
        have g1:GE X.K EX Z α F Q (appC d y μ2):=g1
        unfold appC at g1
        cases d with
        | ref k =>
          simp only at g1
          cases hc:μ2[k]? with
          | none => rw [hc] at g1; exact g1.elim
          | some cc =>
            rw [hc] at g1
            cases cc with
            | lst ds =>
              simp only at g1
              split at g1
              · rename_i hl
                obtain ⟨q,us,rfl,hα,hH,hr,hF⟩:=lst_at R2 p1' hc
                refine ⟨q,us,vy,rfl,rfl,hH,by rw [← hr.length,sizeLine_eq]; exact hl,?_⟩
                exact g1 .non α2 F2 _ (R2.setCell hα hc (by simp) ⟨hF,_,upd_same,hr.append (reps_cons p2 reps_nil)⟩) (e1.trans e2) rep_non
              · exact g1.elim
            | _ => exact g1.elim
        | _ => exact g1.elim
  · rw [if_neg hd] at g1; exact g1.elim
theorem putVs_zip {q:DK} {u:V}:∀ (ks:List DK) (us:List V),((ks.map dk).zip us).map (fun kv => if kv.1 = dk q then (kv.1,u) else kv) = (ks.map dk).zip (List.zipWith (fun k w => if k = q then u else w) ks us)
  | [],us => rfl
  | k :: ks,[] => rfl
  | k :: ks,w :: us => by
    simp only [List.map_cons,List.zip_cons_cons,List.zipWith_cons_cons]
    rw [putVs_zip ks us]
    congr 1
    by_cases e:k = q
    · subst e; simp
    · have e2:¬ dk k = dk q:=fun z => e (dk_inj z)
      simp [e,e2]
theorem any_zip {q:DK}:∀ (ks:List DK) (us:List V),ks.length = us.length → (((ks.map dk).zip us).any fun kv => decide (kv.1 = dk q)) = (ks.any fun k => decide (k = q))
  | [],[],_ => rfl
  | [],_ :: _,h => by simp at h
  | k :: ks,[],h => by simp at h
  | k :: ks,w :: us,h => by
    simp only [List.map_cons,List.zip_cons_cons,List.any_cons]
    rw [any_zip ks us (by simpa using h)]
    congr 1
    by_cases e:k = q
    · subst e; simp
    · have e2:¬ dk k = dk q:=fun z => e (dk_inj z)
      simp [e,e2]
theorem reps_put {K:PySem.W.Frag} {F:Hp} {α:List Addr} {q:DK} {v:D} {u:V} (hv:Rep K F α v u):∀ (ks:List DK) (ds:List D) (us:List V),ks.length = ds.length → Reps K F α ds us → Reps K F α (putVs ks ds q v) (List.zipWith (fun k w => if k = q then u else w) ks us)
  | [],[],us,_,h => by have:=h.length; cases us with
      | nil => exact reps_nil
      | cons _ _ => simp at this
  | [],_ :: _,_,h,_ => by simp at h
  | k :: ks,[],_,h,_ => by simp at h
  | k :: ks,d :: ds,us,hl,h => by
    unfold Reps at h
    obtain ⟨w,r,rfl,h1,h2⟩:=h
    have ih:=reps_put (q:=q) hv ks ds r (by simpa using hl) h2
    unfold putVs at ih ⊢
    simp only [List.zipWith_cons_cons]
    refine reps_cons ?_ ih
    by_cases e:k = q
    · rw [if_pos e,if_pos e]; exact hv
    · rw [if_neg e,if_neg e]; exact h1
theorem ms_put (hu:X.A.units + 200 < cLine) (ho:ME X EX o mo) (hi:ME X EX i mi) (hv:ME X EX e mv) (hs:swapsWith e (some (.Subscript o i pos')) pos.line X.env = pure false:=by rfl):MS X EX (.Assign [.Subscript o i pos'] e pos) (mPut mo mi mv):=by
  obtain ⟨to,po,so⟩:=ho
  obtain ⟨ti,pi,si⟩:=hi
  obtain ⟨tv,pv,sv⟩:=hv
  refine ⟨_,ps_dput (by omega) po pi pv hs,fun Z α F H σ ρ μ N R g => ?_⟩
  refine sv Z α F H σ ρ μ _ R (GE.step (G:=GS X.K EX Z α F N) g (fun _ _ h => h) (fun h => h) fun v μ1 vv α1 F1 H1 R1 e1 p1 g1 => ?_)
  refine so Z α1 F1 H1 σ ρ μ1 _ (R.to R1 e1) (GE.step (G:=GS X.K EX Z α F N) g1 (fun _ _ h => h) (fun h => h) fun d μ2 vd α2 F2 H2 R2 e2 p2 g2 => ?_)
  refine si Z α2 F2 H2 σ ρ μ2 _ (R.to R2 (e1.trans e2)) (GE.step (G:=GS X.K EX Z α F N) g2 (fun _ _ h => h) (fun h => h) fun j μ3 vj α3 F3 H3 R3 e3 p3 g3 => ?_)
  have p1':=(p1.mono e2).mono e3
  have p2':=p2.mono e3
  have ee:=e1.trans (e2.trans e3)
  unfold putC at g3
  cases d with
  | ref k =>
    simp only at g3
    cases hc:μ3[k]? with
    | none => rw [hc] at g3; exact g3.elim
    | some cc =>
      rw [hc] at g3
      cases cc with
      | dic ks ds =>
        cases hk:keyD j with
        | none => rw [hk] at g3; exact g3.elim
        | some q =>
          rw [hk] at g3
          simp only at g3
          split at g3
          · rename_i hl
            obtain ⟨a,us,rfl,hα,hH,hlen,hr,hF⟩:=dic_at R3 p2' hc
            have hul:ks.length = us.length:=hlen.trans hr.length
            have hy:=key_rep p3 hk
            have hsz:((ks.map dk).zip us).length < sizeLine:=by rw [List.length_zip,List.length_map,← hul,Nat.min_self,sizeLine_eq]; exact hl
            refine ⟨a,_,rfl,by rw [hy]; exact DPut.k hH hsz,?_⟩
            unfold putK
            rw [any_zip ks us hul]
            by_cases hq:(ks.any fun k => decide (k = q)) = true
            · rw [if_pos hq] at g3 ⊢
              rw [putVs_zip]
              have R4:=R3.setCell (o:=.dK ((ks.map dk).zip (List.zipWith (fun k w => if k = q then vv else w) ks us))) (c:=.dic ks (putVs ks ds q v)) hα hc (by simp) ⟨hF,_,upd_same,by unfold putVs; rw [List.length_zipWith,hlen,Nat.min_self],reps_put p1' ks ds us hlen hr⟩
              exact g3 σ α3 F3 _ (R.to R4 ee) ee
            · rw [if_neg hq] at g3 ⊢
              have ez:(ks.map dk).zip us ++ [(dk q,vv)] = ((ks ++ [q]).map dk).zip (us ++ [vv]):=by
                rw [List.map_append,List.zip_append (by simpa using hul)]
                rfl
              rw [ez]
              have R4:=R3.setCell (o:=.dK (((ks ++ [q]).map dk).zip (us ++ [vv]))) (c:=.dic (ks ++ [q]) (ds ++ [v])) hα hc (by simp) ⟨hF,_,upd_same,by simp [hlen],hr.append (reps_cons p1' reps_nil)⟩
              exact g3 σ α3 F3 _ (R.to R4 ee) ee
          · exact g3.elim
      | _ => cases hk:keyD j <;> rw [hk] at g3 <;> exact g3.elim
  | _ => exact g3.elim
end
end M
set_option Elab.async false
set_option linter.all false
set_option maxRecDepth 100000
set_option maxHeartbeats 4000000
namespace M
open PySem PySem.Spec PyProof.Rows L2
section
variable {X:Cx} {EX:EXT} {a b:Expr} {pos p tpos:Pos} {ma mb:MX} {elts:List Expr} {x1:Nat}
end
end M
set_option Elab.async false
set_option linter.all false
set_option maxRecDepth 100000
set_option maxHeartbeats 4000000
namespace M
open PySem PySem.Spec PyProof.Rows L2
noncomputable def mDicC (ks:List DK) (ms:MAs):MX:=fun ρ μ => (ms ρ μ).bind fun ds μ1 => .ok (.ref μ1.length) (μ1 ++ [.dic ks ds])
section
variable {X:Cx} {EX:EXT} {e a b c:Expr} {pos pos2:Pos} {m ma mb mc:MX} {es:List Expr} {ms:MAs}
theorem me_dicC {keys:List (Option Expr)} {values:List Expr} {ks:List DK} {ms:MAs} (h:MPs X EX pos keys values ks ms) (nd:ks.Nodup) (hall:keys.all (·.isSome) = true) (hl:keys.length = values.length) (h0:keys ≠ []) (h15:keys.length ≤ 15) :
    ME X EX (.Dict keys values pos) (mDicC ks ms):=by
  obtain ⟨hk,⟨trs,pp,sp⟩,lp⟩:=h
  refine ⟨_,pe_disp pp hall hl h0 h15,fun Z α F H σ ρ μ Q R g => ?_⟩
  intro p hp
  have hz:Z.z p = none:=by
    cases e:Z.z p with
    | none => rfl
    | some u => rw [R.hp.zs _ _ e] at hp; cases hp
  refine sp (ZS.up Z p (.dK [])) α F (upd H p (.dK [])) σ ρ μ _ ⟨R.hp.hold _ hp,R.len,R.sl⟩ (GA.stepE (G:=GE X.K EX Z α F Q) g (fun _ _ h => EX.mono _ _ _ _ _ hz h) (fun h => h) fun ds μ1 vs α1 F1 H1 hm R1 e1 p1 g1 => ?_)
  have hlen:=lp _ _ _ _ hm
  have hlen2:=p1.length
  refine ⟨R1.zs _ _ up_same,(ks.map dk).zip vs,?_,?_,?_⟩
  · show (ks.map fun k => kV (dk k)).zip vs = ((ks.map dk).zip vs).map fun kv => (kV kv.1,kv.2)
    have:(ks.map fun k => kV (dk k)) = (ks.map dk).map kV:=by simp
    rw [this]
    exact zip_map1 kV _ _
  · rw [List.length_zip,List.length_map]; omega
  · have nd2:(((ks.map dk).zip vs).map (·.1)).Nodup:=by
      rw [List.map_fst_zip (by simp; omega)]
      exact nodup_dk nd
    rw [merge_new _ [] (by simpa using nd2),List.nil_append]
    have R2:=R1.unholdC (o':=.dK ((ks.map dk).zip vs)) (c:=.dic ks ds) hz ⟨R1.zf p _ up_same,vs,upd_same,by omega,p1.mono (ext_snoc _ _ _)⟩
    refine g1 _ _ _ _ R2 (e1.trans (ext_snoc _ _ _)) ?_
    unfold Rep
    exact ⟨p,by rw [← R1.len,List.getElem?_append_right (Nat.le_refl _)]; simp,rfl⟩
end
end M
set_option Elab.async false
set_option linter.all false
set_option maxRecDepth 100000
set_option maxHeartbeats 4000000
namespace M
open PySem PySem.Spec PyProof.Rows L2
section
variable {Md:Model} {A:Around} {E:Value → Shared → Prop} {s:Shared} {base:Heap} {env:Env} {outer:List Env} {L e:Addr}
end
end M
set_option Elab.async false
set_option linter.all false
set_option maxRecDepth 100000
set_option maxHeartbeats 4000000
namespace M
open PySem PySem.Spec PyProof.Rows L2
section
variable {P:Program} {w:World} {H H0 H':Hp} {h h' h0:Heap} {a T L:Addr} {C:Value} {dx tr tr':Option Addr} {fs:List Addr} {env:Env} {outer:List Env}
end
section
variable {P:Program} {w:World} {K:PySem.W.Frag} {mg:Str → Option Value} {base:Heap} {N:List Str} {qual:Str} {sc:Scope} {f:Addr} {cdv:Value} {A:Around} {outer:List Env} {s:Shared} {H:Hp} {E:XK}
end
end M
set_option Elab.async false
set_option linter.all false
set_option maxRecDepth 100000
set_option maxHeartbeats 4000000
namespace M
open PySem PySem.Spec PyProof.Rows L2
noncomputable abbrev XCs:=Nat → Str × Str
section
variable {P:Program} {w:World} {K:PySem.W.Frag} {mg:Str → Option Value} {base:Heap} {xc:XCs}
end
section
variable {X:Cx} {e a b c:Expr} {pos:Pos} {m ma mb mc:MX} {es rest:List Expr} {ms:MAs} {E:XK} {xc:XCs}
end
end M
set_option Elab.async false
set_option linter.all false
set_option maxRecDepth 100000
set_option maxHeartbeats 4000000
namespace M
open PySem PySem.Spec PyProof.Rows L2
section
variable {prog:Program} {w:World} {A:Around} {E:Value → Shared → Prop} {h:Heap} {g:Array GenState} {d:Drawn} {t:Nat} {os:OsState}
variable {nm q:Str} {C N f:Addr} {bs bm bmB:List Value} {hdct:Bool} {sn:List Str} {sub:List Value} {ab:Bool} {col:Option Bool} {dd:Option Addr} {k0 k1 k2 k3 k5:Option Value} {B newId initId:String}
end
end M
set_option Elab.async false
set_option linter.all false
set_option maxRecDepth 100000
set_option maxHeartbeats 4000000
namespace M
open PySem PySem.Spec PyProof.Rows L2 PySem.Builtin PySem.Builtin.ObjectAttr
section
variable {prog:Program} {w:World} {A:Around} {E:Value → Shared → Prop} {s:Shared} {K:PySem.W.Frag} {x C:Addr} {name:Str} {v:Value}
end
section
variable {prog:Program} {w:World} {A:Around} {E:Value → Shared → Prop} {s:Shared} {K:PySem.W.Frag} {x C f:Addr} {name:Str} {v:Value}
end
end M
set_option Elab.async false
set_option linter.all false
set_option maxRecDepth 100000
set_option maxHeartbeats 4000000
namespace M
open PySem PySem.Spec PyProof.Rows L2
section
variable {X:Cx} {pos p1 p2 p3 p4 p5 p6 p7:Pos} {self at_:Str} {txt:Str} {j:Nat} {D C f:Addr} {nm:Str} {xD:Str}
end
end M
set_option Elab.async false
set_option linter.all false
set_option maxRecDepth 100000
set_option maxHeartbeats 4000000
namespace M
open PySem PySem.Spec PyProof.Rows L2
end M
set_option Elab.async false
set_option linter.all false
set_option maxRecDepth 100000
set_option maxHeartbeats 4000000
namespace M
open PySem PySem.Spec PyProof.Rows L2
section
variable {P:Program} {w:World} {K:PySem.W.Frag} {mg:Str → Option Value} {base:Heap} {N:List Str} {qual:Str} {sc:Scope} {f:Addr} {cdv:Value} {A:Around} {outer:List Env} {s:Shared} {H:Hp} {E:XK}
end
end M
set_option Elab.async false
set_option linter.all false
set_option maxRecDepth 100000
set_option maxHeartbeats 4000000
namespace M
open PySem PySem.Spec PyProof.Rows L2
section
variable {X:Cx} {pins:List (Addr × Obj)} {σ:L2.St} {H:Hp} {s:Shared} {h':Heap} {a:Addr} {C:Value} {dx tr tr':Option Addr} {fs:List Addr}
end
section
variable {X:Cx} {pins:List (Addr × Obj)} {σ:L2.St} {H:Hp} {s:Shared}
end
section
variable {X:Cx} {pins pins':List (Addr × Obj)} {σ:L2.St} {H:Hp} {s:Shared} {xe:Value → Shared → Prop} {a:Addr}
end
end M
set_option Elab.async false
set_option linter.all false
set_option maxRecDepth 100000
set_option maxHeartbeats 4000000
namespace M
open PySem PySem.Spec PyProof.Rows L2
section
variable {X:Cx} {EX:EXT}
end
end M
set_option Elab.async false
set_option linter.all false
set_option maxRecDepth 100000
set_option maxHeartbeats 4000000
namespace M
open PySem PySem.Spec PyProof.Rows L2 PySem.Builtin PySem.Builtin.ObjectAttr
section
variable {prog:Program} {w:World} {A:Around} {E:Value → Shared → Prop} {s:Shared} {K:PySem.W.Frag} {x C:Addr} {name:Str} {v:Value} {ox od:Obj}
end
section
variable {X:Cx} {EX:EXT} {e:Expr} {m:MX} {pos:Pos}
end
end M
set_option Elab.async false
set_option linter.all false
set_option maxRecDepth 100000
set_option maxHeartbeats 4000000
namespace M
open PySem PySem.Spec PyProof.Rows L2
section
variable {X:Cx} {EX:EXT} {N G:List Str}
end
section
variable {P:Program} {w:World} {K:PySem.W.Frag} {mg:Str → Option Value} {base:Heap} {xc:XCs}
end
end M
set_option Elab.async false
set_option linter.all false
set_option maxRecDepth 100000
set_option maxHeartbeats 4000000
namespace M
open PySem PySem.Spec PyProof.Rows L2
theorem sp_lawM {K:PySem.W.Frag} {φ:Fn} {H:Hp} {a:Addr} {ns:List Int} (hS:SqL K H a (ns.map V.int)) (h:∃ μ,φ [.lst (ns.map .int)] [] = .ok (.bl true) μ):spM K 1 φ [.ref a] H (fun v _ => v = .bl true) (fun _ _ _ => False):=by
  obtain ⟨μ,h⟩:=h
  refine ⟨⟨fun _ => none,[],fun _ => none⟩,[],H,[.lst (ns.map .int)],[],⟨Same.refl H,rfl,fun k a c hk => (by simp at hk),fun b o e => (by cases e),fun b o e => (by cases e),fun k a c hk => (by simp at hk),fun j k a c c' hk => (by simp at hk),⟨fun b o e => (by cases e),fun k a hk => (by simp at hk)⟩⟩,?_,rfl,?_⟩
  · refine reps_cons ?_ reps_nil
    unfold Rep
    exact ⟨a,_,rfl,hS,reps_ints ns⟩
  · rw [h]
    intro v α' F' H' _ _ r
    unfold Rep at r
    exact r
theorem walk_lawM {l:PySem.W.OpenLaw} {q:Program} {loose:List Str} {XP:(Str → Option Value) → Heap → Prop} {YP:World → Heap → Prop} {d:DefRec} {K:Params → PySem.W.Frag} {k:Nat} {x:Str} {φ:Fn} (hn:l.most = some 63) (hdf:d.params.defaults = []) (hr:Room k callerA)
    (hY:∀ (w:World) (h:Heap),YP w h → (K w.params).In h)
    (F:∀ (w:World) (mg:Str → Option Value) (fa:Addr) (h:Heap),(K w.params).In h → h.Ns mainGlobals mg → mg d.name = some (.ref fa) →
      ∃ fd:FuncData,BindsS fd [x] ∧ ∀ base:Heap,FnOk l.prog w (K w.params) mg base CX0 k fa fd [x] (spM (K w.params) 1 φ))
    (hlaw:∀ ns:List Int,ns.length ≤ 63 → ∃ μ,φ [.lst (ns.map .int)] [] = .ok (.bl true) μ) :
    PySem.W.WalkO q loose XP YP l.row.toRowW d [] (fun f vs => PySem.call f vs) :=
  L2.walk_of (n:=63) (k:=k) (x:=x) (CX:=fun _ => CX0) (sp:=fun w => spM (K w.params) 1 φ) hn (by decide) hdf hr hY
    (fun w mg fa h hK hG hm => by
      obtain ⟨fd,hb,hf⟩:=F w mg fa h hK hG hm
      exact ⟨fd,fun s u => .of_eq (hb [u] rfl),fun base _ _ => hf base⟩)
    (fun w H a ns hl _ hS => sp_lawM hS (hlaw ns hl)) fun _ _ _ _ _ z => z
end M
set_option Elab.async false
set_option linter.all false
set_option maxRecDepth 100000
set_option maxHeartbeats 4000000
namespace M
open PySem PySem.Spec PyProof.Rows L2
section
variable {Md:Model} {A:Around} {E:Value → Shared → Prop} {s:Shared} {base:Heap} {env:Env} {outer:List Env} {L e:Addr}
end
section
variable {X:Cx} {pins:List (Addr × Obj)} {σ:L2.St} {H:Hp} {s:Shared} {h h':Heap} {a:Addr} {C:Value} {dx tr:Option Addr} {fs:List Addr} {P:Program} {w:World}
end
section
variable {X:Cx} {E:XK}
end
section
variable {P:Program} {w:World} {K:PySem.W.Frag} {mg:Str → Option Value} {base:Heap} {N:List Str} {qual:Str} {sc:Scope} {f:Addr} {cdv:Value} {A:Around} {outer:List Env} {s:Shared} {H:Hp} {E:XK}
end
end M
set_option Elab.async false
set_option linter.all false
set_option maxRecDepth 100000
set_option maxHeartbeats 4000000
namespace M
open PySem PySem.Spec PyProof.Rows L2
section
variable {P:Program} {w:World} {K:PySem.W.Frag} {mg:Str → Option Value} {base:Heap} {xc:XCs}
end
noncomputable def whGo (t:MB) (n:MSt):Nat → En → Mu → Res Out
  | 0,_,_ => .bad
  | k + 1,ρ,μ => (t ρ μ).bind fun b μ1 => if b = true then (n ρ μ1).bind fun o μ2 => match o with
      | .nx ρ2 => whGo t n k ρ2 μ2
      | .ct ρ2 => whGo t n k ρ2 μ2
      | .bk ρ2 => .ok (.nx ρ2) μ2
      | .rt d => .ok (.rt d) μ2
    else .ok (.nx ρ) μ1
noncomputable def mWhile (k:Nat) (t:MB) (n:MSt):MSt:=fun ρ μ => whGo t n k ρ μ
theorem ms_while {X:Cx} {EX:EXT} {c:Expr} {body:List Stmt} {t:MB} {n:MSt} {pos:Pos} (k:Nat) (hp:PassesOwn (model X.prog X.w) X.A X.env X.xe) (hc:MT X EX c t) (hb:MSs X EX body n):MS X EX (.While c body [] pos) (mWhile k t n):=by
  obtain ⟨tc,pc,sc⟩:=hc
  obtain ⟨tb,pb,sb⟩:=hb
  refine ⟨_,ps_while hp pc pb,fun Z α F H σ ρ μ D R g => ?_⟩
  refine ⟨fun m σ H => ∃ α' F' ρ' μ',RS X.K Z α' F' H σ ρ' μ' ∧ Ext α F α' F' ∧ GS X.K EX Z α F D (whGo t n m ρ' μ'),⟨k,α,F,ρ,μ,R,Ext.refl _ _,g⟩,?_⟩
  rintro m σ1 H1 ⟨α1,F1,ρ1,μ1,R1,e1,g1⟩
  cases m with
  | zero => exact g1.elim
  | succ m =>
    refine sc Z α1 F1 H1 σ1 ρ1 μ1 _ R1 (GB.step (G:=GS X.K EX Z α F D) g1 (fun _ _ h => h) (fun h => h) fun b μ2 α2 F2 H2 R2 e2 g2 => ?_)
    cases b with
    | false =>
      rw [if_neg (by decide)] at g2 ⊢
      exact g2 σ1 α2 F2 H2 (R1.to R2 e2) (e1.trans e2)
    | true =>
      rw [if_pos rfl] at g2 ⊢
      refine ⟨fun σ' H' => ∃ α' F' ρ' μ',RS X.K Z α' F' H' σ' ρ' μ' ∧ Ext α F α' F' ∧ GS X.K EX Z α F D (whGo t n m ρ' μ'),fun σ' H' h => ⟨m,Nat.lt_succ_self m,h⟩,?_⟩
      refine sb Z α2 F2 H2 σ1 ρ1 μ2 _ (R1.to R2 e2) ?_
      cases er:n ρ1 μ2 with
      | bad => rw [er] at g2; exact g2
      | exc x μ3 => rw [er] at g2; exact g2
      | ok o μ3 =>
        rw [er] at g2
        cases o with
        | nx ρ3 => exact fun σ' α' F' H' R' e' => ⟨α',F',ρ3,μ3,R',e1.trans (e2.trans e'),g2⟩
        | ct ρ3 => exact fun σ' α' F' H' R' e' => ⟨α',F',ρ3,μ3,R',e1.trans (e2.trans e'),g2⟩
        | bk ρ3 => exact fun σ' α' F' H' R' e' => g2 σ' α' F' H' R' (e1.trans (e2.trans e'))
        | rt d => exact fun v α' F' H' R' e' r' => g2 v α' F' H' R' (e1.trans (e2.trans e')) r'
end M
set_option Elab.async false
set_option linter.all false
set_option maxRecDepth 100000
set_option maxHeartbeats 4000000
namespace M
open PySem PySem.Spec PyProof.Rows L2
section
variable {X:Cx} {EX:EXT} {o e value:Expr} {m mo mv:MX} {pos pos' tpos:Pos}
end
section
variable {X:Cx} {EX:EXT} {e:Expr} {es:List Expr} {ms:MAs} {p pos:Pos}
end
end M
set_option Elab.async false
set_option linter.all false
set_option maxRecDepth 100000
set_option maxHeartbeats 4000000
namespace M
open PySem PySem.Spec PyProof.Rows L2
section
variable {P:Program} {w:World} {K:PySem.W.Frag} {mg:Str → Option Value} {base:Heap}
end
theorem len_0 {β:Type} {us:List β} (h:us.length = 0):us = []:=List.length_eq_zero_iff.mp h
theorem len_S {β:Type} {us:List β} {n:Nat} (h:us.length = n + 1):∃ a vs,us = a :: vs ∧ vs.length = n:=by
  cases us with
  | nil => cases h
  | cons a vs => exact ⟨a,vs,rfl,Nat.succ.inj h⟩
theorem len_1 {β:Type} {us:List β} (h:us.length = 1):∃ a,us = [a]:=by
  obtain ⟨a,vs,rfl,q⟩:=len_S h
  cases len_0 q
  exact ⟨a,rfl⟩
theorem len_2 {β:Type} {us:List β} (h:us.length = 2):∃ a b,us = [a,b]:=by
  obtain ⟨a,vs,rfl,q⟩:=len_S h
  obtain ⟨b,rfl⟩:=len_1 q
  exact ⟨a,b,rfl⟩
theorem len_3 {β:Type} {us:List β} (h:us.length = 3):∃ a b c,us = [a,b,c]:=by
  obtain ⟨a,vs,rfl,q⟩:=len_S h
  obtain ⟨b,c,rfl⟩:=len_2 q
  exact ⟨a,b,c,rfl⟩
theorem len_4 {β:Type} {us:List β} (h:us.length = 4):∃ a b c d,us = [a,b,c,d]:=by
  obtain ⟨a,vs,rfl,q⟩:=len_S h
  obtain ⟨b,c,d,rfl⟩:=len_3 q
  exact ⟨a,b,c,d,rfl⟩
end M
set_option Elab.async false
set_option linter.all false
set_option maxRecDepth 100000
set_option maxHeartbeats 4000000
namespace M
open PySem PySem.Spec PyProof.Rows L2
noncomputable def popC (d:D) (μ:Mu):Res D:=match d with
  | .ref k => match μ[k]? with
    | some (.lst ds) => match ds[ds.length - 1]? with
      | some y => .ok y (μ.set k (.lst ds.dropLast))
      | none => .bad
    | _ => .bad
  | _ => .bad
noncomputable def mPop (mo:MX):MX:=fun ρ μ => (mo ρ μ).bind fun d μ1 => popC d μ1
section
variable {X:Cx} {EX:EXT} {o:Expr} {mo:MX}
theorem Reps.dropLast {K:PySem.W.Frag} {F:Hp} {α:List Addr}:∀ {ds:List D} {vs:List V},Reps K F α ds vs → Reps K F α ds.dropLast vs.dropLast
  | [],vs,h => by
    unfold Reps at h
    rw [h]
    exact reps_nil
  | [d],vs,h => by
    have:=h.length
    match vs,this with
    | [v],_ => exact reps_nil
  | d :: e :: ds,vs,h => by
    unfold Reps at h
    obtain ⟨v,r,rfl,h1,h2⟩:=h
    have hl:=h2.length
    match r,hl,h2 with
    | w :: r,_,h2 =>
      rw [List.dropLast_cons₂,List.dropLast_cons₂]
      exact reps_cons h1 (Reps.dropLast h2)
theorem Reps.at {K:PySem.W.Frag} {F:Hp} {α:List Addr} {y:D}:∀ {ds:List D} {vs:List V} {i:Nat},Reps K F α ds vs → ds[i]? = some y → ∃ v,vs[i]? = some v ∧ Rep K F α y v
  | [],vs,i,h,e => by simp at e
  | d :: ds,vs,0,h,e => by
    unfold Reps at h
    obtain ⟨v,r,rfl,h1,h2⟩:=h
    have e:d = y:=by simpa using e
    subst e
    exact ⟨v,rfl,h1⟩
  | d :: ds,vs,i + 1,h,e => by
    unfold Reps at h
    obtain ⟨v,r,rfl,h1,h2⟩:=h
    obtain ⟨u,hu,ru⟩:=Reps.at (i:=i) h2 (by simpa using e)
    exact ⟨u,by simpa using hu,ru⟩
theorem me_pop {apos cpos:Pos} (ho:ME X EX o mo)
    (hbase:attributeBase o "pop" X.env (eval o X.env) = eval o X.env:=by rfl)
    (hline:(apos.endLine == cpos.line) = true:=by rfl) :
    ME X EX (.Call (.Attribute o "pop" apos) [] [] cpos) (mPop mo):=by
  obtain ⟨to,po,so⟩:=ho
  refine ⟨_,pe_bm0 PySem.F.plainAttrs_list PySem.F.slot_list_pop PySem.F.type_list_pop mt_pop po hbase hline,fun Z α F H σ ρ μ Q R g => ?_⟩
  refine so Z α F H σ ρ μ _ R (GE.step (G:=GE X.K EX Z α F Q) g (fun _ _ h => h) (fun h => h) fun d μ1 v α1 F1 H1 R1 e1 p1 g1 => ?_)
  unfold popC at g1
  cases d with
  | ref k =>
    simp only at g1
    cases hc:μ1[k]? with
    | none => rw [hc] at g1; exact g1.elim
    | some cc =>
      rw [hc] at g1
      cases cc with
      | lst ds =>
        simp only at g1
        cases hy:ds[ds.length - 1]? with
        | none => rw [hy] at g1; exact g1.elim
        | some y =>
          rw [hy] at g1
          obtain ⟨q,us,rfl,hα,hH,hr,hF⟩:=lst_at R1 p1 hc
          obtain ⟨u,hu,ru⟩:=Reps.at hr hy
          refine ⟨.inl ⟨rfl,us,.inl (.inl hH)⟩,q,us,u,rfl,rfl,hH,by rw [← hr.length]; exact hu,?_⟩
          exact g1 u α1 F1 _ (R1.setCell hα hc (by simp) ⟨hF,_,upd_same,Reps.dropLast hr⟩) e1 ru
      | _ => exact g1.elim
  | _ => exact g1.elim
noncomputable def intsOf:List D → Option (List Int)
  | [] => some []
  | .int b :: r => (intsOf r).map (b :: ·)
  | _ => none
noncomputable def gSum:GL:=fun ds => match ds with
  | [.lst xs] => (intsOf xs).map fun bs => .int bs.sum
  | _ => none
theorem reps_is {K:PySem.W.Frag} {F:Hp} {α:List Addr}:∀ {ds:List D} {vs:List V} {bs:List Int},Reps K F α ds vs → intsOf ds = some bs → vs = bs.map V.int
  | [],vs,bs,h,e => by
    cases e
    unfold Reps at h
    exact h
  | d :: ds,vs,bs,h,e => by
    unfold Reps at h
    obtain ⟨v,vr,rfl,h1,h2⟩:=h
    cases d with
    | int b =>
      simp only [intsOf,Option.map_eq_some_iff] at e
      obtain ⟨br,e1,rfl⟩:=e
      unfold Rep at h1
      rw [h1,reps_is h2 e1]
      rfl
    | _ => cases e
theorem vals_is:∀ {bs:List Int} {us:List Value},Vals (bs.map V.int) us → ∃ xs:List (Int × Tok),us.toArray = intItems xs.toArray ∧ xs.map (·.1) = bs
  | [],us,h => by cases h; exact ⟨[],by simp [intItems],rfl⟩
  | b :: bs,us,h => by
    cases h with
    | cons r rr =>
      obtain ⟨t,r⟩:=r
      obtain ⟨xs,e1,e2⟩:=vals_is rr
      refine ⟨(b,t) :: xs,?_,by rw [List.map_cons,e2]⟩
      rw [r]
      unfold intItems at e1 ⊢
      rw [List.map_toArray] at e1 ⊢
      rw [List.map_cons]
      have e3:=congrArg Array.toList e1
      simp only [List.toList_toArray] at e3
      rw [e3]
theorem call_sumR (hc:X.calm = true):CallR X (.builtin "sum") (fun xs H Q => ∃ (p:Addr) (bs:List Int),xs = [.ref p] ∧ SqL X.K H p (bs.map V.int) ∧ Q (.int bs.sum) H):=by
  intro pins s σ H xs us Q I r h
  obtain ⟨p,bs,rfl,hq,q⟩:=h
  obtain ⟨u,rfl,rx⟩:=vals1 r
  cases rx
  obtain ⟨its,r',pl,hz⟩:=I.list hq
  obtain ⟨xs,e1,e2⟩:=vals_is r'
  have hl:=pl.isList
  rw [e1] at hl
  refine sum_intListG (I.ok.hd hc) hl fun h' tk t' hk => ?_
  have e3:preSum (numAt xs.toArray) xs.toArray.size = bs.sum:=by
    rw [preSum_eq,List.take_of_length_le (by simp),← e2]
  rw [e3]
  exact ⟨.int _,H,I.kept (t':=tk) hk,⟨_,rfl⟩,q⟩
theorem cm_sum (hc:X.calm = true):CallM X (.builtin "sum") gSum:=by
  refine ⟨_,call_sumR hc,fun Z α F H μ ds c vs Q R hp hg k => ?_⟩
  match ds,hg with
  | [.lst xs],hg =>
    obtain ⟨v,r,rfl,⟨q,us,rfl,hs,hr⟩,hq⟩:=hp
    have hq:r = []:=hq
    subst hq
    simp only [gSum,Option.map_eq_some_iff] at hg
    obtain ⟨bs,e,rfl⟩:=hg
    exact ⟨q,bs,rfl,by rw [← reps_is hr e]; exact hs,k _ F H R (Same.refl _) (rep_int _)⟩
end
end M
set_option Elab.async false
set_option linter.all false
set_option maxRecDepth 100000
set_option maxHeartbeats 4000000
namespace M
open PySem PySem.Spec PyProof.Rows L2
theorem fnAt_bad {P:Program} {w:World} {K:PySem.W.Frag} {mg:Str → Option Value} {base:Heap} {x:Str} {st:Stmt} {ps:List Str} {k n:Nat} (D:DefAt K mg x st ps) (hn:ps.length = n):FnAt P w K mg base x k n (fun _ _ => .bad):=by
  refine fnAt_of D hn fun f fd F => ⟨fun vs H Q E h => ?_,fun A outer s H args us vs Q E _ _ _ _ h => ?_⟩
  · obtain ⟨Z,α,F,ds,μ,R,r,hl,g⟩:=h
    rw [← r.length,hl,hn]
  · obtain ⟨Z,α,F,ds,μ,R,r,hl,g⟩:=h
    exact g.elim
theorem meets_ext {l b:Addr} {xs ys:Array Value} {n m:Nat} {sl:Array (Option Value)} (h0:xs.size + ys.size ≤ sizeLine) :
    Meets (Builtin.«list.extend» ⟨[.ref l,.ref b],[]⟩) (fun _ R s => s.heap.get? l = some { cls:=.type "list",dict:=none,data:=.seq xs n,slots:=#[] } ∧ s.heap.get? b = some { cls:=.type "list",dict:=none,data:=.seq ys m,slots:=sl } ∧
      R (.ok (.ret Value.none)) { s with heap:=s.heap.update l (Obj.mapSeq fun x => x ++ ys),toks:=s.toks }) :=
  .of_wp fun prog w A R s h => by
    have hn:¬ (!xs.isEmpty && Builtin.List.listTooLong (xs.size + ys.size)) = true:=by rw [notLongL h0,Bool.and_false]; exact Bool.false_ne_true
    obtain ⟨hp,g,d,tk,os⟩:=s
    obtain ⟨hl,hb,h⟩:=h
    have f1:=AutoSeq1.idx_int
    have f2:=AutoSeq1.sub_tuple_tuple
    have f3:=AutoSeq1.sub_list_list
    have f4:=AutoSeq1.sub_tuple_list
    have f5:=AutoSeq1.sub_list_tuple
    have h1:xs.size ≤ sizeLine:=by omega
    have h2:(xs ++ ys).size ≤ sizeLine + 1:=by rw [Array.size_append]; omega
    wp_walk using (wpAny_updateSeq hl rfl (hz:=h1) (_hz':=h2)),AutoSeq1.wpAny_loadPart' hl,AutoSeq1.wpAny_loadPart' hb
    exact ⟨_,rfl,h⟩
section
variable {X:Cx} {EX:EXT} {o a:Expr} {mo m:MX} {ms:MAs}
noncomputable def rExt (K:PySem.W.Frag):V → List V → Hp → VK → Prop:=fun x vs H Q => ∃ l b xs zs,x = .ref l ∧ vs = [.ref b] ∧ H l = some (.lst xs) ∧ SqL K H b zs ∧ xs.length + zs.length ≤ sizeLine ∧ Q .non (upd H l (.lst (xs ++ zs)))
theorem mt_ext:MtM X "list.extend" (rExt X.K):=by
  intro pins s σ H x vs v us Q I rx rv h
  obtain ⟨l,b,xs,zs,rfl,rfl,hH,hB,hz,q⟩:=h
  cases rx
  obtain ⟨u,rfl,ru⟩:=rv.one
  cases ru
  obtain ⟨z,its,n,r,hl,e⟩:=I.lstM hH
  obtain ⟨its2,r2,pl,hz2⟩:=I.list hB
  obtain ⟨ob,m,e2,c2,d2,dat⟩:=pl
  have hl2:=r2.length
  have e2':s.heap.get? b = some { cls:=.type "list",dict:=none,data:=.seq its2.toArray m,slots:=ob.slots }:=by
    rw [e2]
    cases ob
    simp only at c2 d2 dat
    subst c2 d2 dat
    rfl
  refine call_meets F.slot_list_extend ⟨_,e,rfl⟩ F.entry_list_extend (F.args_list_extend_2 _ _) (meets_ext (sl:=ob.slots) (n:=n) (m:=m) (xs:=its.toArray) (ys:=its2.toArray) (by rw [List.size_toArray,List.size_toArray]; omega)) ⟨e,e2',?_⟩
  refine ⟨.non,_,I.lset (its':=its ++ its2) hH e (by simp) (r.append r2) ?_,rfl,q⟩
  rw [List.length_append]
  omega
noncomputable def extC (d y:D) (μ:Mu):Res D:=match d with
  | .ref k => match μ[k]?,deref μ y with
    | some (.lst ds),.lst es => if ds.length + es.length ≤ 16777216 then .ok .non (μ.set k (.lst (ds ++ es))) else .bad
    | _,_ => .bad
  | _ => .bad
noncomputable def mExtend (mo m:MX):MX:=fun ρ μ => (mo ρ μ).bind fun d μ1 => if isLst (deref μ1 d) = true then (m ρ μ1).bind fun y μ2 => extC d y μ2 else .bad
theorem me_extend {apos cpos:Pos} (ho:ME X EX o mo) (ha:MA X EX [a] ms) (hm:∀ ρ μ,ms ρ μ = (m ρ μ).bind fun d μ1 => .ok [d] μ1)
    (hbase:attributeBase o "extend" X.env (eval o X.env) = eval o X.env:=by rfl)
    (hfew:((backTo cpos (starEach [a] X.env)).all (fun x => !x.1) && (backToKw cpos (keywordEach [] X.env)).all (fun x => x.1.isSome)
      && decide ([a].length + ([]:List Keyword).length + (if ([]:List Keyword).isEmpty then 0 else 1) < 30)) = true:=by rfl)
    (hline:(apos.endLine == cpos.line) = true:=by rfl) (hs:starEach [a] X.env = (false,eval a X.env) :: starEach [] X.env:=by rfl) (hplain:(backTo cpos (starEach [] X.env)).any (·.1) = false:=by rfl) :
    ME X EX (.Call (.Attribute o "extend" apos) [a] [] cpos) (mExtend mo m):=by
  obtain ⟨to,po,so⟩:=ho
  obtain ⟨ta,pa,sa,_⟩:=ha
  refine ⟨_,pe_bm PySem.F.plainAttrs_list PySem.F.slot_list_extend PySem.F.type_list_extend mt_ext po pa hbase hfew hline hs hplain,fun Z α F H σ ρ μ Q R g => ?_⟩
  refine so Z α F H σ ρ μ _ R (GE.step (G:=GE X.K EX Z α F Q) g (fun _ _ h => h) (fun h => h) fun d μ1 v α1 F1 H1 R1 e1 p1 g1 => ?_)
  by_cases hd:isLst (deref μ1 d) = true
  · rw [if_pos hd] at g1
    refine ⟨?_,?_⟩
    · have k1:=R1.pk p1
      cases hq:deref μ1 d with
      | lst xs =>
        rw [hq] at k1
        obtain ⟨q,us,rfl,hsq,hr⟩:=k1
        exact .inl ⟨rfl,us,hsq⟩
      | _ => rw [hq] at hd; cases hd
    · refine sa Z α1 F1 H1 σ ρ μ1 _ (R.to R1 e1) ?_
      rw [hm]
      cases hy:m ρ μ1 with
      | exc x μ2 => rw [hy] at g1; exact g1
      | bad => rw [hy] at g1; exact g1
      | ok y μ2 =>
        rw [hy] at g1
        intro vs α2 F2 H2 R2 e2 p2
        unfold Reps at p2
        obtain ⟨vy,r,rfl,p2,hr⟩:=p2
        have hr:r = []:=hr
        subst hr
        have p1':=p1.mono e2
        have k2:=R2.pk p2
        have g1:GE X.K EX Z α F Q (extC d y μ2):=g1
        unfold extC at g1
        cases d with
        | ref k =>
          simp only at g1
          cases hc:μ2[k]? with
          | none => rw [hc] at g1; exact g1.elim
          | some cc =>
            rw [hc] at g1
            cases cc with
            | lst ds =>
              cases hz:deref μ2 y with
              | lst es =>
                rw [hz] at g1 k2
                simp only at g1
                split at g1
                · rename_i hl
                  obtain ⟨q,us,rfl,hα,hH,hr,hF⟩:=lst_at R2 p1' hc
                  obtain ⟨q2,us2,rfl,hs2,hr2⟩:=k2
                  refine ⟨q,q2,us,us2,rfl,rfl,hH,hs2,by rw [← hr.length,← hr2.length,sizeLine_eq]; exact hl,?_⟩
                  exact g1 .non α2 F2 _ (R2.setCell hα hc (by simp) ⟨hF,_,upd_same,hr.append hr2⟩) (e1.trans e2) rep_non
                · exact g1.elim
              | _ => rw [hz] at g1; exact g1.elim
            | _ => exact g1.elim
        | _ => exact g1.elim
  · rw [if_neg hd] at g1; exact g1.elim
end
end M
set_option Elab.async false
set_option linter.all false
set_option maxRecDepth 100000
set_option maxHeartbeats 4000000
namespace K13
open PySem PySem.Spec PyProof.Rows L2 M
noncomputable def top (i:Nat):Stmt:=PySem.Challenge.pw_netsieve_k13_packets_taken.main.body.getD i (.Pass ⟨0,0,0,0⟩)
noncomputable abbrev s_cell:Stmt:=top 18
noncomputable abbrev s_mix:Stmt:=top 19
noncomputable abbrev s_op:Stmt:=top 23
noncomputable abbrev s_number:Stmt:=top 29
noncomputable abbrev s_truth:Stmt:=top 30
noncomputable abbrev s_packet:Stmt:=top 26
noncomputable abbrev s_p_parts_ahead:Stmt:=top 13
noncomputable abbrev s_p_ask:Stmt:=top 12
noncomputable abbrev s_p_loaded:Stmt:=top 9
noncomputable abbrev s_p_answer_joined:Stmt:=top 15
noncomputable abbrev s_p_shifted:Stmt:=top 7
noncomputable abbrev s_p_plainly_reckoned:Stmt:=top 6
noncomputable abbrev s_p_reckoned:Stmt:=top 5
noncomputable abbrev s_p_compared:Stmt:=top 16
noncomputable abbrev s_p_answer:Stmt:=top 14
noncomputable abbrev s_p_takes:Stmt:=top 11
noncomputable abbrev s_bytes:Stmt:=top 28
noncomputable abbrev s_reckoned:Stmt:=top 27
noncomputable abbrev s_worth:Stmt:=top 34
noncomputable abbrev s_says:Stmt:=top 35
noncomputable abbrev s_law:Stmt:=top 36
noncomputable def w_not:List Nat:=[110,111,116]
theorem w_not_eq:(Str.ofString "not") = ⟨w_not.toArray⟩:=by decide +kernel
noncomputable def w_both:List Nat:=[98,111,116,104]
theorem w_both_eq:(Str.ofString "both") = ⟨w_both.toArray⟩:=by decide +kernel
noncomputable def w_either:List Nat:=[101,105,116,104,101,114]
theorem w_either_eq:(Str.ofString "either") = ⟨w_either.toArray⟩:=by decide +kernel
noncomputable def w_truth:List Nat:=[116,114,117,116,104]
theorem w_truth_eq:(Str.ofString "truth") = ⟨w_truth.toArray⟩:=by decide +kernel
noncomputable def w_same:List Nat:=[115,97,109,101]
theorem w_same_eq:(Str.ofString "same") = ⟨w_same.toArray⟩:=by decide +kernel
noncomputable def w_unlike:List Nat:=[117,110,108,105,107,101]
theorem w_unlike_eq:(Str.ofString "unlike") = ⟨w_unlike.toArray⟩:=by decide +kernel
noncomputable def w_below:List Nat:=[98,101,108,111,119]
theorem w_below_eq:(Str.ofString "below") = ⟨w_below.toArray⟩:=by decide +kernel
noncomputable def w_above:List Nat:=[97,98,111,118,101]
theorem w_above_eq:(Str.ofString "above") = ⟨w_above.toArray⟩:=by decide +kernel
noncomputable def w_most:List Nat:=[109,111,115,116]
theorem w_most_eq:(Str.ofString "most") = ⟨w_most.toArray⟩:=by decide +kernel
noncomputable def w_least:List Nat:=[108,101,97,115,116]
theorem w_least_eq:(Str.ofString "least") = ⟨w_least.toArray⟩:=by decide +kernel
noncomputable def w_len:List Nat:=[108,101,110]
theorem w_len_eq:(Str.ofString "len") = ⟨w_len.toArray⟩:=by decide +kernel
noncomputable def w_number:List Nat:=[110,117,109,98,101,114]
theorem w_number_eq:(Str.ofString "number") = ⟨w_number.toArray⟩:=by decide +kernel
noncomputable def w_load:List Nat:=[108,111,97,100]
theorem w_load_eq:(Str.ofString "load") = ⟨w_load.toArray⟩:=by decide +kernel
noncomputable def w_plus:List Nat:=[112,108,117,115]
theorem w_plus_eq:(Str.ofString "plus") = ⟨w_plus.toArray⟩:=by decide +kernel
noncomputable def w_minus:List Nat:=[109,105,110,117,115]
theorem w_minus_eq:(Str.ofString "minus") = ⟨w_minus.toArray⟩:=by decide +kernel
noncomputable def w_times:List Nat:=[116,105,109,101,115]
theorem w_times_eq:(Str.ofString "times") = ⟨w_times.toArray⟩:=by decide +kernel
noncomputable def w_over:List Nat:=[111,118,101,114]
theorem w_over_eq:(Str.ofString "over") = ⟨w_over.toArray⟩:=by decide +kernel
noncomputable def w_rest:List Nat:=[114,101,115,116]
theorem w_rest_eq:(Str.ofString "rest") = ⟨w_rest.toArray⟩:=by decide +kernel
noncomputable def w_and:List Nat:=[97,110,100]
theorem w_and_eq:(Str.ofString "and") = ⟨w_and.toArray⟩:=by decide +kernel
noncomputable def w_or:List Nat:=[111,114]
theorem w_or_eq:(Str.ofString "or") = ⟨w_or.toArray⟩:=by decide +kernel
noncomputable def w_xor:List Nat:=[120,111,114]
theorem w_xor_eq:(Str.ofString "xor") = ⟨w_xor.toArray⟩:=by decide +kernel
noncomputable def w_left:List Nat:=[108,101,102,116]
theorem w_left_eq:(Str.ofString "left") = ⟨w_left.toArray⟩:=by decide +kernel
noncomputable def w_right:List Nat:=[114,105,103,104,116]
theorem w_right_eq:(Str.ofString "right") = ⟨w_right.toArray⟩:=by decide +kernel
noncomputable def w_ask:List Nat:=[97,115,107]
theorem w_ask_eq:(Str.ofString "ask") = ⟨w_ask.toArray⟩:=by decide +kernel
noncomputable def w_answer:List Nat:=[97,110,115,119,101,114]
theorem w_answer_eq:(Str.ofString "answer") = ⟨w_answer.toArray⟩:=by decide +kernel
noncomputable def c_OPS:D:=(.tup [(.str w_plus),(.str w_minus),(.str w_times),(.str w_over),(.str w_rest),(.str w_and),(.str w_or),(.str w_xor),(.str w_left),(.str w_right)])
noncomputable def c_DIVIDING:D:=(.tup [(.str w_over),(.str w_rest)])
noncomputable def c_WIDTH:D:=(.int 32)
noncomputable def c_ROUND:D:=(.int 4294967296)
noncomputable def b_cell:MSt:=(mSeq (mIte (mTru (mVar 0))
    (mRet (mBin gIdx (mVar 0) (mBin gMod (mVar 1) (mCallB gLen (mCons (mVar 0) mNil)))))
    mSkip)
    (mRet (mC (.int 0))))
noncomputable def f_cell:Fn:=fnOf 0 b_cell
noncomputable def b_mix:MSt:=(mSeq (mSet 2 (mBin gMod (mBin gAdd (mCall f_cell (mCons (mVar 0) (mCons (mVar 1) mNil))) (mBin gMul (mC (.int 104729)) (mBin gAdd (mVar 1) (mC (.int 1))))) (mC (.int 4294967291))))
    (mSeq (mSet 2 (mBin gMod (mBin gMul (mVar 2) (mC (.int 48271))) (mC (.int 4294967279))))
    (mRet (mBin gMod (mBin gAdd (mBin gMul (mBin gDiv (mVar 2) (mC (.int 64))) (mC (.int 69621))) (mVar 2)) (mC (.int 4294967231))))))
noncomputable def f_mix:Fn:=fnOf 1 b_mix
noncomputable def b_op:MSt:=(mRet (mBin gIdx (mLst (mCons (mC (.str w_plus)) (mCons (mC (.str w_minus)) (mCons (mC (.str w_times)) (mCons (mC (.str w_over)) (mCons (mC (.str w_rest)) (mCons (mC (.str w_and)) (mCons (mC (.str w_or)) (mCons (mC (.str w_xor)) (mCons (mC (.str w_left)) (mCons (mC (.str w_right)) mNil))))))))))) (mBin gMod (mVar 0) (mC (.int 10)))))
noncomputable def f_op:Fn:=fnOf 0 b_op
noncomputable def b_number (R:Nat → Fn):MSt:=(mSeq (mSet 3 (mCall f_mix (mCons (mVar 0) (mCons (mVar 1) mNil))))
    (mSeq (mIte (mOr (mTest (mBin gEq (mVar 2) (mC (.int 0)))) (mTest (mBin gLt (mBin gMod (mVar 3) (mC (.int 5))) (mC (.int 2)))))
    (mSeq (mSet 4 (mBin gIdx (mLst (mCons (mC (.int 0)) (mCons (mC (.int 1)) (mCons (mC (.int 2)) (mCons (mC (.int 7)) (mCons (mC (.int 12)) (mCons (mC (.int 20)) (mCons (mC (.int 33)) (mCons (mC (.int 255)) (mCons (mC (.int 4294967295)) (mCons (mBin gMod (mVar 3) (mC (.int 4294967296))) mNil))))))))))) (mBin gMod (mBin gDiv (mVar 3) (mC (.int 5))) (mC (.int 10)))))
    (mRet (mBin gIdx (mLst (mCons (mTup (mCons (mC (.str w_len)) mNil)) (mCons (mTup (mCons (mC (.str w_number)) (mCons (mVar 4) mNil))) (mCons (mTup (mCons (mC (.str w_number)) (mCons (mVar 4) mNil))) mNil)))) (mBin gMod (mBin gDiv (mVar 3) (mC (.int 50))) (mC (.int 3))))))
    mSkip)
    (mSeq (mIte (mTest (mBin gEq (mBin gMod (mVar 3) (mC (.int 5))) (mC (.int 2))))
    (mRet (mTup (mCons (mC (.str w_load)) (mCons (mBin gIdx (mLst (mCons (mC (.int 1)) (mCons (mC (.int 2)) (mCons (mC (.int 4)) mNil)))) (mBin gMod (mBin gDiv (mVar 3) (mC (.int 5))) (mC (.int 3)))) (mCons (mCall (R 0) (mCons (mVar 0) (mCons (mBin gAdd (mBin gMul (mC (.int 3)) (mVar 1)) (mC (.int 1))) (mCons (mBin gSub (mVar 2) (mC (.int 1))) mNil)))) mNil)))))
    mSkip)
    (mSeq (mSet 5 (mCall (R 0) (mCons (mVar 0) (mCons (mBin gAdd (mBin gMul (mC (.int 3)) (mVar 1)) (mC (.int 1))) (mCons (mBin gSub (mVar 2) (mC (.int 1))) mNil)))))
    (mRet (mTup (mCons (mCall f_op (mCons (mBin gDiv (mVar 3) (mC (.int 5))) mNil)) (mCons (mVar 5) (mCons (mCall (R 0) (mCons (mVar 0) (mCons (mBin gAdd (mBin gMul (mC (.int 3)) (mVar 1)) (mC (.int 2))) (mCons (mBin gSub (mVar 2) (mC (.int 1))) mNil)))) mNil)))))))))
noncomputable def rc_number:Nat → Nat → Fn
  | 0 => fun _ _ _ => .bad
  | k + 1 => fun i => match i with
    | _ => fnOf 3 (b_number (rc_number k))
noncomputable def f_number:Fn:=rc_number 8 0
noncomputable def b_truth (R:Nat → Fn):MSt:=(mSeq (mSet 3 (mCall f_mix (mCons (mVar 0) (mCons (mVar 1) mNil))))
    (mSeq (mIte (mAnd (mTest (mBin gGt (mVar 2) (mC (.int 0)))) (mTest (mBin gLt (mBin gMod (mVar 3) (mC (.int 5))) (mC (.int 3)))))
    (mSeq (mSet 4 (mCall (R 0) (mCons (mVar 0) (mCons (mBin gAdd (mBin gMul (mC (.int 2)) (mVar 1)) (mC (.int 1))) (mCons (mBin gSub (mVar 2) (mC (.int 1))) mNil)))))
    (mSeq (mIte (mTest (mBin gEq (mBin gMod (mVar 3) (mC (.int 5))) (mC (.int 0))))
    (mRet (mTup (mCons (mC (.str w_not)) (mCons (mVar 4) mNil))))
    mSkip)
    (mRet (mTup (mCons (mBin gIdx (mLst (mCons (mC (.str w_both)) (mCons (mC (.str w_either)) mNil))) (mBin gSub (mBin gMod (mVar 3) (mC (.int 5))) (mC (.int 1)))) (mCons (mVar 4) (mCons (mCall (R 0) (mCons (mVar 0) (mCons (mBin gAdd (mBin gMul (mC (.int 2)) (mVar 1)) (mC (.int 2))) (mCons (mBin gSub (mVar 2) (mC (.int 1))) mNil)))) mNil)))))))
    mSkip)
    (mSeq (mIte (mTest (mBin gEq (mBin gMod (mBin gDiv (mVar 3) (mC (.int 5))) (mC (.int 7))) (mC (.int 0))))
    (mRet (mTup (mCons (mC (.str w_truth)) (mCons (mBin gEq (mBin gMod (mBin gDiv (mVar 3) (mC (.int 35))) (mC (.int 2))) (mC (.int 0))) mNil))))
    mSkip)
    (mSeq (mSet 5 (mBin gIdx (mLst (mCons (mC (.str w_same)) (mCons (mC (.str w_unlike)) (mCons (mC (.str w_below)) (mCons (mC (.str w_above)) (mCons (mC (.str w_most)) (mCons (mC (.str w_least)) mNil))))))) (mBin gMod (mBin gDiv (mVar 3) (mC (.int 35))) (mC (.int 6)))))
    (mRet (mTup (mCons (mVar 5) (mCons (mCall f_number (mCons (mVar 0) (mCons (mBin gAdd (mBin gMul (mC (.int 5)) (mVar 1)) (mC (.int 3))) (mCons (mC (.int 2)) mNil)))) (mCons (mCall f_number (mCons (mVar 0) (mCons (mBin gAdd (mBin gMul (mC (.int 5)) (mVar 1)) (mC (.int 4))) (mCons (mC (.int 1)) mNil)))) mNil)))))))))
noncomputable def rc_truth:Nat → Nat → Fn
  | 0 => fun _ _ _ => .bad
  | k + 1 => fun i => match i with
    | _ => fnOf 3 (b_truth (rc_truth k))
noncomputable def f_truth:Fn:=rc_truth 8 0
noncomputable def b_packet:MSt:=(mSeq (mSet 2 (mBin gIdx (mLst (mCons (mC (.int 0)) (mCons (mC (.int 1)) (mCons (mC (.int 3)) (mCons (mC (.int 20)) (mCons (mC (.int 34)) (mCons (mC (.int 60)) mNil))))))) (mBin gMod (mCall f_mix (mCons (mVar 0) (mCons (mVar 1) mNil))) (mC (.int 6)))))
    (mRet (mComp 1 [0,1] (gN 0) (mRange1 (mVar 2)) mTT (mBin gMod (mBin gDiv (mCall f_mix (mCons (mVar 1) (mCons (mBin gAdd (mBin gAdd (mVar 2) (mC (.int 1))) (mBin gMod (mVar 0) (mC (.int 40)))) mNil))) (mBin gAdd (mC (.int 1)) (mVar 0))) (mC (.int 256))))))
noncomputable def f_packet:Fn:=fnOf 1 b_packet
noncomputable def b_p_parts_ahead:MSt:=(mSeq (mIte (mTest (mBin gEq (mBin gIdx (mVar 0) (mC (.int 0))) (mC (.str w_load))))
    (mRet (mLst (mCons (mBin gIdx (mVar 0) (mC (.int 2))) mNil)))
    mSkip)
    (mSeq (mIte (mTest (mBin gIn (mBin gIdx (mVar 0) (mC (.int 0))) (mTup (mCons (mC (.str w_not)) (mCons (mC (.str w_both)) (mCons (mC (.str w_either)) mNil))))))
    (mRet (mLst (mCons (mBin gIdx (mVar 0) (mC (.int 1))) mNil)))
    mSkip)
    (mRet (mLst (mCons (mBin gIdx (mVar 0) (mC (.int 2))) (mCons (mBin gIdx (mVar 0) (mC (.int 1))) mNil))))))
noncomputable def f_p_parts_ahead:Fn:=fnOf 0 b_p_parts_ahead
noncomputable def b_p_ask:MSt:=(mIte (mTest (mBin gIn (mBin gIdx (mVar 0) (mC (.int 0))) (mTup (mCons (mC (.str w_number)) (mCons (mC (.str w_truth)) mNil)))))
    (mDrop (mAppend (mVar 3) (mBin gIdx (mVar 0) (mC (.int 1)))))
    (mIte (mTest (mBin gEq (mBin gIdx (mVar 0) (mC (.int 0))) (mC (.str w_len))))
    (mDrop (mAppend (mVar 3) (mCallB gLen (mCons (mVar 1) mNil))))
    (mSeq (mDrop (mAppend (mVar 2) (mTup (mCons (mC (.str w_answer)) (mCons (mVar 0) mNil)))))
    (mDrop (mExtend (mVar 2) (mComp 1 [] (gN 0) (mOverL (mCall f_p_parts_ahead (mCons (mVar 0) mNil))) mTT (mTup (mCons (mC (.str w_ask)) (mCons (mVar 0) mNil)))))))))
noncomputable def f_p_ask:Fn:=fnOf 0 b_p_ask
noncomputable def l_p_loaded_1:MSt:=(mSet 3 (mBin gAdd (mBin gMul (mVar 3) (mC (.int 256))) (mVar 4)))
noncomputable def b_p_loaded:MSt:=(mSeq (mIte (mOr (mTest (mBin gLt (mVar 2) (mC (.int 0)))) (mTest (mBin gGt (mBin gAdd (mVar 2) (mVar 1)) (mCallB gLen (mCons (mVar 0) mNil)))))
    (mRet (mC .non))
    mSkip)
    (mSeq (mSet 3 (mC (.int 0)))
    (mSeq (mFor (gN 4) (mOverL (mSl (mVar 0) (mPart (mVar 2)) (mPart (mBin gAdd (mVar 2) (mVar 1))))) l_p_loaded_1)
    (mRet (mVar 3)))))
noncomputable def f_p_loaded:Fn:=fnOf 2 b_p_loaded
noncomputable def b_p_answer_joined:MSt:=(mIte (mTest (mBin gEq (mVar 1) (mBin gEq (mBin gIdx (mVar 0) (mC (.int 0))) (mC (.str w_either)))))
    (mDrop (mAppend (mVar 3) (mVar 1)))
    (mDrop (mAppend (mVar 2) (mTup (mCons (mC (.str w_ask)) (mCons (mBin gIdx (mVar 0) (mC (.int 2))) mNil))))))
noncomputable def f_p_answer_joined:Fn:=fnOf 0 b_p_answer_joined
noncomputable def b_p_shifted:MSt:=(mSeq (mIte (mTest (mBin gGe (mVar 2) (mC c_WIDTH)))
    (mRet (mC (.int 0)))
    mSkip)
    (mSeq (mSet 3 (mCallB gMax (mCons (mVar 2) (mCons (mC (.int 0)) mNil))))
    (mRet (mIf (mTest (mBin gEq (mVar 0) (mC (.str w_left)))) (mBin gShl (mVar 1) (mVar 3)) (mBin gShr (mVar 1) (mVar 3))))))
noncomputable def f_p_shifted:Fn:=fnOf 1 b_p_shifted
noncomputable def b_p_plainly_reckoned:MSt:=(mSeq (mIte (mTest (mBin gEq (mVar 0) (mC (.str w_plus))))
    (mRet (mBin gAdd (mVar 1) (mVar 2)))
    mSkip)
    (mSeq (mIte (mTest (mBin gEq (mVar 0) (mC (.str w_minus))))
    (mRet (mBin gSub (mVar 1) (mVar 2)))
    mSkip)
    (mSeq (mIte (mTest (mBin gEq (mVar 0) (mC (.str w_times))))
    (mRet (mBin gMul (mVar 1) (mVar 2)))
    mSkip)
    (mSeq (mIte (mTest (mBin gEq (mVar 0) (mC (.str w_over))))
    (mRet (mBin gDiv (mVar 1) (mVar 2)))
    mSkip)
    (mSeq (mIte (mTest (mBin gEq (mVar 0) (mC (.str w_rest))))
    (mRet (mBin gMod (mVar 1) (mVar 2)))
    mSkip)
    (mSeq (mIte (mTest (mBin gEq (mVar 0) (mC (.str w_and))))
    (mRet (mBin gAnd (mVar 1) (mVar 2)))
    mSkip)
    (mSeq (mIte (mTest (mBin gEq (mVar 0) (mC (.str w_or))))
    (mRet (mBin gOrB (mVar 1) (mVar 2)))
    mSkip)
    (mSeq (mIte (mTest (mBin gEq (mVar 0) (mC (.str w_xor))))
    (mRet (mBin gXor (mVar 1) (mVar 2)))
    mSkip)
    (mRet (mCall f_p_shifted (mCons (mVar 0) (mCons (mVar 1) (mCons (mVar 2) mNil)))))))))))))
noncomputable def f_p_plainly_reckoned:Fn:=fnOf 0 b_p_plainly_reckoned
noncomputable def b_p_reckoned:MSt:=(mSeq (mIte (mAnd (mTest (mBin gIn (mVar 0) (mC c_DIVIDING))) (mTest (mBin gEq (mVar 2) (mC (.int 0)))))
    (mRet (mC .non))
    mSkip)
    (mRet (mBin gMod (mCall f_p_plainly_reckoned (mCons (mVar 0) (mCons (mVar 1) (mCons (mVar 2) mNil)))) (mC c_ROUND))))
noncomputable def f_p_reckoned:Fn:=fnOf 0 b_p_reckoned
noncomputable def b_p_compared:MSt:=(mSeq (mIte (mTest (mBin gEq (mVar 0) (mC (.str w_same))))
    (mRet (mBin gEq (mVar 1) (mVar 2)))
    mSkip)
    (mSeq (mIte (mTest (mBin gEq (mVar 0) (mC (.str w_unlike))))
    (mRet (mBin gNe (mVar 1) (mVar 2)))
    mSkip)
    (mSeq (mIte (mTest (mBin gEq (mVar 0) (mC (.str w_below))))
    (mRet (mBin gLt (mVar 1) (mVar 2)))
    mSkip)
    (mSeq (mIte (mTest (mBin gEq (mVar 0) (mC (.str w_above))))
    (mRet (mBin gGt (mVar 1) (mVar 2)))
    mSkip)
    (mSeq (mIte (mTest (mBin gEq (mVar 0) (mC (.str w_most))))
    (mRet (mBin gLe (mVar 1) (mVar 2)))
    mSkip)
    (mRet (mBin gGe (mVar 1) (mVar 2))))))))
noncomputable def f_p_compared:Fn:=fnOf 0 b_p_compared
noncomputable def b_p_answer:MSt:=(mSeq (mSet 4 (mPop (mVar 3)))
    (mIte (mTest (mBin gEq (mBin gIdx (mVar 0) (mC (.int 0))) (mC (.str w_load))))
    (mDrop (mAppend (mVar 3) (mCall f_p_loaded (mCons (mVar 1) (mCons (mBin gIdx (mVar 0) (mC (.int 1))) (mCons (mVar 4) mNil))))))
    (mIte (mTest (mBin gEq (mBin gIdx (mVar 0) (mC (.int 0))) (mC (.str w_not))))
    (mDrop (mAppend (mVar 3) (mNotV (mVar 4))))
    (mIte (mTest (mBin gIn (mBin gIdx (mVar 0) (mC (.int 0))) (mTup (mCons (mC (.str w_both)) (mCons (mC (.str w_either)) mNil)))))
    (mDrop (mCall f_p_answer_joined (mCons (mVar 0) (mCons (mVar 4) (mCons (mVar 2) (mCons (mVar 3) mNil))))))
    (mIte (mTest (mBin gIn (mBin gIdx (mVar 0) (mC (.int 0))) (mC c_OPS)))
    (mDrop (mAppend (mVar 3) (mCall f_p_reckoned (mCons (mBin gIdx (mVar 0) (mC (.int 0))) (mCons (mPop (mVar 3)) (mCons (mVar 4) mNil))))))
    (mDrop (mAppend (mVar 3) (mCall f_p_compared (mCons (mBin gIdx (mVar 0) (mC (.int 0))) (mCons (mPop (mVar 3)) (mCons (mVar 4) mNil)))))))))))
noncomputable def f_p_answer:Fn:=fnOf 1 b_p_answer
noncomputable def l_p_takes_1:MSt:=(mSeq (mSet 4 (mPop (mVar 2)))
    (mSeq (mIte (mTest (mBin gEq (mBin gIdx (mVar 4) (mC (.int 0))) (mC (.str w_ask))))
    (mDrop (mCall f_p_ask (mCons (mBin gIdx (mVar 4) (mC (.int 1))) (mCons (mVar 1) (mCons (mVar 2) (mCons (mVar 3) mNil))))))
    (mDrop (mCall f_p_answer (mCons (mBin gIdx (mVar 4) (mC (.int 1))) (mCons (mVar 1) (mCons (mVar 2) (mCons (mVar 3) mNil)))))))
    (mIte (mAnd (mTest (mBin gGt (mCallB gLen (mCons (mVar 3) mNil)) (mC (.int 0)))) (mTest (mIsN (mBin gIdx (mVar 3) (mNeg (mC (.int 1)))))))
    (mRet (mC (.bl false)))
    mSkip)))
noncomputable def b_p_takes:MSt:=(mSeq (mSet 2 (mLstC (mCons (mTup (mCons (mC (.str w_ask)) (mCons (mVar 0) mNil))) mNil)))
    (mSeq (mSet 3 (mLstC mNil))
    (mSeq (mWhile 1000 (mTest (mBin gGt (mCallB gLen (mCons (mVar 2) mNil)) (mC (.int 0)))) l_p_takes_1)
    (mRet (mBin gIdx (mVar 3) (mNeg (mC (.int 1))))))))
noncomputable def f_p_takes:Fn:=fnOf 3 b_p_takes
noncomputable def b_bytes:MSt:=(mSeq (mIte (mTest (mBin gGt (mBin gAdd (mVar 1) (mVar 2)) (mCallB gLen (mCons (mVar 0) mNil))))
    (mRet (mC .non))
    mSkip)
    (mRet (mCallB gSum (mCons (mComp 1 [0,1,2] (gN 0) (mRange1 (mVar 2)) mTT (mBin gMul (mBin gIdx (mVar 1) (mBin gAdd (mVar 2) (mVar 0))) (mBin gIdx (mLst (mCons (mC (.int 1)) (mCons (mC (.int 256)) (mCons (mC (.int 65536)) (mCons (mC (.int 16777216)) mNil))))) (mBin gSub (mBin gSub (mVar 3) (mC (.int 1))) (mVar 0))))) mNil))))
noncomputable def f_bytes:Fn:=fnOf 0 b_bytes
noncomputable def l_reckoned_1:MSt:=(mSet 1 (mIf (mTest (mBin gEq (mVar 0) (mC (.str w_left)))) (mBin gMul (mVar 1) (mC (.int 2))) (mBin gDiv (mVar 1) (mC (.int 2)))))
noncomputable def l_reckoned_2:MSt:=(mSeq (mSet 6 (mTup (mCons (mBin gMod (mBin gDiv (mVar 1) (mVar 5)) (mC (.int 2))) (mCons (mBin gMod (mBin gDiv (mVar 2) (mVar 5)) (mC (.int 2))) mNil))))
    (mSeq (mSet 4 (mBin gAdd (mVar 4) (mBin gMul (mVar 5) (mCallB gIntC (mCons (mBin gDGet (mDic [.inr w_and,.inr w_or,.inr w_xor] (mCons (mBin gEq (mVar 6) (mTup (mCons (mC (.int 1)) (mCons (mC (.int 1)) mNil)))) (mCons (mBin gNe (mVar 6) (mTup (mCons (mC (.int 0)) (mCons (mC (.int 0)) mNil)))) (mCons (mBin gNe (mBin gIdx (mVar 6) (mC (.int 0))) (mBin gIdx (mVar 6) (mC (.int 1)))) mNil)))) (mVar 0)) mNil)))))
    (mSet 5 (mBin gMul (mVar 5) (mC (.int 2))))))
noncomputable def b_reckoned:MSt:=(mSeq (mIte (mTest (mBin gIn (mVar 0) (mTup (mCons (mC (.str w_over)) (mCons (mC (.str w_rest)) mNil)))))
    (mSeq (mIte (mTest (mBin gEq (mVar 2) (mC (.int 0))))
    (mRet (mC .non))
    mSkip)
    (mRet (mIf (mTest (mBin gEq (mVar 0) (mC (.str w_over)))) (mBin gDiv (mVar 1) (mVar 2)) (mBin gSub (mVar 1) (mBin gMul (mBin gDiv (mVar 1) (mVar 2)) (mVar 2))))))
    mSkip)
    (mSeq (mIte (mTest (mBin gIn (mVar 0) (mTup (mCons (mC (.str w_left)) (mCons (mC (.str w_right)) mNil)))))
    (mSeq (mFor (gN 3) (mRange1 (mCallB gMin (mCons (mVar 2) (mCons (mC (.int 33)) mNil)))) l_reckoned_1)
    (mRet (mBin gMod (mVar 1) (mC (.int 4294967296)))))
    mSkip)
    (mSeq (mIte (mTest (mBin gIn (mVar 0) (mTup (mCons (mC (.str w_and)) (mCons (mC (.str w_or)) (mCons (mC (.str w_xor)) mNil))))))
    (mSeq (mSet 4 (mC (.int 0)))
    (mSeq (mSet 5 (mC (.int 1)))
    (mSeq (mFor (gN 3) (mRange1 (mC (.int 32))) l_reckoned_2)
    (mRet (mVar 4)))))
    mSkip)
    (mRet (mBin gMod (mBin gDGet (mDic [.inr w_plus,.inr w_minus,.inr w_times] (mCons (mBin gAdd (mVar 1) (mVar 2)) (mCons (mBin gSub (mVar 1) (mVar 2)) (mCons (mBin gMul (mVar 1) (mVar 2)) mNil)))) (mVar 0)) (mC (.int 4294967296)))))))
noncomputable def f_reckoned:Fn:=fnOf 4 b_reckoned
noncomputable def b_worth (R:Nat → Fn):MSt:=(mSeq (mIte (mTest (mBin gEq (mBin gIdx (mVar 0) (mC (.int 0))) (mC (.str w_number))))
    (mRet (mBin gIdx (mVar 0) (mC (.int 1))))
    mSkip)
    (mSeq (mIte (mTest (mBin gEq (mBin gIdx (mVar 0) (mC (.int 0))) (mC (.str w_len))))
    (mRet (mCallB gLen (mCons (mVar 1) mNil)))
    mSkip)
    (mSeq (mIte (mTest (mBin gEq (mBin gIdx (mVar 0) (mC (.int 0))) (mC (.str w_load))))
    (mSeq (mSet 2 (mCall (R 0) (mCons (mBin gIdx (mVar 0) (mC (.int 2))) (mCons (mVar 1) mNil))))
    (mRet (mIf (mTest (mIsN (mVar 2))) (mC .non) (mCall f_bytes (mCons (mVar 1) (mCons (mVar 2) (mCons (mBin gIdx (mVar 0) (mC (.int 1))) mNil)))))))
    mSkip)
    (mSeq (mSet 3 (mCall (R 0) (mCons (mBin gIdx (mVar 0) (mC (.int 1))) (mCons (mVar 1) mNil))))
    (mSeq (mSet 4 (mIf (mTest (mIsN (mVar 3))) (mC .non) (mCall (R 0) (mCons (mBin gIdx (mVar 0) (mC (.int 2))) (mCons (mVar 1) mNil)))))
    (mRet (mIf (mTest (mIsN (mVar 4))) (mC .non) (mCall f_reckoned (mCons (mBin gIdx (mVar 0) (mC (.int 0))) (mCons (mVar 3) (mCons (mVar 4) mNil)))))))))))
noncomputable def rc_worth:Nat → Nat → Fn
  | 0 => fun _ _ _ => .bad
  | k + 1 => fun i => match i with
    | _ => fnOf 3 (b_worth (rc_worth k))
noncomputable def f_worth:Fn:=rc_worth 12 0
noncomputable def b_says (R:Nat → Fn):MSt:=(mSeq (mIte (mTest (mBin gEq (mBin gIdx (mVar 0) (mC (.int 0))) (mC (.str w_truth))))
    (mRet (mCallB gIntC (mCons (mBin gIdx (mVar 0) (mC (.int 1))) mNil)))
    mSkip)
    (mSeq (mIte (mTest (mBin gIn (mBin gIdx (mVar 0) (mC (.int 0))) (mTup (mCons (mC (.str w_not)) (mCons (mC (.str w_both)) (mCons (mC (.str w_either)) mNil))))))
    (mSeq (mSet 2 (mCall (R 0) (mCons (mBin gIdx (mVar 0) (mC (.int 1))) (mCons (mVar 1) mNil))))
    (mSeq (mIte (mOr (mTest (mBin gLt (mVar 2) (mC (.int 0)))) (mTest (mBin gEq (mBin gIdx (mVar 0) (mC (.int 0))) (mC (.str w_not)))))
    (mRet (mIf (mTest (mBin gLt (mVar 2) (mC (.int 0)))) (mVar 2) (mBin gSub (mC (.int 1)) (mVar 2))))
    mSkip)
    (mRet (mIf (mTest (mBin gEq (mVar 2) (mCallB gIntC (mCons (mBin gEq (mBin gIdx (mVar 0) (mC (.int 0))) (mC (.str w_either))) mNil)))) (mVar 2) (mCall (R 0) (mCons (mBin gIdx (mVar 0) (mC (.int 2))) (mCons (mVar 1) mNil)))))))
    mSkip)
    (mSeq (mSet 2 (mCall f_worth (mCons (mBin gIdx (mVar 0) (mC (.int 1))) (mCons (mVar 1) mNil))))
    (mSeq (mSet 3 (mIf (mTest (mIsN (mVar 2))) (mC .non) (mCall f_worth (mCons (mBin gIdx (mVar 0) (mC (.int 2))) (mCons (mVar 1) mNil)))))
    (mSeq (mIte (mTest (mIsN (mVar 3)))
    (mRet (mNeg (mC (.int 1))))
    mSkip)
    (mSeq (mSet 4 (mDicC [.inr w_same,.inr w_unlike,.inr w_below,.inr w_above] (mCons (mBin gEq (mVar 2) (mVar 3)) (mCons (mBin gNe (mVar 2) (mVar 3)) (mCons (mBin gLt (mVar 2) (mVar 3)) (mCons (mBin gGt (mVar 2) (mVar 3)) mNil))))))
    (mSeq (mPut (mVar 4) (mC (.str w_most)) (mBin gLe (mVar 2) (mVar 3)))
    (mSeq (mPut (mVar 4) (mC (.str w_least)) (mBin gGe (mVar 2) (mVar 3)))
    (mRet (mCallB gIntC (mCons (mBin gDGet (mVar 4) (mBin gIdx (mVar 0) (mC (.int 0)))) mNil)))))))))))
noncomputable def rc_says:Nat → Nat → Fn
  | 0 => fun _ _ _ => .bad
  | k + 1 => fun i => match i with
    | _ => fnOf 3 (b_says (rc_says k))
noncomputable def f_says:Fn:=rc_says 12 0
noncomputable def l_law_1:MSt:=(mSeq (mSet 3 (mCall f_packet (mCons (mVar 0) (mCons (mBin gAdd (mC (.int 20)) (mBin gMul (mC (.int 11)) (mVar 2))) mNil))))
    (mSeq (mSet 4 (mCallB gListC (mCons (mVar 3) mNil)))
    (mSeq (mSet 5 (mCall f_p_takes (mCons (mVar 1) (mCons (mVar 4) mNil))))
    (mIte (mOr (mNot (mTru (mIsI .bool (mVar 5)))) (mOr (mTest (mBin gNe (mVar 5) (mBin gEq (mCall f_says (mCons (mVar 1) (mCons (mVar 3) mNil))) (mC (.int 1))))) (mTest (mBin gNe (mVar 4) (mVar 3)))))
    (mRet (mC (.bl false)))
    mSkip))))
noncomputable def b_law:MSt:=(mSeq (mSet 1 (mCall f_truth (mCons (mVar 0) (mCons (mC (.int 0)) (mCons (mC (.int 2)) mNil)))))
    (mSeq (mFor (gN 2) (mRange1 (mC (.int 3))) l_law_1)
    (mRet (mC (.bl true)))))
noncomputable def f_law:Fn:=fnOf 5 b_law
structure Tx (w:World) (K:PySem.W.Frag) (mg:Str → Option Value):Prop where
  n_len:mg "len" = none
  n_range:mg "range" = none
  n_list:mg "list" = none
  n_max:mg "max" = none
  n_isinstance:mg "isinstance" = none
  n_bool:mg "bool" = none
  n_int:mg "int" = none
  n_sum:mg "sum" = none
  n_min:mg "min" = none
  c_OPS:ConstAt K mg "OPS" c_OPS
  c_DIVIDING:ConstAt K mg "DIVIDING" c_DIVIDING
  c_WIDTH:ConstAt K mg "WIDTH" c_WIDTH
  c_ROUND:ConstAt K mg "ROUND" c_ROUND
  d_cell:DefAt K mg "_law_cell" s_cell ["_law_script","_law_k_here"]
  d_mix:DefAt K mg "_law_mix" s_mix ["_law_script","_law_k_here"]
  d_op:DefAt K mg "_law_op" s_op ["_law_number_here"]
  d_number:DefAt K mg "_law_number" s_number ["_law_script","_law_base","_law_deep"]
  d_truth:DefAt K mg "_law_truth" s_truth ["_law_script","_law_base","_law_deep"]
  d_packet:DefAt K mg "_law_packet" s_packet ["_law_script","_law_base"]
  d_p_parts_ahead:DefAt K mg "parts_ahead" s_p_parts_ahead ["tree"]
  d_p_ask:DefAt K mg "ask" s_p_ask ["tree","packet","waiting","values"]
  d_p_loaded:DefAt K mg "loaded" s_p_loaded ["packet","size","start"]
  d_p_answer_joined:DefAt K mg "answer_joined" s_p_answer_joined ["tree","first","waiting","values"]
  d_p_shifted:DefAt K mg "shifted" s_p_shifted ["op","one","often"]
  d_p_plainly_reckoned:DefAt K mg "plainly_reckoned" s_p_plainly_reckoned ["op","one","other"]
  d_p_reckoned:DefAt K mg "reckoned" s_p_reckoned ["op","one","other"]
  d_p_compared:DefAt K mg "compared" s_p_compared ["test","one","other"]
  d_p_answer:DefAt K mg "answer" s_p_answer ["tree","packet","waiting","values"]
  d_p_takes:DefAt K mg "takes" s_p_takes ["tree","packet"]
  d_bytes:DefAt K mg "_law_bytes" s_bytes ["_law_packet_here","_law_at","_law_size"]
  d_reckoned:DefAt K mg "_law_reckoned" s_reckoned ["_law_op_here","_law_one","_law_other"]
  d_worth:DefAt K mg "_law_worth" s_worth ["_law_tree","_law_packet_here"]
  d_says:DefAt K mg "_law_says" s_says ["_law_tree","_law_packet_here"]
  d_law:DefAt K mg "law" s_law ["_law_script"]
section
variable {P:Program} {w:World} {K:PySem.W.Frag} {mg:Str → Option Value} {base:Heap}
theorem sc_cell:FnScope ["_law_script","_law_k_here"] ["_law_script","_law_k_here"] (defScope s_cell):=⟨rfl,rfl,rfl,by decide +kernel,rfl,by decide +kernel,by decide +kernel⟩
theorem lo_cell:locB (defScope s_cell) ["_law_script","_law_k_here"] = true:=by decide +kernel
theorem gl_cell:glB (defScope s_cell) ["len"] = true:=by decide +kernel
theorem okd_cell (T:Tx w K mg) {f:Addr} {fd:FuncData} (F:Fun K "_law_cell" "_law_cell" s_cell f fd):FnOk P w K mg base CX0 1 f fd ["_law_script","_law_k_here"] (spM K 2 f_cell):=by
  refine fnOk_of F sc_cell rfl rfl fun cdv A outer s H E hr => ?_
  have C:=ct_of (CX:=CX0) (P:=P) (w:=w) (K:=K) (mg:=mg) (base:=base) (outer:=outer) (H:=H) (E:=E) sc_cell.nd (loc_of lo_cell) (gl_of gl_cell) hr
  exact ((mss_cons (ms_if (mt_truth (sv C 0 rfl) (fun _ => rfl))
    (mss_one (ms_ret (me_idx (sv C 0 rfl) (me_bin om_mod (sv C 1 rfl) (me_callB cm_len (C.g 0 rfl) T.n_len PySem.boot_len (ma_cons (sv C 0 rfl) ma_nil rfl))) (fun _ _ => rfl))))
    mss_nil)
    (mss_one (ms_ret me_int))))
theorem ok_cell (T:Tx w K mg):FnAt P w K mg base "_law_cell" 1 2 f_cell:=fnAt_of T.d_cell rfl fun f fd F => okd_cell T F
theorem sc_mix:FnScope ["_law_script","_law_k_here","_law_number_here"] ["_law_script","_law_k_here"] (defScope s_mix):=⟨rfl,rfl,rfl,by decide +kernel,rfl,by decide +kernel,by decide +kernel⟩
theorem lo_mix:locB (defScope s_mix) ["_law_script","_law_k_here","_law_number_here"] = true:=by decide +kernel
theorem gl_mix:glB (defScope s_mix) ["_law_cell"] = true:=by decide +kernel
theorem okd_mix (T:Tx w K mg) {f:Addr} {fd:FuncData} (F:Fun K "_law_mix" "_law_mix" s_mix f fd):FnOk P w K mg base CX0 2 f fd ["_law_script","_law_k_here"] (spM K 2 f_mix):=by
  refine fnOk_of F sc_mix rfl rfl fun cdv A outer s H E hr => ?_
  have C:=ct_of (CX:=CX0) (P:=P) (w:=w) (K:=K) (mg:=mg) (base:=base) (outer:=outer) (H:=H) (E:=E) sc_mix.nd (loc_of lo_mix) (gl_of gl_mix) hr
  exact ((mss_cons (sa C 2 rfl (me_bin om_mod (me_bin om_add (me_fn (ok_cell T) (hr.mono (by decide)) (C.g 0 rfl) (ma_cons (sv C 0 rfl) (ma_cons (sv C 1 rfl) ma_nil rfl) rfl) rfl) (me_bin om_mul me_int (me_bin om_add (sv C 1 rfl) me_int))) me_int))
    (mss_cons (sa C 2 rfl (me_bin om_mod (me_bin om_mul (sv C 2 rfl) me_int) me_int))
    (mss_one (ms_ret (me_bin om_mod (me_bin om_add (me_bin om_mul (me_bin om_div (sv C 2 rfl) me_int) me_int) (sv C 2 rfl)) me_int))))))
theorem ok_mix (T:Tx w K mg):FnAt P w K mg base "_law_mix" 2 2 f_mix:=fnAt_of T.d_mix rfl fun f fd F => okd_mix T F
theorem sc_op:FnScope ["_law_number_here"] ["_law_number_here"] (defScope s_op):=⟨rfl,rfl,rfl,by decide +kernel,rfl,by decide +kernel,by decide +kernel⟩
theorem lo_op:locB (defScope s_op) ["_law_number_here"] = true:=by decide +kernel
theorem gl_op:glB (defScope s_op) [] = true:=by decide +kernel
theorem okd_op (T:Tx w K mg) {f:Addr} {fd:FuncData} (F:Fun K "_law_op" "_law_op" s_op f fd):FnOk P w K mg base CX0 1 f fd ["_law_number_here"] (spM K 1 f_op):=by
  refine fnOk_of F sc_op rfl rfl fun cdv A outer s H E hr => ?_
  have C:=ct_of (CX:=CX0) (P:=P) (w:=w) (K:=K) (mg:=mg) (base:=base) (outer:=outer) (H:=H) (E:=E) sc_op.nd (loc_of lo_op) (gl_of gl_op) hr
  exact ((mss_one (ms_ret (me_idx (me_lst (ma_cons (me_str w_plus_eq) (ma_cons (me_str w_minus_eq) (ma_cons (me_str w_times_eq) (ma_cons (me_str w_over_eq) (ma_cons (me_str w_rest_eq) (ma_cons (me_str w_and_eq) (ma_cons (me_str w_or_eq) (ma_cons (me_str w_xor_eq) (ma_cons (me_str w_left_eq) (ma_cons (me_str w_right_eq) ma_nil rfl) rfl) rfl) rfl) rfl) rfl) rfl) rfl) rfl) rfl)) (me_bin om_mod (sv C 0 rfl) me_int) (fun _ _ => rfl)))))
theorem ok_op (T:Tx w K mg):FnAt P w K mg base "_law_op" 1 1 f_op:=fnAt_of T.d_op rfl fun f fd F => okd_op T F
theorem sc_number:FnScope ["_law_script","_law_base","_law_deep","_law_number_here","_law_k_here","_law_one"] ["_law_script","_law_base","_law_deep"] (defScope s_number):=⟨rfl,rfl,rfl,by decide +kernel,rfl,by decide +kernel,by decide +kernel⟩
theorem lo_number:locB (defScope s_number) ["_law_script","_law_base","_law_deep","_law_number_here","_law_k_here","_law_one"] = true:=by decide +kernel
theorem gl_number:glB (defScope s_number) ["_law_mix","_law_number","_law_op"] = true:=by decide +kernel
theorem okg_number (T:Tx w K mg):∀ k,FnAt P w K mg base "_law_number" (3 + k) 3 (rc_number k 0):=by
  intro k
  induction k with
  | zero => exact fnAt_bad T.d_number rfl
  | succ k ih =>
    have ih0:=ih
    refine fnAt_of T.d_number rfl fun f fd F => ?_
    · show FnOk P w K mg base CX0 (3 + k + 1) f fd _ (spM K 3 (fnOf 3 (b_number (rc_number k))))
      refine fnOk_of F sc_number rfl rfl fun cdv A outer s H E hr => ?_
      have C:=ct_of (CX:=CX0) (P:=P) (w:=w) (K:=K) (mg:=mg) (base:=base) (outer:=outer) (H:=H) (E:=E) sc_number.nd (loc_of lo_number) (gl_of gl_number) hr
      exact ((mss_cons (sa C 3 rfl (me_fn (ok_mix T) (hr.mono (by omega)) (C.g 0 rfl) (ma_cons (sv C 0 rfl) (ma_cons (sv C 1 rfl) ma_nil rfl) rfl) rfl))
    (mss_cons (ms_if (mw_or (mt_cmp (om_eq C.un) (sv C 2 rfl) me_int (nomark _)) (mw_or1 (mt_cmp om_lt (me_bin om_mod (sv C 3 rfl) me_int) me_int (nomark _)))).t
    (mss_cons (sa C 4 rfl (me_idx (me_lst (ma_cons me_int (ma_cons me_int (ma_cons me_int (ma_cons me_int (ma_cons me_int (ma_cons me_int (ma_cons me_int (ma_cons me_int (ma_cons me_int (ma_cons (me_bin om_mod (sv C 3 rfl) me_int) ma_nil rfl) rfl) rfl) rfl) rfl) rfl) rfl) rfl) rfl) rfl)) (me_bin om_mod (me_bin om_div (sv C 3 rfl) me_int) me_int) (fun _ _ => rfl)))
    (mss_one (ms_ret (me_idx (me_lst (ma_cons (me_tup (ma_cons (me_str w_len_eq) ma_nil rfl)) (ma_cons (me_tup (ma_cons (me_str w_number_eq) (ma_cons (sv C 4 rfl) ma_nil rfl) rfl)) (ma_cons (me_tup (ma_cons (me_str w_number_eq) (ma_cons (sv C 4 rfl) ma_nil rfl) rfl)) ma_nil rfl) rfl) rfl)) (me_bin om_mod (me_bin om_div (sv C 3 rfl) me_int) me_int) (fun _ _ => rfl)))))
    mss_nil)
    (mss_cons (ms_if (mt_cmp (om_eq C.un) (me_bin om_mod (sv C 3 rfl) me_int) me_int (nomark _))
    (mss_one (ms_ret (me_tup (ma_cons (me_str w_load_eq) (ma_cons (me_idx (me_lst (ma_cons me_int (ma_cons me_int (ma_cons me_int ma_nil rfl) rfl) rfl)) (me_bin om_mod (me_bin om_div (sv C 3 rfl) me_int) me_int) (fun _ _ => rfl)) (ma_cons (me_fn ih0 (hr.mono (by omega)) (C.g 1 rfl) (ma_cons (sv C 0 rfl) (ma_cons (me_bin om_add (me_bin om_mul me_int (sv C 1 rfl)) me_int) (ma_cons (me_bin om_sub (sv C 2 rfl) me_int) ma_nil rfl) rfl) rfl) rfl) ma_nil rfl) rfl) rfl))))
    mss_nil)
    (mss_cons (sa C 5 rfl (me_fn ih0 (hr.mono (by omega)) (C.g 1 rfl) (ma_cons (sv C 0 rfl) (ma_cons (me_bin om_add (me_bin om_mul me_int (sv C 1 rfl)) me_int) (ma_cons (me_bin om_sub (sv C 2 rfl) me_int) ma_nil rfl) rfl) rfl) rfl))
    (mss_one (ms_ret (me_tup (ma_cons (me_fn (ok_op T) (hr.mono (by omega)) (C.g 2 rfl) (ma_cons (me_bin om_div (sv C 3 rfl) me_int) ma_nil rfl) rfl) (ma_cons (sv C 5 rfl) (ma_cons (me_fn ih0 (hr.mono (by omega)) (C.g 1 rfl) (ma_cons (sv C 0 rfl) (ma_cons (me_bin om_add (me_bin om_mul me_int (sv C 1 rfl)) me_int) (ma_cons (me_bin om_sub (sv C 2 rfl) me_int) ma_nil rfl) rfl) rfl) rfl) ma_nil rfl) rfl) rfl)))))))))
theorem ok_number (T:Tx w K mg):FnAt P w K mg base "_law_number" 11 3 f_number:=(okg_number T 8)
theorem sc_truth:FnScope ["_law_script","_law_base","_law_deep","_law_number_here","_law_one","_law_test"] ["_law_script","_law_base","_law_deep"] (defScope s_truth):=⟨rfl,rfl,rfl,by decide +kernel,rfl,by decide +kernel,by decide +kernel⟩
theorem lo_truth:locB (defScope s_truth) ["_law_script","_law_base","_law_deep","_law_number_here","_law_one","_law_test"] = true:=by decide +kernel
theorem gl_truth:glB (defScope s_truth) ["_law_mix","_law_truth","_law_number"] = true:=by decide +kernel
theorem okg_truth (T:Tx w K mg):∀ k,FnAt P w K mg base "_law_truth" (12 + k) 3 (rc_truth k 0):=by
  intro k
  induction k with
  | zero => exact fnAt_bad T.d_truth rfl
  | succ k ih =>
    have ih0:=ih
    refine fnAt_of T.d_truth rfl fun f fd F => ?_
    · show FnOk P w K mg base CX0 (12 + k + 1) f fd _ (spM K 3 (fnOf 3 (b_truth (rc_truth k))))
      refine fnOk_of F sc_truth rfl rfl fun cdv A outer s H E hr => ?_
      have C:=ct_of (CX:=CX0) (P:=P) (w:=w) (K:=K) (mg:=mg) (base:=base) (outer:=outer) (H:=H) (E:=E) sc_truth.nd (loc_of lo_truth) (gl_of gl_truth) hr
      exact ((mss_cons (sa C 3 rfl (me_fn (ok_mix T) (hr.mono (by omega)) (C.g 0 rfl) (ma_cons (sv C 0 rfl) (ma_cons (sv C 1 rfl) ma_nil rfl) rfl) rfl))
    (mss_cons (ms_if (mw_and (mt_cmp om_gt (sv C 2 rfl) me_int (nomark _)) (mw_and1 (mt_cmp om_lt (me_bin om_mod (sv C 3 rfl) me_int) me_int (nomark _)))).t
    (mss_cons (sa C 4 rfl (me_fn ih0 (hr.mono (by omega)) (C.g 1 rfl) (ma_cons (sv C 0 rfl) (ma_cons (me_bin om_add (me_bin om_mul me_int (sv C 1 rfl)) me_int) (ma_cons (me_bin om_sub (sv C 2 rfl) me_int) ma_nil rfl) rfl) rfl) rfl))
    (mss_cons (ms_if (mt_cmp (om_eq C.un) (me_bin om_mod (sv C 3 rfl) me_int) me_int (nomark _))
    (mss_one (ms_ret (me_tup (ma_cons (me_str w_not_eq) (ma_cons (sv C 4 rfl) ma_nil rfl) rfl))))
    mss_nil)
    (mss_one (ms_ret (me_tup (ma_cons (me_idx (me_lst (ma_cons (me_str w_both_eq) (ma_cons (me_str w_either_eq) ma_nil rfl) rfl)) (me_bin om_sub (me_bin om_mod (sv C 3 rfl) me_int) me_int) (fun _ _ => rfl)) (ma_cons (sv C 4 rfl) (ma_cons (me_fn ih0 (hr.mono (by omega)) (C.g 1 rfl) (ma_cons (sv C 0 rfl) (ma_cons (me_bin om_add (me_bin om_mul me_int (sv C 1 rfl)) me_int) (ma_cons (me_bin om_sub (sv C 2 rfl) me_int) ma_nil rfl) rfl) rfl) rfl) ma_nil rfl) rfl) rfl))))))
    mss_nil)
    (mss_cons (ms_if (mt_cmp (om_eq C.un) (me_bin om_mod (me_bin om_div (sv C 3 rfl) me_int) me_int) me_int (nomark _))
    (mss_one (ms_ret (me_tup (ma_cons (me_str w_truth_eq) (ma_cons (me_cmp (om_eq C.un) (me_bin om_mod (me_bin om_div (sv C 3 rfl) me_int) me_int) me_int (nomark _)) ma_nil rfl) rfl))))
    mss_nil)
    (mss_cons (sa C 5 rfl (me_idx (me_lst (ma_cons (me_str w_same_eq) (ma_cons (me_str w_unlike_eq) (ma_cons (me_str w_below_eq) (ma_cons (me_str w_above_eq) (ma_cons (me_str w_most_eq) (ma_cons (me_str w_least_eq) ma_nil rfl) rfl) rfl) rfl) rfl) rfl)) (me_bin om_mod (me_bin om_div (sv C 3 rfl) me_int) me_int) (fun _ _ => rfl)))
    (mss_one (ms_ret (me_tup (ma_cons (sv C 5 rfl) (ma_cons (me_fn (ok_number T) (hr.mono (by omega)) (C.g 2 rfl) (ma_cons (sv C 0 rfl) (ma_cons (me_bin om_add (me_bin om_mul me_int (sv C 1 rfl)) me_int) (ma_cons me_int ma_nil rfl) rfl) rfl) rfl) (ma_cons (me_fn (ok_number T) (hr.mono (by omega)) (C.g 2 rfl) (ma_cons (sv C 0 rfl) (ma_cons (me_bin om_add (me_bin om_mul me_int (sv C 1 rfl)) me_int) (ma_cons me_int ma_nil rfl) rfl) rfl) rfl) ma_nil rfl) rfl) rfl)))))))))
theorem ok_truth (T:Tx w K mg):FnAt P w K mg base "_law_truth" 20 3 f_truth:=(okg_truth T 8)
theorem sc_packet:FnScope ["_law_script","_law_base","_law_size"] ["_law_script","_law_base"] (defScope s_packet):=⟨rfl,rfl,rfl,by decide +kernel,rfl,by decide +kernel,by decide +kernel⟩
theorem lo_packet:locB (defScope s_packet) ["_law_script","_law_base","_law_size"] = true:=by decide +kernel
theorem gl_packet:glB (defScope s_packet) ["_law_mix","range"] = true:=by decide +kernel
theorem okd_packet (T:Tx w K mg) {f:Addr} {fd:FuncData} (F:Fun K "_law_packet" "_law_packet" s_packet f fd):FnOk P w K mg base CX0 3 f fd ["_law_script","_law_base"] (spM K 2 f_packet):=by
  refine fnOk_of F sc_packet rfl rfl fun cdv A outer s H E hr => ?_
  have C:=ct_of (CX:=CX0) (P:=P) (w:=w) (K:=K) (mg:=mg) (base:=base) (outer:=outer) (H:=H) (E:=E) sc_packet.nd (loc_of lo_packet) (gl_of gl_packet) hr
  exact ((mss_cons (sa C 2 rfl (me_idx (me_lst (ma_cons me_int (ma_cons me_int (ma_cons me_int (ma_cons me_int (ma_cons me_int (ma_cons me_int ma_nil rfl) rfl) rfl) rfl) rfl) rfl)) (me_bin om_mod (me_fn (ok_mix T) (hr.mono (by decide)) (C.g 0 rfl) (ma_cons (sv C 0 rfl) (ma_cons (sv C 1 rfl) ma_nil rfl) rfl) rfl) me_int) (fun _ _ => rfl)))
    (mss_one (ms_ret (me_comp (T:=["_law_k_here"]) (caps:=["_law_script","_law_base"]) (ix:=[0,1]) (compScope_of (show compB _ (defScope s_packet) = true by decide +kernel)) (caps_of C.hN (by decide +kernel)) C.calm (mi_range1 (C.g 1 rfl) T.n_range (sv C 2 rfl)) (fun C2 s2 H2 ex2 => have B:blkB _ ["_law_k_here"] ["_law_script","_law_base"] ["_law_mix"] = true:=(by decide +kernel); have C:=cb_of (C:=C2) (s:=s2) (H:=H2) (ex:=ex2) C.calm C.un (by decide +kernel) B; And.intro (stb C 0 rfl (blk_loc B (j:=0) rfl)) (And.intro mifs_nil (me_bin om_mod (me_bin om_div (me_fn (ok_mix T) (hr.mono (by decide)) (C.g 0 rfl) (ma_cons (svb C 1 rfl) (ma_cons (me_bin om_add (me_bin om_add (svb C 2 rfl) me_int) (me_bin om_mod (svb C 0 rfl) me_int)) ma_nil rfl) rfl) rfl) (me_bin om_add me_int (svb C 0 rfl))) me_int))))))))
theorem ok_packet (T:Tx w K mg):FnAt P w K mg base "_law_packet" 3 2 f_packet:=fnAt_of T.d_packet rfl fun f fd F => okd_packet T F
theorem sc_p_parts_ahead:FnScope ["tree"] ["tree"] (defScope s_p_parts_ahead):=⟨rfl,rfl,rfl,by decide +kernel,rfl,by decide +kernel,by decide +kernel⟩
theorem lo_p_parts_ahead:locB (defScope s_p_parts_ahead) ["tree"] = true:=by decide +kernel
theorem gl_p_parts_ahead:glB (defScope s_p_parts_ahead) [] = true:=by decide +kernel
theorem okd_p_parts_ahead (T:Tx w K mg) {f:Addr} {fd:FuncData} (F:Fun K "parts_ahead" "parts_ahead" s_p_parts_ahead f fd):FnOk P w K mg base CX0 1 f fd ["tree"] (spM K 1 f_p_parts_ahead):=by
  refine fnOk_of F sc_p_parts_ahead rfl rfl fun cdv A outer s H E hr => ?_
  have C:=ct_of (CX:=CX0) (P:=P) (w:=w) (K:=K) (mg:=mg) (base:=base) (outer:=outer) (H:=H) (E:=E) sc_p_parts_ahead.nd (loc_of lo_p_parts_ahead) (gl_of gl_p_parts_ahead) hr
  exact ((mss_cons (ms_if (mt_cmp (om_eq C.un) (me_idx (sv C 0 rfl) me_int (fun _ _ => rfl)) (me_str w_load_eq) (nomark _))
    (mss_one (ms_ret (me_lst (ma_cons (me_idx (sv C 0 rfl) me_int (fun _ _ => rfl)) ma_nil rfl))))
    mss_nil)
    (mss_cons (ms_if (mt_cmp (om_in C.un) (me_idx (sv C 0 rfl) me_int (fun _ _ => rfl)) (me_tup (ma_cons (me_str w_not_eq) (ma_cons (me_str w_both_eq) (ma_cons (me_str w_either_eq) ma_nil rfl) rfl) rfl)) rfl)
    (mss_one (ms_ret (me_lst (ma_cons (me_idx (sv C 0 rfl) me_int (fun _ _ => rfl)) ma_nil rfl))))
    mss_nil)
    (mss_one (ms_ret (me_lst (ma_cons (me_idx (sv C 0 rfl) me_int (fun _ _ => rfl)) (ma_cons (me_idx (sv C 0 rfl) me_int (fun _ _ => rfl)) ma_nil rfl) rfl)))))))
theorem ok_p_parts_ahead (T:Tx w K mg):FnAt P w K mg base "parts_ahead" 1 1 f_p_parts_ahead:=fnAt_of T.d_p_parts_ahead rfl fun f fd F => okd_p_parts_ahead T F
theorem sc_p_ask:FnScope ["tree","packet","waiting","values"] ["tree","packet","waiting","values"] (defScope s_p_ask):=⟨rfl,rfl,rfl,by decide +kernel,rfl,by decide +kernel,by decide +kernel⟩
theorem lo_p_ask:locB (defScope s_p_ask) ["tree","packet","waiting","values"] = true:=by decide +kernel
theorem gl_p_ask:glB (defScope s_p_ask) ["len","parts_ahead"] = true:=by decide +kernel
theorem okd_p_ask (T:Tx w K mg) {f:Addr} {fd:FuncData} (F:Fun K "ask" "ask" s_p_ask f fd):FnOk P w K mg base CX0 2 f fd ["tree","packet","waiting","values"] (spM K 4 f_p_ask):=by
  refine fnOk_of F sc_p_ask rfl rfl fun cdv A outer s H E hr => ?_
  have C:=ct_of (CX:=CX0) (P:=P) (w:=w) (K:=K) (mg:=mg) (base:=base) (outer:=outer) (H:=H) (E:=E) sc_p_ask.nd (loc_of lo_p_ask) (gl_of gl_p_ask) hr
  exact ((mss_one (ms_if (mt_cmp (om_in C.un) (me_idx (sv C 0 rfl) me_int (fun _ _ => rfl)) (me_tup (ma_cons (me_str w_number_eq) (ma_cons (me_str w_truth_eq) ma_nil rfl) rfl)) rfl)
    (mss_one (ms_expr (me_append (sv C 3 rfl) (ma_cons (me_idx (sv C 0 rfl) me_int (fun _ _ => rfl)) ma_nil rfl) (fun _ _ => rfl))))
    (mss_one (ms_if (mt_cmp (om_eq C.un) (me_idx (sv C 0 rfl) me_int (fun _ _ => rfl)) (me_str w_len_eq) (nomark _))
    (mss_one (ms_expr (me_append (sv C 3 rfl) (ma_cons (me_callB cm_len (C.g 0 rfl) T.n_len PySem.boot_len (ma_cons (sv C 1 rfl) ma_nil rfl)) ma_nil rfl) (fun _ _ => rfl))))
    (mss_cons (ms_expr (me_append (sv C 2 rfl) (ma_cons (me_tup (ma_cons (me_str w_answer_eq) (ma_cons (sv C 0 rfl) ma_nil rfl) rfl)) ma_nil rfl) (fun _ _ => rfl)))
    (mss_one (ms_expr (me_extend (sv C 2 rfl) (ma_cons (me_comp (T:=["part"]) (caps:=[]) (ix:=[]) (compScope_of (show compB _ (defScope s_p_ask) = true by decide +kernel)) (caps_of C.hN (by decide +kernel)) C.calm (mi_list (me_fn (ok_p_parts_ahead T) (hr.mono (by decide)) (C.g 1 rfl) (ma_cons (sv C 0 rfl) ma_nil rfl) rfl)) (fun C2 s2 H2 ex2 => have B:blkB _ ["part"] [] [] = true:=(by decide +kernel); have C:=cb_of (C:=C2) (s:=s2) (H:=H2) (ex:=ex2) C.calm C.un (by decide +kernel) B; And.intro (stb C 0 rfl (blk_loc B (j:=0) rfl)) (And.intro mifs_nil (me_tup (ma_cons (me_str w_ask_eq) (ma_cons (svb C 0 rfl) ma_nil rfl) rfl))))) ma_nil rfl) (fun _ _ => rfl))))))))))
theorem ok_p_ask (T:Tx w K mg):FnAt P w K mg base "ask" 2 4 f_p_ask:=fnAt_of T.d_p_ask rfl fun f fd F => okd_p_ask T F
theorem sc_p_loaded:FnScope ["packet","size","start","number","byte"] ["packet","size","start"] (defScope s_p_loaded):=⟨rfl,rfl,rfl,by decide +kernel,rfl,by decide +kernel,by decide +kernel⟩
theorem lo_p_loaded:locB (defScope s_p_loaded) ["packet","size","start","number","byte"] = true:=by decide +kernel
theorem gl_p_loaded:glB (defScope s_p_loaded) ["len"] = true:=by decide +kernel
theorem okd_p_loaded (T:Tx w K mg) {f:Addr} {fd:FuncData} (F:Fun K "loaded" "loaded" s_p_loaded f fd):FnOk P w K mg base CX0 1 f fd ["packet","size","start"] (spM K 3 f_p_loaded):=by
  refine fnOk_of F sc_p_loaded rfl rfl fun cdv A outer s H E hr => ?_
  have C:=ct_of (CX:=CX0) (P:=P) (w:=w) (K:=K) (mg:=mg) (base:=base) (outer:=outer) (H:=H) (E:=E) sc_p_loaded.nd (loc_of lo_p_loaded) (gl_of gl_p_loaded) hr
  exact ((mss_cons (ms_if (mw_or (mt_cmp om_lt (sv C 2 rfl) me_int (nomark _)) (mw_or1 (mt_cmp om_gt (me_bin om_add (sv C 2 rfl) (sv C 1 rfl)) (me_callB cm_len (C.g 0 rfl) T.n_len PySem.boot_len (ma_cons (sv C 0 rfl) ma_nil rfl)) (nomark _)))).t
    (mss_one (ms_ret me_non))
    mss_nil)
    (mss_cons (sa C 3 rfl me_int)
    (mss_cons (ms_for PassesOwn.never C.calm (mi_list (me_slice (sv C 0 rfl) (mp_some (sv C 2 rfl)) (mp_some (me_bin om_add (sv C 2 rfl) (sv C 1 rfl))))) (st C 4 rfl)
    (mss_one (sa C 3 rfl (me_bin om_add (me_bin om_mul (sv C 3 rfl) me_int) (sv C 4 rfl)))))
    (mss_one (ms_ret (sv C 3 rfl)))))))
theorem ok_p_loaded (T:Tx w K mg):FnAt P w K mg base "loaded" 1 3 f_p_loaded:=fnAt_of T.d_p_loaded rfl fun f fd F => okd_p_loaded T F
theorem sc_p_answer_joined:FnScope ["tree","first","waiting","values"] ["tree","first","waiting","values"] (defScope s_p_answer_joined):=⟨rfl,rfl,rfl,by decide +kernel,rfl,by decide +kernel,by decide +kernel⟩
theorem lo_p_answer_joined:locB (defScope s_p_answer_joined) ["tree","first","waiting","values"] = true:=by decide +kernel
theorem gl_p_answer_joined:glB (defScope s_p_answer_joined) [] = true:=by decide +kernel
theorem okd_p_answer_joined (T:Tx w K mg) {f:Addr} {fd:FuncData} (F:Fun K "answer_joined" "answer_joined" s_p_answer_joined f fd):FnOk P w K mg base CX0 1 f fd ["tree","first","waiting","values"] (spM K 4 f_p_answer_joined):=by
  refine fnOk_of F sc_p_answer_joined rfl rfl fun cdv A outer s H E hr => ?_
  have C:=ct_of (CX:=CX0) (P:=P) (w:=w) (K:=K) (mg:=mg) (base:=base) (outer:=outer) (H:=H) (E:=E) sc_p_answer_joined.nd (loc_of lo_p_answer_joined) (gl_of gl_p_answer_joined) hr
  exact ((mss_one (ms_if (mt_cmp (om_eq C.un) (sv C 1 rfl) (me_cmp (om_eq C.un) (me_idx (sv C 0 rfl) me_int (fun _ _ => rfl)) (me_str w_either_eq) (nomark _)) (nomark _))
    (mss_one (ms_expr (me_append (sv C 3 rfl) (ma_cons (sv C 1 rfl) ma_nil rfl) (fun _ _ => rfl))))
    (mss_one (ms_expr (me_append (sv C 2 rfl) (ma_cons (me_tup (ma_cons (me_str w_ask_eq) (ma_cons (me_idx (sv C 0 rfl) me_int (fun _ _ => rfl)) ma_nil rfl) rfl)) ma_nil rfl) (fun _ _ => rfl)))))))
theorem ok_p_answer_joined (T:Tx w K mg):FnAt P w K mg base "answer_joined" 1 4 f_p_answer_joined:=fnAt_of T.d_p_answer_joined rfl fun f fd F => okd_p_answer_joined T F
theorem sc_p_shifted:FnScope ["op","one","often","times"] ["op","one","often"] (defScope s_p_shifted):=⟨rfl,rfl,rfl,by decide +kernel,rfl,by decide +kernel,by decide +kernel⟩
theorem lo_p_shifted:locB (defScope s_p_shifted) ["op","one","often","times"] = true:=by decide +kernel
theorem gl_p_shifted:glB (defScope s_p_shifted) ["WIDTH","max"] = true:=by decide +kernel
theorem okd_p_shifted (T:Tx w K mg) {f:Addr} {fd:FuncData} (F:Fun K "shifted" "shifted" s_p_shifted f fd):FnOk P w K mg base CX0 1 f fd ["op","one","often"] (spM K 3 f_p_shifted):=by
  refine fnOk_of F sc_p_shifted rfl rfl fun cdv A outer s H E hr => ?_
  have C:=ct_of (CX:=CX0) (P:=P) (w:=w) (K:=K) (mg:=mg) (base:=base) (outer:=outer) (H:=H) (E:=E) sc_p_shifted.nd (loc_of lo_p_shifted) (gl_of gl_p_shifted) hr
  exact ((mss_cons (ms_if (mt_cmp om_ge (sv C 2 rfl) (me_const T.c_WIDTH (C.g 0 rfl)) (nomark _))
    (mss_one (ms_ret me_int))
    mss_nil)
    (mss_cons (sa C 3 rfl (me_callB (cm_max C.calm) (C.g 1 rfl) T.n_max PyProof.Rows.boot_max (ma_cons (sv C 2 rfl) (ma_cons me_int ma_nil rfl) rfl)))
    (mss_one (ms_ret (me_if (mt_cmp (om_eq C.un) (sv C 0 rfl) (me_str w_left_eq) (nomark _)) (me_bin om_shl (sv C 1 rfl) (sv C 3 rfl)) (me_bin om_shr (sv C 1 rfl) (sv C 3 rfl))))))))
theorem ok_p_shifted (T:Tx w K mg):FnAt P w K mg base "shifted" 1 3 f_p_shifted:=fnAt_of T.d_p_shifted rfl fun f fd F => okd_p_shifted T F
theorem sc_p_plainly_reckoned:FnScope ["op","one","other"] ["op","one","other"] (defScope s_p_plainly_reckoned):=⟨rfl,rfl,rfl,by decide +kernel,rfl,by decide +kernel,by decide +kernel⟩
theorem lo_p_plainly_reckoned:locB (defScope s_p_plainly_reckoned) ["op","one","other"] = true:=by decide +kernel
theorem gl_p_plainly_reckoned:glB (defScope s_p_plainly_reckoned) ["shifted"] = true:=by decide +kernel
theorem okd_p_plainly_reckoned (T:Tx w K mg) {f:Addr} {fd:FuncData} (F:Fun K "plainly_reckoned" "plainly_reckoned" s_p_plainly_reckoned f fd):FnOk P w K mg base CX0 2 f fd ["op","one","other"] (spM K 3 f_p_plainly_reckoned):=by
  refine fnOk_of F sc_p_plainly_reckoned rfl rfl fun cdv A outer s H E hr => ?_
  have C:=ct_of (CX:=CX0) (P:=P) (w:=w) (K:=K) (mg:=mg) (base:=base) (outer:=outer) (H:=H) (E:=E) sc_p_plainly_reckoned.nd (loc_of lo_p_plainly_reckoned) (gl_of gl_p_plainly_reckoned) hr
  exact ((mss_cons (ms_if (mt_cmp (om_eq C.un) (sv C 0 rfl) (me_str w_plus_eq) (nomark _))
    (mss_one (ms_ret (me_bin om_add (sv C 1 rfl) (sv C 2 rfl))))
    mss_nil)
    (mss_cons (ms_if (mt_cmp (om_eq C.un) (sv C 0 rfl) (me_str w_minus_eq) (nomark _))
    (mss_one (ms_ret (me_bin om_sub (sv C 1 rfl) (sv C 2 rfl))))
    mss_nil)
    (mss_cons (ms_if (mt_cmp (om_eq C.un) (sv C 0 rfl) (me_str w_times_eq) (nomark _))
    (mss_one (ms_ret (me_bin om_mul (sv C 1 rfl) (sv C 2 rfl))))
    mss_nil)
    (mss_cons (ms_if (mt_cmp (om_eq C.un) (sv C 0 rfl) (me_str w_over_eq) (nomark _))
    (mss_one (ms_ret (me_bin om_div (sv C 1 rfl) (sv C 2 rfl))))
    mss_nil)
    (mss_cons (ms_if (mt_cmp (om_eq C.un) (sv C 0 rfl) (me_str w_rest_eq) (nomark _))
    (mss_one (ms_ret (me_bin om_mod (sv C 1 rfl) (sv C 2 rfl))))
    mss_nil)
    (mss_cons (ms_if (mt_cmp (om_eq C.un) (sv C 0 rfl) (me_str w_and_eq) (nomark _))
    (mss_one (ms_ret (me_bin om_band (sv C 1 rfl) (sv C 2 rfl))))
    mss_nil)
    (mss_cons (ms_if (mt_cmp (om_eq C.un) (sv C 0 rfl) (me_str w_or_eq) (nomark _))
    (mss_one (ms_ret (me_bin om_bor (sv C 1 rfl) (sv C 2 rfl))))
    mss_nil)
    (mss_cons (ms_if (mt_cmp (om_eq C.un) (sv C 0 rfl) (me_str w_xor_eq) (nomark _))
    (mss_one (ms_ret (me_bin om_bxor (sv C 1 rfl) (sv C 2 rfl))))
    mss_nil)
    (mss_one (ms_ret (me_fn (ok_p_shifted T) (hr.mono (by decide)) (C.g 0 rfl) (ma_cons (sv C 0 rfl) (ma_cons (sv C 1 rfl) (ma_cons (sv C 2 rfl) ma_nil rfl) rfl) rfl) rfl))))))))))))
theorem ok_p_plainly_reckoned (T:Tx w K mg):FnAt P w K mg base "plainly_reckoned" 2 3 f_p_plainly_reckoned:=fnAt_of T.d_p_plainly_reckoned rfl fun f fd F => okd_p_plainly_reckoned T F
theorem sc_p_reckoned:FnScope ["op","one","other"] ["op","one","other"] (defScope s_p_reckoned):=⟨rfl,rfl,rfl,by decide +kernel,rfl,by decide +kernel,by decide +kernel⟩
theorem lo_p_reckoned:locB (defScope s_p_reckoned) ["op","one","other"] = true:=by decide +kernel
theorem gl_p_reckoned:glB (defScope s_p_reckoned) ["DIVIDING","plainly_reckoned","ROUND"] = true:=by decide +kernel
theorem okd_p_reckoned (T:Tx w K mg) {f:Addr} {fd:FuncData} (F:Fun K "reckoned" "reckoned" s_p_reckoned f fd):FnOk P w K mg base CX0 3 f fd ["op","one","other"] (spM K 3 f_p_reckoned):=by
  refine fnOk_of F sc_p_reckoned rfl rfl fun cdv A outer s H E hr => ?_
  have C:=ct_of (CX:=CX0) (P:=P) (w:=w) (K:=K) (mg:=mg) (base:=base) (outer:=outer) (H:=H) (E:=E) sc_p_reckoned.nd (loc_of lo_p_reckoned) (gl_of gl_p_reckoned) hr
  exact ((mss_cons (ms_if (mw_and (mt_cmp (om_in C.un) (sv C 0 rfl) (me_const T.c_DIVIDING (C.g 0 rfl)) rfl) (mw_and1 (mt_cmp (om_eq C.un) (sv C 2 rfl) me_int (nomark _)))).t
    (mss_one (ms_ret me_non))
    mss_nil)
    (mss_one (ms_ret (me_bin om_mod (me_fn (ok_p_plainly_reckoned T) (hr.mono (by decide)) (C.g 1 rfl) (ma_cons (sv C 0 rfl) (ma_cons (sv C 1 rfl) (ma_cons (sv C 2 rfl) ma_nil rfl) rfl) rfl) rfl) (me_const T.c_ROUND (C.g 2 rfl)))))))
theorem ok_p_reckoned (T:Tx w K mg):FnAt P w K mg base "reckoned" 3 3 f_p_reckoned:=fnAt_of T.d_p_reckoned rfl fun f fd F => okd_p_reckoned T F
theorem sc_p_compared:FnScope ["test","one","other"] ["test","one","other"] (defScope s_p_compared):=⟨rfl,rfl,rfl,by decide +kernel,rfl,by decide +kernel,by decide +kernel⟩
theorem lo_p_compared:locB (defScope s_p_compared) ["test","one","other"] = true:=by decide +kernel
theorem gl_p_compared:glB (defScope s_p_compared) [] = true:=by decide +kernel
theorem okd_p_compared (T:Tx w K mg) {f:Addr} {fd:FuncData} (F:Fun K "compared" "compared" s_p_compared f fd):FnOk P w K mg base CX0 1 f fd ["test","one","other"] (spM K 3 f_p_compared):=by
  refine fnOk_of F sc_p_compared rfl rfl fun cdv A outer s H E hr => ?_
  have C:=ct_of (CX:=CX0) (P:=P) (w:=w) (K:=K) (mg:=mg) (base:=base) (outer:=outer) (H:=H) (E:=E) sc_p_compared.nd (loc_of lo_p_compared) (gl_of gl_p_compared) hr
  exact ((mss_cons (ms_if (mt_cmp (om_eq C.un) (sv C 0 rfl) (me_str w_same_eq) (nomark _))
    (mss_one (ms_ret (me_cmp (om_eq C.un) (sv C 1 rfl) (sv C 2 rfl) (nomark _))))
    mss_nil)
    (mss_cons (ms_if (mt_cmp (om_eq C.un) (sv C 0 rfl) (me_str w_unlike_eq) (nomark _))
    (mss_one (ms_ret (me_cmp (om_ne C.un) (sv C 1 rfl) (sv C 2 rfl) (nomark _))))
    mss_nil)
    (mss_cons (ms_if (mt_cmp (om_eq C.un) (sv C 0 rfl) (me_str w_below_eq) (nomark _))
    (mss_one (ms_ret (me_cmp om_lt (sv C 1 rfl) (sv C 2 rfl) (nomark _))))
    mss_nil)
    (mss_cons (ms_if (mt_cmp (om_eq C.un) (sv C 0 rfl) (me_str w_above_eq) (nomark _))
    (mss_one (ms_ret (me_cmp om_gt (sv C 1 rfl) (sv C 2 rfl) (nomark _))))
    mss_nil)
    (mss_cons (ms_if (mt_cmp (om_eq C.un) (sv C 0 rfl) (me_str w_most_eq) (nomark _))
    (mss_one (ms_ret (me_cmp om_le (sv C 1 rfl) (sv C 2 rfl) (nomark _))))
    mss_nil)
    (mss_one (ms_ret (me_cmp om_ge (sv C 1 rfl) (sv C 2 rfl) (nomark _))))))))))
theorem ok_p_compared (T:Tx w K mg):FnAt P w K mg base "compared" 1 3 f_p_compared:=fnAt_of T.d_p_compared rfl fun f fd F => okd_p_compared T F
theorem sc_p_answer:FnScope ["tree","packet","waiting","values","last"] ["tree","packet","waiting","values"] (defScope s_p_answer):=⟨rfl,rfl,rfl,by decide +kernel,rfl,by decide +kernel,by decide +kernel⟩
theorem lo_p_answer:locB (defScope s_p_answer) ["tree","packet","waiting","values","last"] = true:=by decide +kernel
theorem gl_p_answer:glB (defScope s_p_answer) ["loaded","answer_joined","OPS","reckoned","compared"] = true:=by decide +kernel
theorem okd_p_answer (T:Tx w K mg) {f:Addr} {fd:FuncData} (F:Fun K "answer" "answer" s_p_answer f fd):FnOk P w K mg base CX0 4 f fd ["tree","packet","waiting","values"] (spM K 4 f_p_answer):=by
  refine fnOk_of F sc_p_answer rfl rfl fun cdv A outer s H E hr => ?_
  have C:=ct_of (CX:=CX0) (P:=P) (w:=w) (K:=K) (mg:=mg) (base:=base) (outer:=outer) (H:=H) (E:=E) sc_p_answer.nd (loc_of lo_p_answer) (gl_of gl_p_answer) hr
  exact ((mss_cons (sa C 4 rfl (me_pop (sv C 3 rfl)))
    (mss_one (ms_if (mt_cmp (om_eq C.un) (me_idx (sv C 0 rfl) me_int (fun _ _ => rfl)) (me_str w_load_eq) (nomark _))
    (mss_one (ms_expr (me_append (sv C 3 rfl) (ma_cons (me_fn (ok_p_loaded T) (hr.mono (by decide)) (C.g 0 rfl) (ma_cons (sv C 1 rfl) (ma_cons (me_idx (sv C 0 rfl) me_int (fun _ _ => rfl)) (ma_cons (sv C 4 rfl) ma_nil rfl) rfl) rfl) rfl) ma_nil rfl) (fun _ _ => rfl))))
    (mss_one (ms_if (mt_cmp (om_eq C.un) (me_idx (sv C 0 rfl) me_int (fun _ _ => rfl)) (me_str w_not_eq) (nomark _))
    (mss_one (ms_expr (me_append (sv C 3 rfl) (ma_cons (me_not (sv C 4 rfl)) ma_nil rfl) (fun _ _ => rfl))))
    (mss_one (ms_if (mt_cmp (om_in C.un) (me_idx (sv C 0 rfl) me_int (fun _ _ => rfl)) (me_tup (ma_cons (me_str w_both_eq) (ma_cons (me_str w_either_eq) ma_nil rfl) rfl)) rfl)
    (mss_one (ms_expr (me_fn (ok_p_answer_joined T) (hr.mono (by decide)) (C.g 1 rfl) (ma_cons (sv C 0 rfl) (ma_cons (sv C 4 rfl) (ma_cons (sv C 2 rfl) (ma_cons (sv C 3 rfl) ma_nil rfl) rfl) rfl) rfl) rfl)))
    (mss_one (ms_if (mt_cmp (om_in C.un) (me_idx (sv C 0 rfl) me_int (fun _ _ => rfl)) (me_const T.c_OPS (C.g 2 rfl)) rfl)
    (mss_one (ms_expr (me_append (sv C 3 rfl) (ma_cons (me_fn (ok_p_reckoned T) (hr.mono (by decide)) (C.g 3 rfl) (ma_cons (me_idx (sv C 0 rfl) me_int (fun _ _ => rfl)) (ma_cons (me_pop (sv C 3 rfl)) (ma_cons (sv C 4 rfl) ma_nil rfl) rfl) rfl) rfl) ma_nil rfl) (fun _ _ => rfl))))
    (mss_one (ms_expr (me_append (sv C 3 rfl) (ma_cons (me_fn (ok_p_compared T) (hr.mono (by decide)) (C.g 4 rfl) (ma_cons (me_idx (sv C 0 rfl) me_int (fun _ _ => rfl)) (ma_cons (me_pop (sv C 3 rfl)) (ma_cons (sv C 4 rfl) ma_nil rfl) rfl) rfl) rfl) ma_nil rfl) (fun _ _ => rfl))))))))))))))
theorem ok_p_answer (T:Tx w K mg):FnAt P w K mg base "answer" 4 4 f_p_answer:=fnAt_of T.d_p_answer rfl fun f fd F => okd_p_answer T F
theorem sc_p_takes:FnScope ["tree","packet","waiting","values","task"] ["tree","packet"] (defScope s_p_takes):=⟨rfl,rfl,rfl,by decide +kernel,rfl,by decide +kernel,by decide +kernel⟩
theorem lo_p_takes:locB (defScope s_p_takes) ["tree","packet","waiting","values","task"] = true:=by decide +kernel
theorem gl_p_takes:glB (defScope s_p_takes) ["len","ask","answer"] = true:=by decide +kernel
theorem okd_p_takes (T:Tx w K mg) {f:Addr} {fd:FuncData} (F:Fun K "takes" "takes" s_p_takes f fd):FnOk P w K mg base CX0 5 f fd ["tree","packet"] (spM K 2 f_p_takes):=by
  refine fnOk_of F sc_p_takes rfl rfl fun cdv A outer s H E hr => ?_
  have C:=ct_of (CX:=CX0) (P:=P) (w:=w) (K:=K) (mg:=mg) (base:=base) (outer:=outer) (H:=H) (E:=E) sc_p_takes.nd (loc_of lo_p_takes) (gl_of gl_p_takes) hr
  exact ((mss_cons (sa C 2 rfl (me_lstC (ma_cons (me_tup (ma_cons (me_str w_ask_eq) (ma_cons (sv C 0 rfl) ma_nil rfl) rfl)) ma_nil rfl)))
    (mss_cons (sa C 3 rfl (me_lstC ma_nil))
    (mss_cons (ms_while 1000 PassesOwn.never (mt_cmp om_gt (me_callB cm_len (C.g 0 rfl) T.n_len PySem.boot_len (ma_cons (sv C 2 rfl) ma_nil rfl)) me_int (nomark _))
    (mss_cons (sa C 4 rfl (me_pop (sv C 2 rfl)))
    (mss_cons (ms_if (mt_cmp (om_eq C.un) (me_idx (sv C 4 rfl) me_int (fun _ _ => rfl)) (me_str w_ask_eq) (nomark _))
    (mss_one (ms_expr (me_fn (ok_p_ask T) (hr.mono (by decide)) (C.g 1 rfl) (ma_cons (me_idx (sv C 4 rfl) me_int (fun _ _ => rfl)) (ma_cons (sv C 1 rfl) (ma_cons (sv C 2 rfl) (ma_cons (sv C 3 rfl) ma_nil rfl) rfl) rfl) rfl) rfl)))
    (mss_one (ms_expr (me_fn (ok_p_answer T) (hr.mono (by decide)) (C.g 2 rfl) (ma_cons (me_idx (sv C 4 rfl) me_int (fun _ _ => rfl)) (ma_cons (sv C 1 rfl) (ma_cons (sv C 2 rfl) (ma_cons (sv C 3 rfl) ma_nil rfl) rfl) rfl) rfl) rfl))))
    (mss_one (ms_if (mw_and (mt_cmp om_gt (me_callB cm_len (C.g 0 rfl) T.n_len PySem.boot_len (ma_cons (sv C 3 rfl) ma_nil rfl)) me_int (nomark _)) (mw_and1 (mt_isN (me_idx (sv C 3 rfl) (me_neg me_int) (fun _ _ => rfl))))).t
    (mss_one (ms_ret me_bl))
    mss_nil)))))
    (mss_one (ms_ret (me_idx (sv C 3 rfl) (me_neg me_int) (fun _ _ => rfl))))))))
theorem ok_p_takes (T:Tx w K mg):FnAt P w K mg base "takes" 5 2 f_p_takes:=fnAt_of T.d_p_takes rfl fun f fd F => okd_p_takes T F
theorem sc_bytes:FnScope ["_law_packet_here","_law_at","_law_size"] ["_law_packet_here","_law_at","_law_size"] (defScope s_bytes):=⟨rfl,rfl,rfl,by decide +kernel,rfl,by decide +kernel,by decide +kernel⟩
theorem lo_bytes:locB (defScope s_bytes) ["_law_packet_here","_law_at","_law_size"] = true:=by decide +kernel
theorem gl_bytes:glB (defScope s_bytes) ["len","range","sum"] = true:=by decide +kernel
theorem okd_bytes (T:Tx w K mg) {f:Addr} {fd:FuncData} (F:Fun K "_law_bytes" "_law_bytes" s_bytes f fd):FnOk P w K mg base CX0 1 f fd ["_law_packet_here","_law_at","_law_size"] (spM K 3 f_bytes):=by
  refine fnOk_of F sc_bytes rfl rfl fun cdv A outer s H E hr => ?_
  have C:=ct_of (CX:=CX0) (P:=P) (w:=w) (K:=K) (mg:=mg) (base:=base) (outer:=outer) (H:=H) (E:=E) sc_bytes.nd (loc_of lo_bytes) (gl_of gl_bytes) hr
  exact ((mss_cons (ms_if (mt_cmp om_gt (me_bin om_add (sv C 1 rfl) (sv C 2 rfl)) (me_callB cm_len (C.g 0 rfl) T.n_len PySem.boot_len (ma_cons (sv C 0 rfl) ma_nil rfl)) (nomark _))
    (mss_one (ms_ret me_non))
    mss_nil)
    (mss_one (ms_ret (me_callB (cm_sum C.calm) (C.g 2 rfl) T.n_sum PyProof.Rows.boot_sum (ma_cons (me_comp (T:=["_law_k_here"]) (caps:=["_law_packet_here","_law_at","_law_size"]) (ix:=[0,1,2]) (compScope_of (show compB _ (defScope s_bytes) = true by decide +kernel)) (caps_of C.hN (by decide +kernel)) C.calm (mi_range1 (C.g 1 rfl) T.n_range (sv C 2 rfl)) (fun C2 s2 H2 ex2 => have B:blkB _ ["_law_k_here"] ["_law_packet_here","_law_at","_law_size"] [] = true:=(by decide +kernel); have C:=cb_of (C:=C2) (s:=s2) (H:=H2) (ex:=ex2) C.calm C.un (by decide +kernel) B; And.intro (stb C 0 rfl (blk_loc B (j:=0) rfl)) (And.intro mifs_nil (me_bin om_mul (me_idx (svb C 1 rfl) (me_bin om_add (svb C 2 rfl) (svb C 0 rfl)) (fun _ _ => rfl)) (me_idx (me_lst (ma_cons me_int (ma_cons me_int (ma_cons me_int (ma_cons me_int ma_nil rfl) rfl) rfl) rfl)) (me_bin om_sub (me_bin om_sub (svb C 3 rfl) me_int) (svb C 0 rfl)) (fun _ _ => rfl)))))) ma_nil rfl))))))
theorem ok_bytes (T:Tx w K mg):FnAt P w K mg base "_law_bytes" 1 3 f_bytes:=fnAt_of T.d_bytes rfl fun f fd F => okd_bytes T F
theorem sc_reckoned:FnScope ["_law_op_here","_law_one","_law_other","_law_k_here","_law_found","_law_place","_law_two"] ["_law_op_here","_law_one","_law_other"] (defScope s_reckoned):=⟨rfl,rfl,rfl,by decide +kernel,rfl,by decide +kernel,by decide +kernel⟩
theorem lo_reckoned:locB (defScope s_reckoned) ["_law_op_here","_law_one","_law_other","_law_k_here","_law_found","_law_place","_law_two"] = true:=by decide +kernel
theorem gl_reckoned:glB (defScope s_reckoned) ["min","range","int"] = true:=by decide +kernel
theorem okd_reckoned (T:Tx w K mg) {f:Addr} {fd:FuncData} (F:Fun K "_law_reckoned" "_law_reckoned" s_reckoned f fd):FnOk P w K mg base CX0 1 f fd ["_law_op_here","_law_one","_law_other"] (spM K 3 f_reckoned):=by
  refine fnOk_of F sc_reckoned rfl rfl fun cdv A outer s H E hr => ?_
  have C:=ct_of (CX:=CX0) (P:=P) (w:=w) (K:=K) (mg:=mg) (base:=base) (outer:=outer) (H:=H) (E:=E) sc_reckoned.nd (loc_of lo_reckoned) (gl_of gl_reckoned) hr
  exact ((mss_cons (ms_if (mt_cmp (om_in C.un) (sv C 0 rfl) (me_tup (ma_cons (me_str w_over_eq) (ma_cons (me_str w_rest_eq) ma_nil rfl) rfl)) rfl)
    (mss_cons (ms_if (mt_cmp (om_eq C.un) (sv C 2 rfl) me_int (nomark _))
    (mss_one (ms_ret me_non))
    mss_nil)
    (mss_one (ms_ret (me_if (mt_cmp (om_eq C.un) (sv C 0 rfl) (me_str w_over_eq) (nomark _)) (me_bin om_div (sv C 1 rfl) (sv C 2 rfl)) (me_bin om_sub (sv C 1 rfl) (me_bin om_mul (me_bin om_div (sv C 1 rfl) (sv C 2 rfl)) (sv C 2 rfl)))))))
    mss_nil)
    (mss_cons (ms_if (mt_cmp (om_in C.un) (sv C 0 rfl) (me_tup (ma_cons (me_str w_left_eq) (ma_cons (me_str w_right_eq) ma_nil rfl) rfl)) rfl)
    (mss_cons (ms_for PassesOwn.never C.calm (mi_range1 (C.g 1 rfl) T.n_range (me_callB (cm_min C.calm) (C.g 0 rfl) T.n_min PyProof.Rows.boot_min (ma_cons (sv C 2 rfl) (ma_cons me_int ma_nil rfl) rfl))) (st C 3 rfl)
    (mss_one (sa C 1 rfl (me_if (mt_cmp (om_eq C.un) (sv C 0 rfl) (me_str w_left_eq) (nomark _)) (me_bin om_mul (sv C 1 rfl) me_int) (me_bin om_div (sv C 1 rfl) me_int)))))
    (mss_one (ms_ret (me_bin om_mod (sv C 1 rfl) me_int))))
    mss_nil)
    (mss_cons (ms_if (mt_cmp (om_in C.un) (sv C 0 rfl) (me_tup (ma_cons (me_str w_and_eq) (ma_cons (me_str w_or_eq) (ma_cons (me_str w_xor_eq) ma_nil rfl) rfl) rfl)) rfl)
    (mss_cons (sa C 4 rfl me_int)
    (mss_cons (sa C 5 rfl me_int)
    (mss_cons (ms_for PassesOwn.never C.calm (mi_range1 (C.g 1 rfl) T.n_range me_int) (st C 3 rfl)
    (mss_cons (sa C 6 rfl (me_tup (ma_cons (me_bin om_mod (me_bin om_div (sv C 1 rfl) (sv C 5 rfl)) me_int) (ma_cons (me_bin om_mod (me_bin om_div (sv C 2 rfl) (sv C 5 rfl)) me_int) ma_nil rfl) rfl)))
    (mss_cons (sa C 4 rfl (me_bin om_add (sv C 4 rfl) (me_bin om_mul (sv C 5 rfl) (me_callTy cm_int (C.g 2 rfl) T.n_int PyProof.Rows.boot_int (ma_cons (me_dget C.un (me_dic (mps_cons w_and_eq (me_cmp (om_eq C.un) (sv C 6 rfl) (me_tup (ma_cons me_int (ma_cons me_int ma_nil rfl) rfl)) (nomark _)) (mps_cons w_or_eq (me_cmp (om_ne C.un) (sv C 6 rfl) (me_tup (ma_cons me_int (ma_cons me_int ma_nil rfl) rfl)) (nomark _)) (mps_cons w_xor_eq (me_cmp (om_ne C.un) (me_idx (sv C 6 rfl) me_int (fun _ _ => rfl)) (me_idx (sv C 6 rfl) me_int (fun _ _ => rfl)) (nomark _)) mps_nil))) (by decide) rfl rfl (by intro h; cases h) (by decide)) (sv C 0 rfl) (fun _ _ => rfl)) ma_nil rfl)))))
    (mss_one (sa C 5 rfl (me_bin om_mul (sv C 5 rfl) me_int))))))
    (mss_one (ms_ret (sv C 4 rfl))))))
    mss_nil)
    (mss_one (ms_ret (me_bin om_mod (me_dget C.un (me_dic (mps_cons w_plus_eq (me_bin om_add (sv C 1 rfl) (sv C 2 rfl)) (mps_cons w_minus_eq (me_bin om_sub (sv C 1 rfl) (sv C 2 rfl)) (mps_cons w_times_eq (me_bin om_mul (sv C 1 rfl) (sv C 2 rfl)) mps_nil))) (by decide) rfl rfl (by intro h; cases h) (by decide)) (sv C 0 rfl) (fun _ _ => rfl)) me_int)))))))
theorem ok_reckoned (T:Tx w K mg):FnAt P w K mg base "_law_reckoned" 1 3 f_reckoned:=fnAt_of T.d_reckoned rfl fun f fd F => okd_reckoned T F
theorem sc_worth:FnScope ["_law_tree","_law_packet_here","_law_at","_law_one","_law_other"] ["_law_tree","_law_packet_here"] (defScope s_worth):=⟨rfl,rfl,rfl,by decide +kernel,rfl,by decide +kernel,by decide +kernel⟩
theorem lo_worth:locB (defScope s_worth) ["_law_tree","_law_packet_here","_law_at","_law_one","_law_other"] = true:=by decide +kernel
theorem gl_worth:glB (defScope s_worth) ["len","_law_worth","_law_bytes","_law_reckoned"] = true:=by decide +kernel
theorem okg_worth (T:Tx w K mg):∀ k,FnAt P w K mg base "_law_worth" (2 + k) 2 (rc_worth k 0):=by
  intro k
  induction k with
  | zero => exact fnAt_bad T.d_worth rfl
  | succ k ih =>
    have ih0:=ih
    refine fnAt_of T.d_worth rfl fun f fd F => ?_
    · show FnOk P w K mg base CX0 (2 + k + 1) f fd _ (spM K 2 (fnOf 3 (b_worth (rc_worth k))))
      refine fnOk_of F sc_worth rfl rfl fun cdv A outer s H E hr => ?_
      have C:=ct_of (CX:=CX0) (P:=P) (w:=w) (K:=K) (mg:=mg) (base:=base) (outer:=outer) (H:=H) (E:=E) sc_worth.nd (loc_of lo_worth) (gl_of gl_worth) hr
      exact ((mss_cons (ms_if (mt_cmp (om_eq C.un) (me_idx (sv C 0 rfl) me_int (fun _ _ => rfl)) (me_str w_number_eq) (nomark _))
    (mss_one (ms_ret (me_idx (sv C 0 rfl) me_int (fun _ _ => rfl))))
    mss_nil)
    (mss_cons (ms_if (mt_cmp (om_eq C.un) (me_idx (sv C 0 rfl) me_int (fun _ _ => rfl)) (me_str w_len_eq) (nomark _))
    (mss_one (ms_ret (me_callB cm_len (C.g 0 rfl) T.n_len PySem.boot_len (ma_cons (sv C 1 rfl) ma_nil rfl))))
    mss_nil)
    (mss_cons (ms_if (mt_cmp (om_eq C.un) (me_idx (sv C 0 rfl) me_int (fun _ _ => rfl)) (me_str w_load_eq) (nomark _))
    (mss_cons (sa C 2 rfl (me_fn ih0 (hr.mono (by omega)) (C.g 1 rfl) (ma_cons (me_idx (sv C 0 rfl) me_int (fun _ _ => rfl)) (ma_cons (sv C 1 rfl) ma_nil rfl) rfl) rfl))
    (mss_one (ms_ret (me_if (mt_isN (sv C 2 rfl)) me_non (me_fn (ok_bytes T) (hr.mono (by omega)) (C.g 2 rfl) (ma_cons (sv C 1 rfl) (ma_cons (sv C 2 rfl) (ma_cons (me_idx (sv C 0 rfl) me_int (fun _ _ => rfl)) ma_nil rfl) rfl) rfl) rfl)))))
    mss_nil)
    (mss_cons (sa C 3 rfl (me_fn ih0 (hr.mono (by omega)) (C.g 1 rfl) (ma_cons (me_idx (sv C 0 rfl) me_int (fun _ _ => rfl)) (ma_cons (sv C 1 rfl) ma_nil rfl) rfl) rfl))
    (mss_cons (sa C 4 rfl (me_if (mt_isN (sv C 3 rfl)) me_non (me_fn ih0 (hr.mono (by omega)) (C.g 1 rfl) (ma_cons (me_idx (sv C 0 rfl) me_int (fun _ _ => rfl)) (ma_cons (sv C 1 rfl) ma_nil rfl) rfl) rfl)))
    (mss_one (ms_ret (me_if (mt_isN (sv C 4 rfl)) me_non (me_fn (ok_reckoned T) (hr.mono (by omega)) (C.g 3 rfl) (ma_cons (me_idx (sv C 0 rfl) me_int (fun _ _ => rfl)) (ma_cons (sv C 3 rfl) (ma_cons (sv C 4 rfl) ma_nil rfl) rfl) rfl) rfl))))))))))
theorem ok_worth (T:Tx w K mg):FnAt P w K mg base "_law_worth" 14 2 f_worth:=(okg_worth T 12)
theorem sc_says:FnScope ["_law_tree","_law_packet_here","_law_one","_law_other","_law_good"] ["_law_tree","_law_packet_here"] (defScope s_says):=⟨rfl,rfl,rfl,by decide +kernel,rfl,by decide +kernel,by decide +kernel⟩
theorem lo_says:locB (defScope s_says) ["_law_tree","_law_packet_here","_law_one","_law_other","_law_good"] = true:=by decide +kernel
theorem gl_says:glB (defScope s_says) ["int","_law_says","_law_worth"] = true:=by decide +kernel
theorem okg_says (T:Tx w K mg):∀ k,FnAt P w K mg base "_law_says" (15 + k) 2 (rc_says k 0):=by
  intro k
  induction k with
  | zero => exact fnAt_bad T.d_says rfl
  | succ k ih =>
    have ih0:=ih
    refine fnAt_of T.d_says rfl fun f fd F => ?_
    · show FnOk P w K mg base CX0 (15 + k + 1) f fd _ (spM K 2 (fnOf 3 (b_says (rc_says k))))
      refine fnOk_of F sc_says rfl rfl fun cdv A outer s H E hr => ?_
      have C:=ct_of (CX:=CX0) (P:=P) (w:=w) (K:=K) (mg:=mg) (base:=base) (outer:=outer) (H:=H) (E:=E) sc_says.nd (loc_of lo_says) (gl_of gl_says) hr
      exact ((mss_cons (ms_if (mt_cmp (om_eq C.un) (me_idx (sv C 0 rfl) me_int (fun _ _ => rfl)) (me_str w_truth_eq) (nomark _))
    (mss_one (ms_ret (me_callTy cm_int (C.g 0 rfl) T.n_int PyProof.Rows.boot_int (ma_cons (me_idx (sv C 0 rfl) me_int (fun _ _ => rfl)) ma_nil rfl))))
    mss_nil)
    (mss_cons (ms_if (mt_cmp (om_in C.un) (me_idx (sv C 0 rfl) me_int (fun _ _ => rfl)) (me_tup (ma_cons (me_str w_not_eq) (ma_cons (me_str w_both_eq) (ma_cons (me_str w_either_eq) ma_nil rfl) rfl) rfl)) rfl)
    (mss_cons (sa C 2 rfl (me_fn ih0 (hr.mono (by omega)) (C.g 1 rfl) (ma_cons (me_idx (sv C 0 rfl) me_int (fun _ _ => rfl)) (ma_cons (sv C 1 rfl) ma_nil rfl) rfl) rfl))
    (mss_cons (ms_if (mw_or (mt_cmp om_lt (sv C 2 rfl) me_int (nomark _)) (mw_or1 (mt_cmp (om_eq C.un) (me_idx (sv C 0 rfl) me_int (fun _ _ => rfl)) (me_str w_not_eq) (nomark _)))).t
    (mss_one (ms_ret (me_if (mt_cmp om_lt (sv C 2 rfl) me_int (nomark _)) (sv C 2 rfl) (me_bin om_sub me_int (sv C 2 rfl)))))
    mss_nil)
    (mss_one (ms_ret (me_if (mt_cmp (om_eq C.un) (sv C 2 rfl) (me_callTy cm_int (C.g 0 rfl) T.n_int PyProof.Rows.boot_int (ma_cons (me_cmp (om_eq C.un) (me_idx (sv C 0 rfl) me_int (fun _ _ => rfl)) (me_str w_either_eq) (nomark _)) ma_nil rfl)) (nomark _)) (sv C 2 rfl) (me_fn ih0 (hr.mono (by omega)) (C.g 1 rfl) (ma_cons (me_idx (sv C 0 rfl) me_int (fun _ _ => rfl)) (ma_cons (sv C 1 rfl) ma_nil rfl) rfl) rfl))))))
    mss_nil)
    (mss_cons (sa C 2 rfl (me_fn (ok_worth T) (hr.mono (by omega)) (C.g 2 rfl) (ma_cons (me_idx (sv C 0 rfl) me_int (fun _ _ => rfl)) (ma_cons (sv C 1 rfl) ma_nil rfl) rfl) rfl))
    (mss_cons (sa C 3 rfl (me_if (mt_isN (sv C 2 rfl)) me_non (me_fn (ok_worth T) (hr.mono (by omega)) (C.g 2 rfl) (ma_cons (me_idx (sv C 0 rfl) me_int (fun _ _ => rfl)) (ma_cons (sv C 1 rfl) ma_nil rfl) rfl) rfl)))
    (mss_cons (ms_if (mt_isN (sv C 3 rfl))
    (mss_one (ms_ret (me_neg me_int)))
    mss_nil)
    (mss_cons (sa C 4 rfl (me_dicC (mps_cons w_same_eq (me_cmp (om_eq C.un) (sv C 2 rfl) (sv C 3 rfl) (nomark _)) (mps_cons w_unlike_eq (me_cmp (om_ne C.un) (sv C 2 rfl) (sv C 3 rfl) (nomark _)) (mps_cons w_below_eq (me_cmp om_lt (sv C 2 rfl) (sv C 3 rfl) (nomark _)) (mps_cons w_above_eq (me_cmp om_gt (sv C 2 rfl) (sv C 3 rfl) (nomark _)) mps_nil)))) (by decide) rfl rfl (by intro h; cases h) (by decide)))
    (mss_cons (ms_put C.un (sv C 4 rfl) (me_str w_most_eq) (me_cmp om_le (sv C 2 rfl) (sv C 3 rfl) (nomark _)))
    (mss_cons (ms_put C.un (sv C 4 rfl) (me_str w_least_eq) (me_cmp om_ge (sv C 2 rfl) (sv C 3 rfl) (nomark _)))
    (mss_one (ms_ret (me_callTy cm_int (C.g 0 rfl) T.n_int PyProof.Rows.boot_int (ma_cons (me_dget C.un (sv C 4 rfl) (me_idx (sv C 0 rfl) me_int (fun _ _ => rfl)) (fun _ _ => rfl)) ma_nil rfl)))))))))))))
theorem ok_says (T:Tx w K mg):FnAt P w K mg base "_law_says" 27 2 f_says:=(okg_says T 12)
theorem sc_law:FnScope ["_law_script","_law_tree","_law_k_here","_law_packet_here","_law_handed","_law_found"] ["_law_script"] (defScope s_law):=⟨rfl,rfl,rfl,by decide +kernel,rfl,by decide +kernel,by decide +kernel⟩
theorem lo_law:locB (defScope s_law) ["_law_script","_law_tree","_law_k_here","_law_packet_here","_law_handed","_law_found"] = true:=by decide +kernel
theorem gl_law:glB (defScope s_law) ["_law_truth","range","_law_packet","list","takes","isinstance","bool","_law_says"] = true:=by decide +kernel
theorem okd_law (T:Tx w K mg) {f:Addr} {fd:FuncData} (F:Fun K "law" "law" s_law f fd):FnOk P w K mg base CX0 28 f fd ["_law_script"] (spM K 1 f_law):=by
  refine fnOk_of F sc_law rfl rfl fun cdv A outer s H E hr => ?_
  have C:=ct_of (CX:=CX0) (P:=P) (w:=w) (K:=K) (mg:=mg) (base:=base) (outer:=outer) (H:=H) (E:=E) sc_law.nd (loc_of lo_law) (gl_of gl_law) hr
  exact ((mss_cons (sa C 1 rfl (me_fn (ok_truth T) (hr.mono (by decide)) (C.g 0 rfl) (ma_cons (sv C 0 rfl) (ma_cons me_int (ma_cons me_int ma_nil rfl) rfl) rfl) rfl))
    (mss_cons (ms_for PassesOwn.never C.calm (mi_range1 (C.g 1 rfl) T.n_range me_int) (st C 2 rfl)
    (mss_cons (sa C 3 rfl (me_fn (ok_packet T) (hr.mono (by decide)) (C.g 2 rfl) (ma_cons (sv C 0 rfl) (ma_cons (me_bin om_add me_int (me_bin om_mul me_int (sv C 2 rfl))) ma_nil rfl) rfl) rfl))
    (mss_cons (sa C 4 rfl (me_callTy cm_list (C.g 3 rfl) T.n_list M.boot_list (ma_cons (sv C 3 rfl) ma_nil rfl)))
    (mss_cons (sa C 5 rfl (me_fn (ok_p_takes T) (hr.mono (by decide)) (C.g 4 rfl) (ma_cons (sv C 1 rfl) (ma_cons (sv C 4 rfl) ma_nil rfl) rfl) rfl))
    (mss_one (ms_if (mw_or (mt_not (mt_truth (me_isI .bool M.boot_bool (C.g 5 rfl) T.n_isinstance (C.g 6 rfl) T.n_bool (sv C 5 rfl)) (fun _ => rfl))) (mw_or (mt_cmp (om_ne C.un) (sv C 5 rfl) (me_cmp (om_eq C.un) (me_fn (ok_says T) (hr.mono (by decide)) (C.g 7 rfl) (ma_cons (sv C 1 rfl) (ma_cons (sv C 3 rfl) ma_nil rfl) rfl) rfl) me_int (nomark _)) (nomark _)) (mw_or1 (mt_cmp (om_ne C.un) (sv C 4 rfl) (sv C 3 rfl) (nomark _))))).t
    (mss_one (ms_ret me_bl))
    mss_nil))))))
    (mss_one (ms_ret me_bl)))))
theorem finish {fa:Addr} (hmg:mg "law" = some (.ref fa)) (T:Tx w K mg):∃ fd:FuncData,BindsS fd ["_law_script"] ∧ ∀ base:Heap,FnOk P w K mg base CX0 28 fa fd ["_law_script"] (spM K 1 f_law):=by
  obtain ⟨f,fd,h1,h2,h3⟩:=T.d_law
  have e:=hmg.symm.trans h1
  cases e
  exact ⟨fd,h3,fun base => okd_law T h2⟩
theorem mkT {h:Heap} (KX:K.In h) (G:h.Ns mainGlobals mg)
    (n_len:PySem.W.nsIn K mainGlobals "len" = some none)
    (n_range:PySem.W.nsIn K mainGlobals "range" = some none)
    (n_list:PySem.W.nsIn K mainGlobals "list" = some none)
    (n_max:PySem.W.nsIn K mainGlobals "max" = some none)
    (n_isinstance:PySem.W.nsIn K mainGlobals "isinstance" = some none)
    (n_bool:PySem.W.nsIn K mainGlobals "bool" = some none)
    (n_int:PySem.W.nsIn K mainGlobals "int" = some none)
    (n_sum:PySem.W.nsIn K mainGlobals "sum" = some none)
    (n_min:PySem.W.nsIn K mainGlobals "min" = some none)
    {p_OPS:Addr} {t0_OPS t1_OPS t2_OPS t3_OPS t4_OPS t5_OPS t6_OPS t7_OPS t8_OPS t9_OPS:Tok} {od_OPS:Option Addr} {z_OPS:Nat} {sl_OPS:Array (Option Value)}
    (a_OPS:PySem.W.nsIn K mainGlobals "OPS" = some (some (.ref p_OPS)))
    (l_OPS:K.lookup p_OPS = some ⟨.type "tuple",od_OPS,.seq #[.str ⟨w_plus.toArray⟩ t0_OPS,.str ⟨w_minus.toArray⟩ t1_OPS,.str ⟨w_times.toArray⟩ t2_OPS,.str ⟨w_over.toArray⟩ t3_OPS,.str ⟨w_rest.toArray⟩ t4_OPS,.str ⟨w_and.toArray⟩ t5_OPS,.str ⟨w_or.toArray⟩ t6_OPS,.str ⟨w_xor.toArray⟩ t7_OPS,.str ⟨w_left.toArray⟩ t8_OPS,.str ⟨w_right.toArray⟩ t9_OPS] z_OPS,sl_OPS⟩)
    {p_DIVIDING:Addr} {t0_DIVIDING t1_DIVIDING:Tok} {od_DIVIDING:Option Addr} {z_DIVIDING:Nat} {sl_DIVIDING:Array (Option Value)}
    (a_DIVIDING:PySem.W.nsIn K mainGlobals "DIVIDING" = some (some (.ref p_DIVIDING)))
    (l_DIVIDING:K.lookup p_DIVIDING = some ⟨.type "tuple",od_DIVIDING,.seq #[.str ⟨w_over.toArray⟩ t0_DIVIDING,.str ⟨w_rest.toArray⟩ t1_DIVIDING] z_DIVIDING,sl_DIVIDING⟩)
    {t_WIDTH:Tok}
    (a_WIDTH:PySem.W.nsIn K mainGlobals "WIDTH" = some (some (.int 32 t_WIDTH)))
    {t_ROUND:Tok}
    (a_ROUND:PySem.W.nsIn K mainGlobals "ROUND" = some (some (.int 4294967296 t_ROUND)))
    {q_cell:Addr} {oc_cell kV_cell dc_cell pm_cell cd_cell ct_cell:Value} {od_cell an_cell:Option Addr} {os_cell:Array (Option Value)}
    (a_cell:PySem.W.nsIn K mainGlobals "_law_cell" = some (some (.ref q_cell)))
    (l_cell:K.lookup q_cell = some ⟨oc_cell,od_cell,.func (PySem.W.fnOf "_law_cell" "_law_cell" (defArgs s_cell) (defBody s_cell) (defScope s_cell) .none kV_cell dc_cell pm_cell an_cell cd_cell ct_cell),os_cell⟩)
    (c_cell:PySem.W.codeIn K cd_cell "_law_cell" = true)
    (k_cell:PySem.W.keepIn K (.ref q_cell) = true)
    {q_mix:Addr} {oc_mix kV_mix dc_mix pm_mix cd_mix ct_mix:Value} {od_mix an_mix:Option Addr} {os_mix:Array (Option Value)}
    (a_mix:PySem.W.nsIn K mainGlobals "_law_mix" = some (some (.ref q_mix)))
    (l_mix:K.lookup q_mix = some ⟨oc_mix,od_mix,.func (PySem.W.fnOf "_law_mix" "_law_mix" (defArgs s_mix) (defBody s_mix) (defScope s_mix) .none kV_mix dc_mix pm_mix an_mix cd_mix ct_mix),os_mix⟩)
    (c_mix:PySem.W.codeIn K cd_mix "_law_mix" = true)
    (k_mix:PySem.W.keepIn K (.ref q_mix) = true)
    {q_op:Addr} {oc_op kV_op dc_op pm_op cd_op ct_op:Value} {od_op an_op:Option Addr} {os_op:Array (Option Value)}
    (a_op:PySem.W.nsIn K mainGlobals "_law_op" = some (some (.ref q_op)))
    (l_op:K.lookup q_op = some ⟨oc_op,od_op,.func (PySem.W.fnOf "_law_op" "_law_op" (defArgs s_op) (defBody s_op) (defScope s_op) .none kV_op dc_op pm_op an_op cd_op ct_op),os_op⟩)
    (c_op:PySem.W.codeIn K cd_op "_law_op" = true)
    (k_op:PySem.W.keepIn K (.ref q_op) = true)
    {q_number:Addr} {oc_number kV_number dc_number pm_number cd_number ct_number:Value} {od_number an_number:Option Addr} {os_number:Array (Option Value)}
    (a_number:PySem.W.nsIn K mainGlobals "_law_number" = some (some (.ref q_number)))
    (l_number:K.lookup q_number = some ⟨oc_number,od_number,.func (PySem.W.fnOf "_law_number" "_law_number" (defArgs s_number) (defBody s_number) (defScope s_number) .none kV_number dc_number pm_number an_number cd_number ct_number),os_number⟩)
    (c_number:PySem.W.codeIn K cd_number "_law_number" = true)
    (k_number:PySem.W.keepIn K (.ref q_number) = true)
    {q_truth:Addr} {oc_truth kV_truth dc_truth pm_truth cd_truth ct_truth:Value} {od_truth an_truth:Option Addr} {os_truth:Array (Option Value)}
    (a_truth:PySem.W.nsIn K mainGlobals "_law_truth" = some (some (.ref q_truth)))
    (l_truth:K.lookup q_truth = some ⟨oc_truth,od_truth,.func (PySem.W.fnOf "_law_truth" "_law_truth" (defArgs s_truth) (defBody s_truth) (defScope s_truth) .none kV_truth dc_truth pm_truth an_truth cd_truth ct_truth),os_truth⟩)
    (c_truth:PySem.W.codeIn K cd_truth "_law_truth" = true)
    (k_truth:PySem.W.keepIn K (.ref q_truth) = true)
    {q_packet:Addr} {oc_packet kV_packet dc_packet pm_packet cd_packet ct_packet:Value} {od_packet an_packet:Option Addr} {os_packet:Array (Option Value)}
    (a_packet:PySem.W.nsIn K mainGlobals "_law_packet" = some (some (.ref q_packet)))
    (l_packet:K.lookup q_packet = some ⟨oc_packet,od_packet,.func (PySem.W.fnOf "_law_packet" "_law_packet" (defArgs s_packet) (defBody s_packet) (defScope s_packet) .none kV_packet dc_packet pm_packet an_packet cd_packet ct_packet),os_packet⟩)
    (c_packet:PySem.W.codeIn K cd_packet "_law_packet" = true)
    (k_packet:PySem.W.keepIn K (.ref q_packet) = true)
    {q_p_parts_ahead:Addr} {oc_p_parts_ahead kV_p_parts_ahead dc_p_parts_ahead pm_p_parts_ahead cd_p_parts_ahead ct_p_parts_ahead:Value} {od_p_parts_ahead an_p_parts_ahead:Option Addr} {os_p_parts_ahead:Array (Option Value)}
    (a_p_parts_ahead:PySem.W.nsIn K mainGlobals "parts_ahead" = some (some (.ref q_p_parts_ahead)))
    (l_p_parts_ahead:K.lookup q_p_parts_ahead = some ⟨oc_p_parts_ahead,od_p_parts_ahead,.func (PySem.W.fnOf "parts_ahead" "parts_ahead" (defArgs s_p_parts_ahead) (defBody s_p_parts_ahead) (defScope s_p_parts_ahead) .none kV_p_parts_ahead dc_p_parts_ahead pm_p_parts_ahead an_p_parts_ahead cd_p_parts_ahead ct_p_parts_ahead),os_p_parts_ahead⟩)
    (c_p_parts_ahead:PySem.W.codeIn K cd_p_parts_ahead "parts_ahead" = true)
    (k_p_parts_ahead:PySem.W.keepIn K (.ref q_p_parts_ahead) = true)
    {q_p_ask:Addr} {oc_p_ask kV_p_ask dc_p_ask pm_p_ask cd_p_ask ct_p_ask:Value} {od_p_ask an_p_ask:Option Addr} {os_p_ask:Array (Option Value)}
    (a_p_ask:PySem.W.nsIn K mainGlobals "ask" = some (some (.ref q_p_ask)))
    (l_p_ask:K.lookup q_p_ask = some ⟨oc_p_ask,od_p_ask,.func (PySem.W.fnOf "ask" "ask" (defArgs s_p_ask) (defBody s_p_ask) (defScope s_p_ask) .none kV_p_ask dc_p_ask pm_p_ask an_p_ask cd_p_ask ct_p_ask),os_p_ask⟩)
    (c_p_ask:PySem.W.codeIn K cd_p_ask "ask" = true)
    (k_p_ask:PySem.W.keepIn K (.ref q_p_ask) = true)
    {q_p_loaded:Addr} {oc_p_loaded kV_p_loaded dc_p_loaded pm_p_loaded cd_p_loaded ct_p_loaded:Value} {od_p_loaded an_p_loaded:Option Addr} {os_p_loaded:Array (Option Value)}
    (a_p_loaded:PySem.W.nsIn K mainGlobals "loaded" = some (some (.ref q_p_loaded)))
    (l_p_loaded:K.lookup q_p_loaded = some ⟨oc_p_loaded,od_p_loaded,.func (PySem.W.fnOf "loaded" "loaded" (defArgs s_p_loaded) (defBody s_p_loaded) (defScope s_p_loaded) .none kV_p_loaded dc_p_loaded pm_p_loaded an_p_loaded cd_p_loaded ct_p_loaded),os_p_loaded⟩)
    (c_p_loaded:PySem.W.codeIn K cd_p_loaded "loaded" = true)
    (k_p_loaded:PySem.W.keepIn K (.ref q_p_loaded) = true)
    {q_p_answer_joined:Addr} {oc_p_answer_joined kV_p_answer_joined dc_p_answer_joined pm_p_answer_joined cd_p_answer_joined ct_p_answer_joined:Value} {od_p_answer_joined an_p_answer_joined:Option Addr} {os_p_answer_joined:Array (Option Value)}
    (a_p_answer_joined:PySem.W.nsIn K mainGlobals "answer_joined" = some (some (.ref q_p_answer_joined)))
    (l_p_answer_joined:K.lookup q_p_answer_joined = some ⟨oc_p_answer_joined,od_p_answer_joined,.func (PySem.W.fnOf "answer_joined" "answer_joined" (defArgs s_p_answer_joined) (defBody s_p_answer_joined) (defScope s_p_answer_joined) .none kV_p_answer_joined dc_p_answer_joined pm_p_answer_joined an_p_answer_joined cd_p_answer_joined ct_p_answer_joined),os_p_answer_joined⟩)
    (c_p_answer_joined:PySem.W.codeIn K cd_p_answer_joined "answer_joined" = true)
    (k_p_answer_joined:PySem.W.keepIn K (.ref q_p_answer_joined) = true)
    {q_p_shifted:Addr} {oc_p_shifted kV_p_shifted dc_p_shifted pm_p_shifted cd_p_shifted ct_p_shifted:Value} {od_p_shifted an_p_shifted:Option Addr} {os_p_shifted:Array (Option Value)}
    (a_p_shifted:PySem.W.nsIn K mainGlobals "shifted" = some (some (.ref q_p_shifted)))
    (l_p_shifted:K.lookup q_p_shifted = some ⟨oc_p_shifted,od_p_shifted,.func (PySem.W.fnOf "shifted" "shifted" (defArgs s_p_shifted) (defBody s_p_shifted) (defScope s_p_shifted) .none kV_p_shifted dc_p_shifted pm_p_shifted an_p_shifted cd_p_shifted ct_p_shifted),os_p_shifted⟩)
    (c_p_shifted:PySem.W.codeIn K cd_p_shifted "shifted" = true)
    (k_p_shifted:PySem.W.keepIn K (.ref q_p_shifted) = true)
    {q_p_plainly_reckoned:Addr} {oc_p_plainly_reckoned kV_p_plainly_reckoned dc_p_plainly_reckoned pm_p_plainly_reckoned cd_p_plainly_reckoned ct_p_plainly_reckoned:Value} {od_p_plainly_reckoned an_p_plainly_reckoned:Option Addr} {os_p_plainly_reckoned:Array (Option Value)}
    (a_p_plainly_reckoned:PySem.W.nsIn K mainGlobals "plainly_reckoned" = some (some (.ref q_p_plainly_reckoned)))
    (l_p_plainly_reckoned:K.lookup q_p_plainly_reckoned = some ⟨oc_p_plainly_reckoned,od_p_plainly_reckoned,.func (PySem.W.fnOf "plainly_reckoned" "plainly_reckoned" (defArgs s_p_plainly_reckoned) (defBody s_p_plainly_reckoned) (defScope s_p_plainly_reckoned) .none kV_p_plainly_reckoned dc_p_plainly_reckoned pm_p_plainly_reckoned an_p_plainly_reckoned cd_p_plainly_reckoned ct_p_plainly_reckoned),os_p_plainly_reckoned⟩)
    (c_p_plainly_reckoned:PySem.W.codeIn K cd_p_plainly_reckoned "plainly_reckoned" = true)
    (k_p_plainly_reckoned:PySem.W.keepIn K (.ref q_p_plainly_reckoned) = true)
    {q_p_reckoned:Addr} {oc_p_reckoned kV_p_reckoned dc_p_reckoned pm_p_reckoned cd_p_reckoned ct_p_reckoned:Value} {od_p_reckoned an_p_reckoned:Option Addr} {os_p_reckoned:Array (Option Value)}
    (a_p_reckoned:PySem.W.nsIn K mainGlobals "reckoned" = some (some (.ref q_p_reckoned)))
    (l_p_reckoned:K.lookup q_p_reckoned = some ⟨oc_p_reckoned,od_p_reckoned,.func (PySem.W.fnOf "reckoned" "reckoned" (defArgs s_p_reckoned) (defBody s_p_reckoned) (defScope s_p_reckoned) .none kV_p_reckoned dc_p_reckoned pm_p_reckoned an_p_reckoned cd_p_reckoned ct_p_reckoned),os_p_reckoned⟩)
    (c_p_reckoned:PySem.W.codeIn K cd_p_reckoned "reckoned" = true)
    (k_p_reckoned:PySem.W.keepIn K (.ref q_p_reckoned) = true)
    {q_p_compared:Addr} {oc_p_compared kV_p_compared dc_p_compared pm_p_compared cd_p_compared ct_p_compared:Value} {od_p_compared an_p_compared:Option Addr} {os_p_compared:Array (Option Value)}
    (a_p_compared:PySem.W.nsIn K mainGlobals "compared" = some (some (.ref q_p_compared)))
    (l_p_compared:K.lookup q_p_compared = some ⟨oc_p_compared,od_p_compared,.func (PySem.W.fnOf "compared" "compared" (defArgs s_p_compared) (defBody s_p_compared) (defScope s_p_compared) .none kV_p_compared dc_p_compared pm_p_compared an_p_compared cd_p_compared ct_p_compared),os_p_compared⟩)
    (c_p_compared:PySem.W.codeIn K cd_p_compared "compared" = true)
    (k_p_compared:PySem.W.keepIn K (.ref q_p_compared) = true)
    {q_p_answer:Addr} {oc_p_answer kV_p_answer dc_p_answer pm_p_answer cd_p_answer ct_p_answer:Value} {od_p_answer an_p_answer:Option Addr} {os_p_answer:Array (Option Value)}
    (a_p_answer:PySem.W.nsIn K mainGlobals "answer" = some (some (.ref q_p_answer)))
    (l_p_answer:K.lookup q_p_answer = some ⟨oc_p_answer,od_p_answer,.func (PySem.W.fnOf "answer" "answer" (defArgs s_p_answer) (defBody s_p_answer) (defScope s_p_answer) .none kV_p_answer dc_p_answer pm_p_answer an_p_answer cd_p_answer ct_p_answer),os_p_answer⟩)
    (c_p_answer:PySem.W.codeIn K cd_p_answer "answer" = true)
    (k_p_answer:PySem.W.keepIn K (.ref q_p_answer) = true)
    {q_p_takes:Addr} {oc_p_takes kV_p_takes dc_p_takes pm_p_takes cd_p_takes ct_p_takes:Value} {od_p_takes an_p_takes:Option Addr} {os_p_takes:Array (Option Value)}
    (a_p_takes:PySem.W.nsIn K mainGlobals "takes" = some (some (.ref q_p_takes)))
    (l_p_takes:K.lookup q_p_takes = some ⟨oc_p_takes,od_p_takes,.func (PySem.W.fnOf "takes" "takes" (defArgs s_p_takes) (defBody s_p_takes) (defScope s_p_takes) .none kV_p_takes dc_p_takes pm_p_takes an_p_takes cd_p_takes ct_p_takes),os_p_takes⟩)
    (c_p_takes:PySem.W.codeIn K cd_p_takes "takes" = true)
    (k_p_takes:PySem.W.keepIn K (.ref q_p_takes) = true)
    {q_bytes:Addr} {oc_bytes kV_bytes dc_bytes pm_bytes cd_bytes ct_bytes:Value} {od_bytes an_bytes:Option Addr} {os_bytes:Array (Option Value)}
    (a_bytes:PySem.W.nsIn K mainGlobals "_law_bytes" = some (some (.ref q_bytes)))
    (l_bytes:K.lookup q_bytes = some ⟨oc_bytes,od_bytes,.func (PySem.W.fnOf "_law_bytes" "_law_bytes" (defArgs s_bytes) (defBody s_bytes) (defScope s_bytes) .none kV_bytes dc_bytes pm_bytes an_bytes cd_bytes ct_bytes),os_bytes⟩)
    (c_bytes:PySem.W.codeIn K cd_bytes "_law_bytes" = true)
    (k_bytes:PySem.W.keepIn K (.ref q_bytes) = true)
    {q_reckoned:Addr} {oc_reckoned kV_reckoned dc_reckoned pm_reckoned cd_reckoned ct_reckoned:Value} {od_reckoned an_reckoned:Option Addr} {os_reckoned:Array (Option Value)}
    (a_reckoned:PySem.W.nsIn K mainGlobals "_law_reckoned" = some (some (.ref q_reckoned)))
    (l_reckoned:K.lookup q_reckoned = some ⟨oc_reckoned,od_reckoned,.func (PySem.W.fnOf "_law_reckoned" "_law_reckoned" (defArgs s_reckoned) (defBody s_reckoned) (defScope s_reckoned) .none kV_reckoned dc_reckoned pm_reckoned an_reckoned cd_reckoned ct_reckoned),os_reckoned⟩)
    (c_reckoned:PySem.W.codeIn K cd_reckoned "_law_reckoned" = true)
    (k_reckoned:PySem.W.keepIn K (.ref q_reckoned) = true)
    {q_worth:Addr} {oc_worth kV_worth dc_worth pm_worth cd_worth ct_worth:Value} {od_worth an_worth:Option Addr} {os_worth:Array (Option Value)}
    (a_worth:PySem.W.nsIn K mainGlobals "_law_worth" = some (some (.ref q_worth)))
    (l_worth:K.lookup q_worth = some ⟨oc_worth,od_worth,.func (PySem.W.fnOf "_law_worth" "_law_worth" (defArgs s_worth) (defBody s_worth) (defScope s_worth) .none kV_worth dc_worth pm_worth an_worth cd_worth ct_worth),os_worth⟩)
    (c_worth:PySem.W.codeIn K cd_worth "_law_worth" = true)
    (k_worth:PySem.W.keepIn K (.ref q_worth) = true)
    {q_says:Addr} {oc_says kV_says dc_says pm_says cd_says ct_says:Value} {od_says an_says:Option Addr} {os_says:Array (Option Value)}
    (a_says:PySem.W.nsIn K mainGlobals "_law_says" = some (some (.ref q_says)))
    (l_says:K.lookup q_says = some ⟨oc_says,od_says,.func (PySem.W.fnOf "_law_says" "_law_says" (defArgs s_says) (defBody s_says) (defScope s_says) .none kV_says dc_says pm_says an_says cd_says ct_says),os_says⟩)
    (c_says:PySem.W.codeIn K cd_says "_law_says" = true)
    (k_says:PySem.W.keepIn K (.ref q_says) = true)
    {q_law:Addr} {oc_law kV_law dc_law pm_law cd_law ct_law:Value} {od_law an_law:Option Addr} {os_law:Array (Option Value)}
    (a_law:PySem.W.nsIn K mainGlobals "law" = some (some (.ref q_law)))
    (l_law:K.lookup q_law = some ⟨oc_law,od_law,.func (PySem.W.fnOf "law" "law" (defArgs s_law) (defBody s_law) (defScope s_law) .none kV_law dc_law pm_law an_law cd_law ct_law),os_law⟩)
    (c_law:PySem.W.codeIn K cd_law "law" = true)
    (k_law:PySem.W.keepIn K (.ref q_law) = true):Tx w K mg :=
  ⟨PySem.W.mg_none_of KX G n_len,
   PySem.W.mg_none_of KX G n_range,
   PySem.W.mg_none_of KX G n_list,
   PySem.W.mg_none_of KX G n_max,
   PySem.W.mg_none_of KX G n_isinstance,
   PySem.W.mg_none_of KX G n_bool,
   PySem.W.mg_none_of KX G n_int,
   PySem.W.mg_none_of KX G n_sum,
   PySem.W.mg_none_of KX G n_min,
   const_tup (vs:=[.str ⟨w_plus.toArray⟩,.str ⟨w_minus.toArray⟩,.str ⟨w_times.toArray⟩,.str ⟨w_over.toArray⟩,.str ⟨w_rest.toArray⟩,.str ⟨w_and.toArray⟩,.str ⟨w_or.toArray⟩,.str ⟨w_xor.toArray⟩,.str ⟨w_left.toArray⟩,.str ⟨w_right.toArray⟩]) KX G a_OPS l_OPS (by show 10 ≤ 16777216; decide) (.cons ⟨_,rfl⟩ (.cons ⟨_,rfl⟩ (.cons ⟨_,rfl⟩ (.cons ⟨_,rfl⟩ (.cons ⟨_,rfl⟩ (.cons ⟨_,rfl⟩ (.cons ⟨_,rfl⟩ (.cons ⟨_,rfl⟩ (.cons ⟨_,rfl⟩ (.cons ⟨_,rfl⟩ .nil)))))))))) (fun F α => (reps_cons (by unfold Rep; rfl) (reps_cons (by unfold Rep; rfl) (reps_cons (by unfold Rep; rfl) (reps_cons (by unfold Rep; rfl) (reps_cons (by unfold Rep; rfl) (reps_cons (by unfold Rep; rfl) (reps_cons (by unfold Rep; rfl) (reps_cons (by unfold Rep; rfl) (reps_cons (by unfold Rep; rfl) (reps_cons (by unfold Rep; rfl) reps_nil))))))))))),
   const_tup (vs:=[.str ⟨w_over.toArray⟩,.str ⟨w_rest.toArray⟩]) KX G a_DIVIDING l_DIVIDING (by show 2 ≤ 16777216; decide) (.cons ⟨_,rfl⟩ (.cons ⟨_,rfl⟩ .nil)) (fun F α => (reps_cons (by unfold Rep; rfl) (reps_cons (by unfold Rep; rfl) reps_nil))),
   const_int KX G a_WIDTH,
   const_int KX G a_ROUND,
   def_mk KX G a_cell l_cell c_cell k_cell (fun us hl => by obtain ⟨_,_,rfl⟩:=len_2 hl; rfl),
   def_mk KX G a_mix l_mix c_mix k_mix (fun us hl => by obtain ⟨_,_,rfl⟩:=len_2 hl; rfl),
   def_mk KX G a_op l_op c_op k_op (fun us hl => by obtain ⟨_,rfl⟩:=len_1 hl; rfl),
   def_mk KX G a_number l_number c_number k_number (fun us hl => by obtain ⟨_,_,_,rfl⟩:=len_3 hl; rfl),
   def_mk KX G a_truth l_truth c_truth k_truth (fun us hl => by obtain ⟨_,_,_,rfl⟩:=len_3 hl; rfl),
   def_mk KX G a_packet l_packet c_packet k_packet (fun us hl => by obtain ⟨_,_,rfl⟩:=len_2 hl; rfl),
   def_mk KX G a_p_parts_ahead l_p_parts_ahead c_p_parts_ahead k_p_parts_ahead (fun us hl => by obtain ⟨_,rfl⟩:=len_1 hl; rfl),
   def_mk KX G a_p_ask l_p_ask c_p_ask k_p_ask (fun us hl => by obtain ⟨_,_,_,_,rfl⟩:=len_4 hl; rfl),
   def_mk KX G a_p_loaded l_p_loaded c_p_loaded k_p_loaded (fun us hl => by obtain ⟨_,_,_,rfl⟩:=len_3 hl; rfl),
   def_mk KX G a_p_answer_joined l_p_answer_joined c_p_answer_joined k_p_answer_joined (fun us hl => by obtain ⟨_,_,_,_,rfl⟩:=len_4 hl; rfl),
   def_mk KX G a_p_shifted l_p_shifted c_p_shifted k_p_shifted (fun us hl => by obtain ⟨_,_,_,rfl⟩:=len_3 hl; rfl),
   def_mk KX G a_p_plainly_reckoned l_p_plainly_reckoned c_p_plainly_reckoned k_p_plainly_reckoned (fun us hl => by obtain ⟨_,_,_,rfl⟩:=len_3 hl; rfl),
   def_mk KX G a_p_reckoned l_p_reckoned c_p_reckoned k_p_reckoned (fun us hl => by obtain ⟨_,_,_,rfl⟩:=len_3 hl; rfl),
   def_mk KX G a_p_compared l_p_compared c_p_compared k_p_compared (fun us hl => by obtain ⟨_,_,_,rfl⟩:=len_3 hl; rfl),
   def_mk KX G a_p_answer l_p_answer c_p_answer k_p_answer (fun us hl => by obtain ⟨_,_,_,_,rfl⟩:=len_4 hl; rfl),
   def_mk KX G a_p_takes l_p_takes c_p_takes k_p_takes (fun us hl => by obtain ⟨_,_,rfl⟩:=len_2 hl; rfl),
   def_mk KX G a_bytes l_bytes c_bytes k_bytes (fun us hl => by obtain ⟨_,_,_,rfl⟩:=len_3 hl; rfl),
   def_mk KX G a_reckoned l_reckoned c_reckoned k_reckoned (fun us hl => by obtain ⟨_,_,_,rfl⟩:=len_3 hl; rfl),
   def_mk KX G a_worth l_worth c_worth k_worth (fun us hl => by obtain ⟨_,_,rfl⟩:=len_2 hl; rfl),
   def_mk KX G a_says l_says c_says k_says (fun us hl => by obtain ⟨_,_,rfl⟩:=len_2 hl; rfl),
   def_mk KX G a_law l_law c_law k_law (fun us hl => by obtain ⟨_,rfl⟩:=len_1 hl; rfl)⟩
end
end K13
set_option Elab.async false
set_option linter.all false
set_option maxRecDepth 100000
set_option maxHeartbeats 400000
namespace K13
open PySem PySem.Spec PyProof.Rows L2 M
noncomputable def opL:List (List Nat):=[w_plus,w_minus,w_times,w_over,w_rest,w_and,w_or,w_xor,w_left,w_right]
noncomputable def cell (ns:List Int) (k:Nat):Int:=if ns = [] then 0 else ns.getD (k % ns.length) 0
noncomputable def sc (ns:List Int):D:=.lst (ns.map .int)
theorem cell_eq (ns:List Int) (k:Nat) (μ:Mu):f_cell [sc ns,.int k] μ = .ok (.int (cell ns k)) μ:=by
  cases ns with
  | nil => rfl
  | cons n r =>
    refine v_fn 0 (v_take rfl (v_bin rfl (v_bin rfl (v_callB (d:=.int (List.map D.int (n :: r)).length) rfl rfl) (g_mod _ _ ?_)) ?_))
    · rw [List.length_map,List.length_cons]; omega
    · show atI ((n :: r).map D.int) ((k:Int) % ((List.map D.int (n :: r)).length:Nat)) = _
      rw [atI_pos (Int.emod_nonneg _ (by rw [List.length_map,List.length_cons]; omega))]
      have e2:((k:Int) % ((List.map D.int (n :: r)).length:Nat)).toNat = k % (n :: r).length:=by
        rw [List.length_map]
        omega
      have hk:k % (n :: r).length < (n :: r).length:=Nat.mod_lt _ (by simp)
      rw [e2,List.getElem?_map,List.getElem?_eq_getElem hk]
      simp only [cell,reduceCtorEq,if_false,Option.map_some]
      rw [List.getD_eq_getElem?_getD,List.getElem?_eq_getElem hk]
      rfl
noncomputable def mixv (c:Int) (k:Nat):Int:=(c + 104729 * ((k:Int) + 1)) % 4294967291 * 48271 % 4294967279
noncomputable def mix (ns:List Int) (k:Nat):Int:=(mixv (cell ns k) k / 64 * 69621 + mixv (cell ns k) k) % 4294967231
theorem mix_eq (ns:List Int) (k:Nat) (μ:Mu):f_mix [sc ns,.int k] μ = .ok (.int (mix ns k)) μ:=by
  refine v_fn 1 ((v_set 2 (d:=.int ((cell ns k + 104729 * ((k:Int) + 1)) % 4294967291)) (v_bin (v_bin (v_call rfl (cell_eq ns k μ)) (v_bin rfl (v_bin rfl rfl rfl) (g_mulL _ _ (by decide) (by decide))) rfl) rfl (g_mod _ _ (by decide)))).trans
    ((v_set 2 (d:=.int (mixv (cell ns k) k)) (v_bin (v_bin rfl rfl (g_mulR _ _ (by decide) (by decide))) rfl (g_mod _ _ (by decide)))).trans (v_ret ?_)))
  exact v_bin (x:=.int (mixv (cell ns k) k / 64 * 69621 + mixv (cell ns k) k)) (v_bin (x:=.int (mixv (cell ns k) k / 64 * 69621)) (v_bin (x:=.int (mixv (cell ns k) k / 64)) (v_bin (x:=.int (mixv (cell ns k) k)) rfl rfl (g_div _ _ (by decide) (by decide))) rfl (g_mulR _ _ (by decide) (by decide))) rfl rfl) rfl (g_mod _ _ (by decide))
theorem mix_lo (ns:List Int) (k:Nat):0 ≤ mix ns k:=Int.emod_nonneg _ (by decide)
noncomputable def opw (n:Int):List Nat:=opL.getD (n % 10).toNat []
theorem opw_mem (n:Int):opw n ∈ opL:=by
  unfold opw
  have hk:(n % 10).toNat < opL.length:=by show _ < 10; omega
  rw [List.getD_eq_getElem?_getD,List.getElem?_eq_getElem hk]
  exact List.getElem_mem hk
theorem op_eq (n:Int) (μ:Mu):f_op [.int n] μ = .ok (.str (opw n)) μ:=by
  have hk:(n % 10).toNat < opL.length:=by show _ < 10; omega
  refine v_fn 0 (v_ret (v_bin (x:=.lst (opL.map .str)) rfl (v_bin rfl rfl (g_mod _ _ (by decide))) ?_))
  show atI (opL.map D.str) (n % 10) = _
  unfold opw
  rw [atI_pos (by omega),List.getElem?_map,List.getElem?_eq_getElem hk,List.getD_eq_getElem?_getD,List.getElem?_eq_getElem hk]
  rfl
theorem op_all {P:List Nat → Prop} (h:P w_plus ∧ P w_minus ∧ P w_times ∧ P w_over ∧ P w_rest ∧ P w_and ∧ P w_or ∧ P w_xor ∧ P w_left ∧ P w_right):∀ x ∈ opL,P x:=by
  intro x hx
  simp only [opL,List.mem_cons,List.not_mem_nil,or_false] at hx
  obtain ⟨h1,h2,h3,h4,h5,h6,h7,h8,h9,h10⟩:=h
  rcases hx with rfl | rfl | rfl | rfl | rfl | rfl | rfl | rfl | rfl | rfl <;> assumption
noncomputable def iL (L:List Nat):List D:=L.map fun (g:Nat) => D.int g
theorem v_nx {ρ:En} {μ μ1:Mu} {i:Nat} {n:MSt} {d:D} {ds:List D} {ρ1:En} (h:n (ρ.set i (some d)) μ = .ok (.nx ρ1) μ1):forGo (gN i) n (d :: ds) ρ μ = forGo (gN i) n ds ρ1 μ1:=v_forN i h
theorem v_drop {m:MX} {ρ:En} {μ μ1:Mu} {d:D} (h:m ρ μ = .ok d μ1):mDrop m ρ μ = .ok (.nx ρ) μ1:=by unfold mDrop; rw [h]; rfl
theorem v_for {tg:MG} {it:MIt} {n:MSt} {ρ:En} {μ μ1:Mu} {ds:List D} (h:it ρ μ = .ok ds μ1):mFor tg it n ρ μ = forGo tg n ds ρ μ1:=by rw [e_for,h]; rfl
theorem v_over {m:MX} {ρ:En} {μ μ1:Mu} {ds:List D} (h:m ρ μ = .ok (.lst ds) μ1):mOverL m ρ μ = .ok ds μ1:=by rw [e_overL,h]; rfl
theorem v_range {m:MX} {ρ:En} {μ:Mu} {n:Nat} (h:m ρ μ = .ok (.int n) μ) (hn:n < 1000000):mRange1 m ρ μ = .ok (iL (List.range' 0 n)) μ:=by
  rw [e_range1,h,bind_ok,e_kRange1]
  unfold asRange
  dsimp only
  rw [if_pos (by constructor <;> omega),Int.toNat_natCast,ofO_some]
  unfold rangeD
  rw [List.range_eq_range']
  rfl
theorem at_code {ds:List D} {p:Nat} {d:D} (h:ds[p]? = some d):gIdx (.lst ds) (.int p) = some d:=by
  show atI ds (p:Int) = _
  rw [atI_pos (by omega),Int.toNat_natCast,h]
theorem iL_cons (p m:Nat):iL (List.range' p (m + 1)) = D.int p :: iL (List.range' (p + 1) m):=by rw [List.range'_succ]; rfl
theorem v_notV {m:MX} {ρ:En} {μ μ1:Mu} {k:Bool} (h:m ρ μ = .ok (.bl k) μ1):mNotV m ρ μ = .ok (.bl (!k)) μ1:=by unfold mNotV; rw [h]; rfl
theorem v_fnN (j:Nat) {n:MSt} {ds:List D} {μ μ1:Mu} {ρ1:En} (h:n (ds.map some ++ List.replicate j none) μ = .ok (.nx ρ1) μ1):fnOf j n ds μ = .ok .non μ1:=by rw [e_fnOf,h]; rfl
theorem v_comp {tg:MG} {m:MX} {d x:D} {ds acc:List D} {ρ ρ1:En} {μ:Mu} (ht:tg d ρ = some ρ1) (hm:m ρ1 μ = .ok x μ):compGo tg mTT m (d :: ds) ρ μ acc = compGo tg mTT m ds ρ1 μ (acc ++ [x]):=by
  rw [compGo,ht]
  show (noX (m ρ1 μ)).bind _ = _
  rw [hm]
  rfl
theorem mix_at (ns:List Int) (k:Nat) {i:Int} (h:i = k) (μ:Mu):f_mix [sc ns,.int i] μ = .ok (.int (mix ns k)) μ:=by rw [h]; exact mix_eq ns k μ
theorem v_div {x:Nat} {n j:Int} {μ:Mu} (h:ρ[x]? = some (some (.int n))) (h1:0 < j) (h2:j < 18446744073709551616):mBin gDiv (mVar x) (mC (.int j)) ρ μ = .ok (.int (n / j)) μ:=v_bin (v_var x h) rfl (g_div _ _ h1 h2)
theorem v_mod {i j:Int} {μ:Mu} (h:m ρ μ = .ok (.int i) μ) (h1:0 < j):mBin gMod m (mC (.int j)) ρ μ = .ok (.int (i % j)) μ:=v_bin h rfl (g_mod _ _ h1)
end K13
set_option Elab.async false
set_option linter.all false
set_option maxRecDepth 100000
set_option maxHeartbeats 4000000
namespace K13
open PySem PySem.Spec PyProof.Rows L2 M
local macro_rules | `(tactic| walk_at "ev") => `(tactic| simp only [e_bin,e_bin1,e_bin2,e_var0,e_varS,e_c,e_test,e_kTest,e_ch,e_ch1,e_ch2,e_ch3,e_isN,e_notN,e_kIsN,e_kNotN,e_tru,e_kTru,e_and,e_or,e_not,e_kAnd,e_kOr,e_kNot,e_andV,e_orV,e_notV,e_kAndV,e_kOrV,e_kNotV,e_if,e_kIf,e_nil,e_cons,e_cons1,e_cons2,e_tup,e_lst,e_dic,e_kTup,e_kLst,e_kDic,e_callB,e_kCallB,e_isI,e_kIsI,e_call,e_kCall,e_neg,e_kNeg,e_skip,e_seq,e_kSeqN,e_kSeqR,e_kSeqB,e_kSeqC,e_ret,e_kRet,e_retN,e_drop,e_kDrop,e_set,e_kSet,e_ite,e_kIte,e_for,e_kFor,e_range1,e_kRange1,e_overL,e_overT,e_kOverL,e_kOverT,e_kFinR,e_kFinN,e_fnOf,bind_ok,bind_exc,bind_bad,ofO_some,ofO_none,noX_ok,deref_non,deref_bl,deref_int,deref_str,deref_tup,deref_lst,deref_dic,List.map_cons,List.map_nil,List.cons_append,List.nil_append,List.replicate_succ,List.replicate_zero,List.append_nil,List.set_cons_zero,List.set_cons_succ,g_add,g_sub,g_mulL,g_mulR,g_div,g_mod,g_and,g_or,g_xor,g_lt,g_le,g_gt,g_ge,g_eqI,g_neI,g_eqB,g_idxL,g_idxT,g_lenL,g_lenT,g_max,g_min,g_intB,g_intI,if_true,if_false,Int.reduceLT,Int.reduceNeg,truD,isN,Bool.not_true,Bool.not_false,decide_true,decide_false,Bool.false_eq_true,reduceIte,Option.map_some,Option.bind_some,List.isEmpty_nil,List.isEmpty_cons])
local macro_rules | `(tactic| walk_at "evh") => `(tactic| simp only [*,e_bin,e_bin1,e_bin2,e_var0,e_varS,e_c,e_test,e_kTest,e_ch,e_ch1,e_ch2,e_ch3,e_isN,e_notN,e_kIsN,e_kNotN,e_tru,e_kTru,e_and,e_or,e_not,e_kAnd,e_kOr,e_kNot,e_andV,e_orV,e_notV,e_kAndV,e_kOrV,e_kNotV,e_if,e_kIf,e_nil,e_cons,e_cons1,e_cons2,e_tup,e_lst,e_dic,e_kTup,e_kLst,e_kDic,e_callB,e_kCallB,e_isI,e_kIsI,e_call,e_kCall,e_neg,e_kNeg,e_skip,e_seq,e_kSeqN,e_kSeqR,e_kSeqB,e_kSeqC,e_ret,e_kRet,e_retN,e_drop,e_kDrop,e_set,e_kSet,e_ite,e_kIte,e_for,e_kFor,e_range1,e_kRange1,e_overL,e_overT,e_kOverL,e_kOverT,e_kFinR,e_kFinN,e_fnOf,bind_ok,bind_exc,bind_bad,ofO_some,ofO_none,noX_ok,deref_non,deref_bl,deref_int,deref_str,deref_tup,deref_lst,deref_dic,List.map_cons,List.map_nil,List.cons_append,List.nil_append,List.replicate_succ,List.replicate_zero,List.append_nil,List.set_cons_zero,List.set_cons_succ,g_add,g_sub,g_mulL,g_mulR,g_div,g_mod,g_and,g_or,g_xor,g_lt,g_le,g_gt,g_ge,g_eqI,g_neI,g_eqB,g_idxL,g_idxT,g_lenL,g_lenT,g_max,g_min,g_intB,g_intI,if_true,if_false,Int.reduceLT,Int.reduceNeg,truD,isN,Bool.not_true,Bool.not_false,decide_true,decide_false,Bool.false_eq_true,reduceIte,Option.map_some,Option.bind_some,List.isEmpty_nil,List.isEmpty_cons])
local macro_rules | `(tactic| walk_at "evd") => `(tactic| simp (config:={decide:=true}) only [g_eqS,g_neS,beq_self_eq_true,e_bin,e_bin1,e_bin2,e_var0,e_varS,e_c,e_test,e_kTest,e_ch,e_ch1,e_ch2,e_ch3,e_isN,e_notN,e_kIsN,e_kNotN,e_tru,e_kTru,e_and,e_or,e_not,e_kAnd,e_kOr,e_kNot,e_andV,e_orV,e_notV,e_kAndV,e_kOrV,e_kNotV,e_if,e_kIf,e_nil,e_cons,e_cons1,e_cons2,e_tup,e_lst,e_dic,e_kTup,e_kLst,e_kDic,e_callB,e_kCallB,e_isI,e_kIsI,e_call,e_kCall,e_neg,e_kNeg,e_skip,e_seq,e_kSeqN,e_kSeqR,e_kSeqB,e_kSeqC,e_ret,e_kRet,e_retN,e_drop,e_kDrop,e_set,e_kSet,e_ite,e_kIte,e_for,e_kFor,e_range1,e_kRange1,e_overL,e_overT,e_kOverL,e_kOverT,e_kFinR,e_kFinN,e_fnOf,bind_ok,bind_exc,bind_bad,ofO_some,ofO_none,noX_ok,deref_non,deref_bl,deref_int,deref_str,deref_tup,deref_lst,deref_dic,List.map_cons,List.map_nil,List.cons_append,List.nil_append,List.replicate_succ,List.replicate_zero,List.append_nil,List.set_cons_zero,List.set_cons_succ,g_add,g_sub,g_mulL,g_mulR,g_div,g_mod,g_and,g_or,g_xor,g_lt,g_le,g_gt,g_ge,g_eqI,g_neI,g_eqB,g_idxL,g_idxT,g_lenL,g_lenT,g_max,g_min,g_intB,g_intI,if_true,if_false,Int.reduceLT,Int.reduceNeg,truD,isN,Bool.not_true,Bool.not_false,decide_true,decide_false,Bool.false_eq_true,reduceIte,Option.map_some,Option.bind_some,List.isEmpty_nil,List.isEmpty_cons])
local macro_rules | `(tactic| walk_at "evhd") => `(tactic| simp (config:={decide:=true}) only [*,g_eqS,g_neS,beq_self_eq_true,e_bin,e_bin1,e_bin2,e_var0,e_varS,e_c,e_test,e_kTest,e_ch,e_ch1,e_ch2,e_ch3,e_isN,e_notN,e_kIsN,e_kNotN,e_tru,e_kTru,e_and,e_or,e_not,e_kAnd,e_kOr,e_kNot,e_andV,e_orV,e_notV,e_kAndV,e_kOrV,e_kNotV,e_if,e_kIf,e_nil,e_cons,e_cons1,e_cons2,e_tup,e_lst,e_dic,e_kTup,e_kLst,e_kDic,e_callB,e_kCallB,e_isI,e_kIsI,e_call,e_kCall,e_neg,e_kNeg,e_skip,e_seq,e_kSeqN,e_kSeqR,e_kSeqB,e_kSeqC,e_ret,e_kRet,e_retN,e_drop,e_kDrop,e_set,e_kSet,e_ite,e_kIte,e_for,e_kFor,e_range1,e_kRange1,e_overL,e_overT,e_kOverL,e_kOverT,e_kFinR,e_kFinN,e_fnOf,bind_ok,bind_exc,bind_bad,ofO_some,ofO_none,noX_ok,deref_non,deref_bl,deref_int,deref_str,deref_tup,deref_lst,deref_dic,List.map_cons,List.map_nil,List.cons_append,List.nil_append,List.replicate_succ,List.replicate_zero,List.append_nil,List.set_cons_zero,List.set_cons_succ,g_add,g_sub,g_mulL,g_mulR,g_div,g_mod,g_and,g_or,g_xor,g_lt,g_le,g_gt,g_ge,g_eqI,g_neI,g_eqB,g_idxL,g_idxT,g_lenL,g_lenT,g_max,g_min,g_intB,g_intI,if_true,if_false,Int.reduceLT,Int.reduceNeg,truD,isN,Bool.not_true,Bool.not_false,decide_true,decide_false,Bool.false_eq_true,reduceIte,Option.map_some,Option.bind_some,List.isEmpty_nil,List.isEmpty_cons])
theorem dbl (μ:Mu):∀ (n:Nat) (f:Nat → D) (a b:Int) (x4 x5 x6:Option D) (x3:Option D),∃ x3',forGo (gN 3) l_reckoned_1 ((List.range n).map f) [some (.str w_left),some (.int a),some (.int b),x3,x4,x5,x6] μ
    = .ok (.nx [some (.str w_left),some (.int (a * 2 ^ n)),some (.int b),x3',x4,x5,x6]) μ:=by
  intro n
  induction n with
  | zero => intro f a b x4 x5 x6 x3; exact ⟨x3,by simp [forGo]⟩
  | succ n ih =>
    intro f a b x4 x5 x6 x3
    obtain ⟨y,h⟩:=ih (fun k => f (k + 1)) (a * 2) b x4 x5 x6 (some (f 0))
    refine ⟨y,?_⟩
    rw [List.range_succ_eq_map,List.map_cons,List.map_map,e_forCons]
    have e1:l_reckoned_1 (List.set [some (.str w_left),some (.int a),some (.int b),x3,x4,x5,x6] 3 (some (f 0))) μ = .ok (.nx [some (.str w_left),some (.int (a * 2)),some (.int b),some (f 0),x4,x5,x6]) μ:=by
      show l_reckoned_1 [some (.str w_left),some (.int a),some (.int b),some (f 0),x4,x5,x6] μ = _
      have:gMul (.int a) (.int 2) = some (.int (a * 2)):=g_mulR a 2 (by decide) (by decide)
      unfold l_reckoned_1
      walk_at "evd"
    rw [e1]
    simp only [bind_ok,e_turnN]
    have e2:(f ∘ Nat.succ) = fun k => f (k + 1):=rfl
    rw [e2,h,Int.mul_assoc,show (2:Int) * 2 ^ n = 2 ^ (n + 1) by rw [Int.pow_succ,Int.mul_comm]]
theorem hlv (μ:Mu):∀ (n:Nat) (f:Nat → D) (a b:Int) (x4 x5 x6:Option D) (x3:Option D),∃ x3',forGo (gN 3) l_reckoned_1 ((List.range n).map f) [some (.str w_right),some (.int a),some (.int b),x3,x4,x5,x6] μ
    = .ok (.nx [some (.str w_right),some (.int (a / 2 ^ n)),some (.int b),x3',x4,x5,x6]) μ:=by
  intro n
  induction n with
  | zero => intro f a b x4 x5 x6 x3; exact ⟨x3,by simp [forGo]⟩
  | succ n ih =>
    intro f a b x4 x5 x6 x3
    obtain ⟨y,h⟩:=ih (fun k => f (k + 1)) (a / 2) b x4 x5 x6 (some (f 0))
    refine ⟨y,?_⟩
    rw [List.range_succ_eq_map,List.map_cons,List.map_map,e_forCons]
    have e1:l_reckoned_1 (List.set [some (.str w_right),some (.int a),some (.int b),x3,x4,x5,x6] 3 (some (f 0))) μ = .ok (.nx [some (.str w_right),some (.int (a / 2)),some (.int b),some (f 0),x4,x5,x6]) μ:=by
      show l_reckoned_1 [some (.str w_right),some (.int a),some (.int b),some (f 0),x4,x5,x6] μ = _
      unfold l_reckoned_1
      walk_at "evd"
    rw [e1]
    simp only [bind_ok,e_turnN]
    have e2:(f ∘ Nat.succ) = fun k => f (k + 1):=rfl
    rw [e2,h,Int.ediv_ediv_of_nonneg (by decide),show (2:Int) * 2 ^ n = 2 ^ (n + 1) by rw [Int.pow_succ,Int.mul_comm]]
theorem bit_int (A k:Nat):((A:Int) / 2 ^ k) % 2 = ((A / 2 ^ k % 2:Nat):Int):=by
  rw [show (2:Int) ^ k = ((2 ^ k:Nat):Int) by simp,← Int.natCast_ediv]
  rfl
noncomputable def bitOp (o:List Nat) (p q:Bool):Bool:=if o = w_and then p && q else if o = w_or then p || q else xor p q
noncomputable def natOp (o:List Nat) (A B:Nat):Nat:=if o = w_and then A &&& B else if o = w_or then A ||| B else A ^^^ B
theorem natOp_bit (o:List Nat) (A B k:Nat):(natOp o A B).testBit k = bitOp o (A.testBit k) (B.testBit k):=by
  unfold natOp bitOp
  split
  · exact Nat.testBit_and ..
  · split
    · exact Nat.testBit_or ..
    · exact Nat.testBit_xor ..
theorem w_n1:¬ w_or = w_and:=by decide
theorem w_n2:¬ w_xor = w_and:=by decide
theorem w_n3:¬ w_xor = w_or:=by decide
theorem t_eq (x y:Int):gEq (.tup [.int x,.int y]) (.tup [.int 1,.int 1]) = some (.bl (x == 1 && y == 1)):=by
  show some (D.bl (eqD _ _)) = _
  simp [eqD,eqDs]
theorem t_ne (x y:Int):gNe (.tup [.int x,.int y]) (.tup [.int 0,.int 0]) = some (.bl (!(x == 0 && y == 0))):=by
  show some (D.bl (!eqD _ _)) = _
  simp [eqD,eqDs]
theorem at0 (x y:D):atI [x,y] 0 = some x:=rfl
theorem at1 (x y:D):atI [x,y] 1 = some y:=rfl
theorem dAnd (a b c:D):gDGet (.dic [.inr w_and,.inr w_or,.inr w_xor] [a,b,c]) (.str w_and) = some a:=rfl
theorem dOr (a b c:D):gDGet (.dic [.inr w_and,.inr w_or,.inr w_xor] [a,b,c]) (.str w_or) = some b:=rfl
theorem dXor (a b c:D):gDGet (.dic [.inr w_and,.inr w_or,.inr w_xor] [a,b,c]) (.str w_xor) = some c:=rfl
noncomputable def bitI (o:List Nat) (x y:Int):Bool:=if o = w_and then (x == 1 && y == 1) else if o = w_or then !(x == 0 && y == 0) else !(x == y)
theorem dAny (o:List Nat) (ho:o = w_and ∨ o = w_or ∨ o = w_xor) (x y:Int):gDGet (.dic [.inr w_and,.inr w_or,.inr w_xor] [.bl (x == 1 && y == 1),.bl (!(x == 0 && y == 0)),.bl (!(x == y))]) (.str o) = some (.bl (bitI o x y)):=by
  unfold bitI
  rcases ho with rfl | rfl | rfl
  · rw [dAnd,if_pos rfl]
  · rw [dOr,if_neg w_n1,if_pos rfl]
  · rw [dXor,if_neg w_n2,if_neg w_n3]
theorem turn0 (o:List Nat) (ho:o = w_and ∨ o = w_or ∨ o = w_xor) (A B p F:Int) (f:D) (x6:Option D) (μ:Mu) (q1:gDiv (.int A) (.int p) = some (.int (A / p))) (q2:gDiv (.int B) (.int p) = some (.int (B / p))) (q3:∀ j,gMul (.int p) (.int j) = some (.int (p * j))) :
    l_reckoned_2 [some (.str o),some (.int A),some (.int B),some f,some (.int F),some (.int p),x6] μ
      = .ok (.nx [some (.str o),some (.int A),some (.int B),some f,some (.int (F + p * (if bitI o (A / p % 2) (B / p % 2) = true then 1 else 0))),some (.int (p * 2)),some (.tup [.int (A / p % 2),.int (B / p % 2)])]) μ:=by
  unfold l_reckoned_2
  simp only [q1,q2,q3,t_eq,t_ne,at0,at1,e_bin,e_bin1,e_bin2,e_var0,e_varS,e_c,e_cons,e_cons1,e_cons2,e_nil,e_tup,e_kTup,e_dic,e_kDic,e_callB,e_kCallB,e_set,e_kSet,e_seq,e_kSeqN,bind_ok,ofO_some,deref_int,deref_bl,deref_str,deref_tup,deref_dic,g_idxT,g_neI,g_add,g_mod,Int.reduceLT,List.map_cons,List.map_nil,List.set_cons_zero,List.set_cons_succ,dAny o ho,g_intB]
theorem bitI_bit (o:List Nat) (A B k:Nat):(if bitI o ((A:Int) / 2 ^ k % 2) ((B:Int) / 2 ^ k % 2) = true then (1:Int) else 0) = ((bitOp o (A.testBit k) (B.testBit k)).toNat:Int):=by
  rw [Nat.testBit_eq_decide_div_mod_eq,Nat.testBit_eq_decide_div_mod_eq,bit_int,bit_int]
  have ha:A / 2 ^ k % 2 = 0 ∨ A / 2 ^ k % 2 = 1:=by omega
  have hb:B / 2 ^ k % 2 = 0 ∨ B / 2 ^ k % 2 = 1:=by omega
  unfold bitI bitOp
  by_cases h1:o = w_and
  · simp only [if_pos h1]
    rcases ha with ha | ha <;> rcases hb with hb | hb <;> rw [ha,hb] <;> rfl
  · simp only [if_neg h1]
    by_cases h2:o = w_or
    · simp only [if_pos h2]
      rcases ha with ha | ha <;> rcases hb with hb | hb <;> rw [ha,hb] <;> rfl
    · simp only [if_neg h2]
      rcases ha with ha | ha <;> rcases hb with hb | hb <;> rw [ha,hb] <;> rfl
theorem small_pow (k:Nat) (hk:k < 32):(2:Int) ^ k < 18446744073709551616:=by
  have h1:(2:Nat) ^ k < 2 ^ 64:=Nat.pow_lt_pow_right (by decide) (by omega)
  have h2:(2:Int) ^ k = ((2 ^ k:Nat):Int):=by simp
  rw [h2]
  omega
theorem loop_bits (o:List Nat) (ho:o = w_and ∨ o = w_or ∨ o = w_xor) (A B:Nat) (μ:Mu):∀ (n k:Nat) (f:Nat → D) (x3 x6:Option D),k + n ≤ 32 → ∃ x3' x6',
    forGo (gN 3) l_reckoned_2 ((List.range n).map f) [some (.str o),some (.int A),some (.int B),x3,some (.int ((natOp o A B % 2 ^ k:Nat):Int)),some (.int (2 ^ k)),x6] μ
      = .ok (.nx [some (.str o),some (.int A),some (.int B),x3',some (.int ((natOp o A B % 2 ^ (k + n):Nat):Int)),some (.int (2 ^ (k + n))),x6']) μ:=by
  intro n
  induction n with
  | zero => intro k f x3 x6 _; exact ⟨x3,x6,rfl⟩
  | succ n ih =>
    intro k f x3 x6 hk
    have hp:(0:Int) < 2 ^ k:=Int.pow_pos (by decide)
    have hp2:=small_pow k (by omega)
    obtain ⟨y3,y6,h⟩:=ih (k + 1) (fun j => f (j + 1)) (some (f 0)) (some (.tup [.int ((A:Int) / 2 ^ k % 2),.int ((B:Int) / 2 ^ k % 2)])) (by omega)
    refine ⟨y3,y6,?_⟩
    rw [List.range_succ_eq_map,List.map_cons,List.map_map,e_forCons]
    simp only [List.set_cons_zero,List.set_cons_succ]
    rw [turn0 o ho A B (2 ^ k) _ (f 0) x6 μ (g_div _ _ hp hp2) (g_div _ _ hp hp2) fun j => g_mulL _ _ (by omega) hp2]
    simp only [bind_ok,e_turnN]
    rw [bitI_bit,← natOp_bit]
    have e1:((natOp o A B % 2 ^ k:Nat):Int) + 2 ^ k * (((natOp o A B).testBit k).toNat:Int) = ((natOp o A B % 2 ^ (k + 1):Nat):Int):=by
      rw [Nat.mod_pow_succ,Nat.toNat_testBit]
      simp
    rw [e1,show (2:Int) ^ k * 2 = 2 ^ (k + 1) from (Int.pow_succ 2 k).symm,show (f ∘ Nat.succ) = fun j => f (j + 1) from rfl,h,show k + 1 + n = k + (n + 1) by omega]
section
variable (a b:Int) (μ:Mu)
theorem p_plus:f_p_reckoned [.str w_plus,.int a,.int b] μ = .ok (.int ((a + b) % 4294967296)) μ:=by rfl
theorem p_minus:f_p_reckoned [.str w_minus,.int a,.int b] μ = .ok (.int ((a - b) % 4294967296)) μ:=by rfl
theorem p_and:f_p_reckoned [.str w_and,.int a,.int b] μ = .ok (.int (Builtin.bitAnd a b % 4294967296)) μ:=by rfl
theorem p_or:f_p_reckoned [.str w_or,.int a,.int b] μ = .ok (.int (Builtin.bitOr a b % 4294967296)) μ:=by rfl
theorem p_xor:f_p_reckoned [.str w_xor,.int a,.int b] μ = .ok (.int (Builtin.bitXor a b % 4294967296)) μ:=by rfl
theorem p_over0:f_p_reckoned [.str w_over,.int a,.int 0] μ = .ok .non μ:=by rfl
theorem p_rest0:f_p_reckoned [.str w_rest,.int a,.int 0] μ = .ok .non μ:=by rfl
theorem in_div (o:List Nat):gIn (.str o) c_DIVIDING = if okS o then some (.bl (w_over == o || w_rest == o)) else none:=by
  show (if inOk _ _ then some (D.bl (if false = true then _ else inD _ _)) else none) = _
  have e1:inOk (.str o) [.str w_over,.str w_rest] = okS o:=by
    simp only [inOk,plainD,plainDs,dpt,okS]
    have h1:w_over.all (fun x => decide (x < 0x110000)) = true:=rfl
    have h2:w_rest.all (fun x => decide (x < 0x110000)) = true:=rfl
    rw [h1,h2]
    simp
  rw [e1]
  simp [inD,eqD]
variable {a b}
theorem p_plain_times (ha:-18446744073709551616 < a) (ha2:a < 18446744073709551616):f_p_plainly_reckoned [.str w_times,.int a,.int b] μ = .ok (.int (a * b)) μ:=by
  unfold f_p_plainly_reckoned b_p_plainly_reckoned
  walk_at "evd"
  rw [g_mulL _ _ ha ha2]
  walk_at "ev"
theorem p_times (ha:-18446744073709551616 < a) (ha2:a < 18446744073709551616):f_p_reckoned [.str w_times,.int a,.int b] μ = .ok (.int (a * b % 4294967296)) μ:=by
  unfold f_p_reckoned b_p_reckoned
  walk_at "ev"
  simp only [show deref μ c_DIVIDING = c_DIVIDING from rfl,in_div,show okS w_times = true from rfl,show (w_over == w_times || w_rest == w_times) = false from rfl]
  walk_at "ev"
  rw [p_plain_times μ ha ha2]
  rfl
theorem p_over (hb:0 < b) (hb2:b < 18446744073709551616):f_p_reckoned [.str w_over,.int a,.int b] μ = .ok (.int (a / b % 4294967296)) μ:=by
  have h0:(b == 0) = false:=by simp; omega
  have h1:f_p_plainly_reckoned [.str w_over,.int a,.int b] μ = .ok (.int (a / b)) μ:=by
    unfold f_p_plainly_reckoned b_p_plainly_reckoned
    walk_at "evd"
    rw [g_div _ _ hb hb2]
    walk_at "ev"
  unfold f_p_reckoned b_p_reckoned
  walk_at "ev"
  simp only [show deref μ c_DIVIDING = c_DIVIDING from rfl,in_div,show okS w_over = true from rfl,show (w_over == w_over || w_rest == w_over) = true from rfl]
  walk_at "ev"
  simp only [h0]
  walk_at "ev"
  rw [h1]
  rfl
theorem p_rest (hb:0 < b):f_p_reckoned [.str w_rest,.int a,.int b] μ = .ok (.int (a % b % 4294967296)) μ:=by
  have h0:(b == 0) = false:=by simp; omega
  have h1:f_p_plainly_reckoned [.str w_rest,.int a,.int b] μ = .ok (.int (a % b)) μ:=by
    unfold f_p_plainly_reckoned b_p_plainly_reckoned
    walk_at "evd"
    rw [g_mod _ _ hb]
    walk_at "ev"
  unfold f_p_reckoned b_p_reckoned
  walk_at "ev"
  simp only [show deref μ c_DIVIDING = c_DIVIDING from rfl,in_div,show okS w_rest = true from rfl,show (w_over == w_rest || w_rest == w_rest) = true from rfl]
  walk_at "ev"
  simp only [h0]
  walk_at "ev"
  rw [h1]
  rfl
noncomputable def shv (o:List Nat) (a b:Int):Int:=if b ≥ 32 then 0 else if o = w_left then a * 2 ^ b.toNat else a / 2 ^ b.toNat
theorem p_shift (o:List Nat) (ho:o = w_left ∨ o = w_right) (hb:0 ≤ b) (ha:a.natAbs < 18446744073709551616):f_p_reckoned [.str o,.int a,.int b] μ = .ok (.int (shv o a b % 4294967296)) μ:=by
  have hw:¬ w_right = w_left:=by decide
  have h1:f_p_shifted [.str o,.int a,.int b] μ = .ok (.int (shv o a b)) μ:=by
    unfold f_p_shifted b_p_shifted
    have hc:c_WIDTH = .int 32:=rfl
    rw [hc]
    walk_at "ev"
    unfold shv
    by_cases h:32 ≤ b
    · simp only [h,decide_true,ge_iff_le,if_true]
      walk_at "ev"
    · have hm:(if (0:Int) > b then 0 else b) = b:=if_neg (by omega)
      simp only [h,decide_false,ge_iff_le,if_false,hm]
      walk_at "ev"
      rw [hm]
      rcases ho with rfl | rfl
      · rw [show gEq (.str w_left) (.str w_left) = some (.bl true) from rfl]
        walk_at "ev"
        rw [g_shl _ _ hb (by omega) ha]
        walk_at "ev"
      · rw [show gEq (.str w_right) (.str w_left) = some (.bl false) from rfl]
        walk_at "ev"
        rw [g_shr _ _ hb]
        simp only [if_neg hw]
        walk_at "ev"
  have h2:f_p_plainly_reckoned [.str o,.int a,.int b] μ = .ok (.int (shv o a b)) μ:=by
    unfold f_p_plainly_reckoned b_p_plainly_reckoned
    rcases ho with rfl | rfl
    · walk_at "evd"
      rw [h1]
      walk_at "ev"
    · walk_at "evd"
      rw [h1]
      walk_at "ev"
  unfold f_p_reckoned b_p_reckoned
  walk_at "ev"
  have h3:(okS o = true) ∧ (w_over == o || w_rest == o) = false:=by rcases ho with rfl | rfl <;> exact ⟨rfl,rfl⟩
  simp only [show deref μ c_DIVIDING = c_DIVIDING from rfl,in_div,h3.1,h3.2,if_true]
  walk_at "ev"
  rw [h2]
  rfl
theorem iA (o:List Nat) (ho:okS o = true):gIn (.str o) (.tup [.str w_over,.str w_rest]) = some (.bl (w_over == o || w_rest == o)):=by
  have:=in_div o
  rw [ho] at this
  exact this
theorem iB (o:List Nat) (ho:okS o = true):gIn (.str o) (.tup [.str w_left,.str w_right]) = some (.bl (w_left == o || w_right == o)):=by
  show (if inOk _ _ then some (D.bl (if false = true then _ else inD _ _)) else none) = _
  have e1:inOk (.str o) [.str w_left,.str w_right] = okS o:=by
    simp only [inOk,plainD,plainDs,dpt,okS]
    have h1:w_left.all (fun x => decide (x < 0x110000)) = true:=rfl
    have h2:w_right.all (fun x => decide (x < 0x110000)) = true:=rfl
    rw [h1,h2]
    simp
  rw [e1,ho]
  simp [inD,eqD]
theorem iC (o:List Nat) (ho:okS o = true):gIn (.str o) (.tup [.str w_and,.str w_or,.str w_xor]) = some (.bl (w_and == o || (w_or == o || w_xor == o))):=by
  show (if inOk _ _ then some (D.bl (if false = true then _ else inD _ _)) else none) = _
  have e1:inOk (.str o) [.str w_and,.str w_or,.str w_xor] = okS o:=by
    simp only [inOk,plainD,plainDs,dpt,okS]
    have h1:w_and.all (fun x => decide (x < 0x110000)) = true:=rfl
    have h2:w_or.all (fun x => decide (x < 0x110000)) = true:=rfl
    have h3:w_xor.all (fun x => decide (x < 0x110000)) = true:=rfl
    rw [h1,h2,h3]
    simp
  rw [e1,ho]
  simp [inD,eqD]
theorem dP (x y z:D):gDGet (.dic [.inr w_plus,.inr w_minus,.inr w_times] [x,y,z]) (.str w_plus) = some x:=rfl
theorem dM (x y z:D):gDGet (.dic [.inr w_plus,.inr w_minus,.inr w_times] [x,y,z]) (.str w_minus) = some y:=rfl
theorem dT (x y z:D):gDGet (.dic [.inr w_plus,.inr w_minus,.inr w_times] [x,y,z]) (.str w_times) = some z:=rfl
theorem q_plus (ha:-18446744073709551616 < a) (ha2:a < 18446744073709551616):f_reckoned [.str w_plus,.int a,.int b] μ = .ok (.int ((a + b) % 4294967296)) μ:=by
  have h:gMul (.int a) (.int b) = some (.int (a * b)):=g_mulL _ _ ha ha2
  unfold f_reckoned b_reckoned
  walk_at "ev"
  simp only [iA w_plus rfl,show (w_over == w_plus || w_rest == w_plus) = false from rfl]
  walk_at "ev"
  simp only [iB w_plus rfl,show (w_left == w_plus || w_right == w_plus) = false from rfl]
  walk_at "ev"
  simp only [iC w_plus rfl,show (w_and == w_plus || (w_or == w_plus || w_xor == w_plus)) = false from rfl]
  walk_at "ev"
  rw [h]
  walk_at "ev"
  rw [dP]
  walk_at "ev"
theorem q_minus (ha:-18446744073709551616 < a) (ha2:a < 18446744073709551616):f_reckoned [.str w_minus,.int a,.int b] μ = .ok (.int ((a - b) % 4294967296)) μ:=by
  have h:gMul (.int a) (.int b) = some (.int (a * b)):=g_mulL _ _ ha ha2
  unfold f_reckoned b_reckoned
  walk_at "ev"
  simp only [iA w_minus rfl,show (w_over == w_minus || w_rest == w_minus) = false from rfl]
  walk_at "ev"
  simp only [iB w_minus rfl,show (w_left == w_minus || w_right == w_minus) = false from rfl]
  walk_at "ev"
  simp only [iC w_minus rfl,show (w_and == w_minus || (w_or == w_minus || w_xor == w_minus)) = false from rfl]
  walk_at "ev"
  rw [h]
  walk_at "ev"
  rw [dM]
  walk_at "ev"
theorem q_times (ha:-18446744073709551616 < a) (ha2:a < 18446744073709551616):f_reckoned [.str w_times,.int a,.int b] μ = .ok (.int (a * b % 4294967296)) μ:=by
  have h:gMul (.int a) (.int b) = some (.int (a * b)):=g_mulL _ _ ha ha2
  unfold f_reckoned b_reckoned
  walk_at "ev"
  simp only [iA w_times rfl,show (w_over == w_times || w_rest == w_times) = false from rfl]
  walk_at "ev"
  simp only [iB w_times rfl,show (w_left == w_times || w_right == w_times) = false from rfl]
  walk_at "ev"
  simp only [iC w_times rfl,show (w_and == w_times || (w_or == w_times || w_xor == w_times)) = false from rfl]
  walk_at "ev"
  rw [h]
  walk_at "ev"
  rw [dT]
  walk_at "ev"
theorem q_over0:f_reckoned [.str w_over,.int a,.int 0] μ = .ok .non μ:=by rfl
theorem q_rest0:f_reckoned [.str w_rest,.int a,.int 0] μ = .ok .non μ:=by rfl
theorem q_over (hb:0 < b) (hb2:b < 18446744073709551616):f_reckoned [.str w_over,.int a,.int b] μ = .ok (.int (a / b)) μ:=by
  have h0:(b == 0) = false:=by simp; omega
  unfold f_reckoned b_reckoned
  walk_at "ev"
  simp only [iA w_over rfl,show (w_over == w_over || w_rest == w_over) = true from rfl]
  walk_at "ev"
  simp only [h0]
  walk_at "ev"
  rw [show gEq (.str w_over) (.str w_over) = some (.bl true) from rfl]
  walk_at "ev"
  rw [g_div _ _ hb hb2]
  walk_at "ev"
theorem q_rest (hb:0 < b) (hb2:b < 18446744073709551616):f_reckoned [.str w_rest,.int a,.int b] μ = .ok (.int (a - a / b * b)) μ:=by
  have h0:(b == 0) = false:=by simp; omega
  unfold f_reckoned b_reckoned
  walk_at "ev"
  simp only [iA w_rest rfl,show (w_over == w_rest || w_rest == w_rest) = true from rfl]
  walk_at "ev"
  simp only [h0]
  walk_at "ev"
  rw [show gEq (.str w_rest) (.str w_over) = some (.bl false) from rfl]
  walk_at "ev"
  rw [g_div _ _ hb hb2]
  walk_at "ev"
  rw [g_mulR _ _ (by omega) hb2]
  walk_at "ev"
theorem q_shift (o:List Nat) (ho:o = w_left ∨ o = w_right) (hb:0 ≤ b) (hb2:b < 4294967296):f_reckoned [.str o,.int a,.int b] μ = .ok (.int ((if o = w_left then a * 2 ^ (min b.toNat 33) else a / 2 ^ (min b.toNat 33)) % 4294967296)) μ:=by
  have h3:okS o = true ∧ (w_over == o || w_rest == o) = false ∧ (w_left == o || w_right == o) = true:=by rcases ho with rfl | rfl <;> exact ⟨rfl,rfl,rfl⟩
  have hm:(if (33:Int) < b then 33 else b) = ((min b.toNat 33:Nat):Int):=by split <;> omega
  have hr:asRange [.int ((min b.toNat 33:Nat):Int)] = some (rangeD (min b.toNat 33)):=asRange_nat _ (by omega)
  unfold f_reckoned b_reckoned
  walk_at "ev"
  simp only [iA o h3.1,h3.2.1]
  walk_at "ev"
  simp only [iB o h3.1,h3.2.2]
  walk_at "ev"
  rw [hm,hr]
  walk_at "ev"
  unfold rangeD
  rcases ho with rfl | rfl
  · obtain ⟨x,e⟩:=dbl μ (min b.toNat 33) (fun k => .int (k:Nat)) a b none none none none
    rw [e]
    walk_at "ev"
  · obtain ⟨x,e⟩:=hlv μ (min b.toNat 33) (fun k => .int (k:Nat)) a b none none none none
    rw [e]
    walk_at "ev"
    rw [if_neg (show ¬ w_right = w_left by decide)]
theorem q_bits (o:List Nat) (ho:o = w_and ∨ o = w_or ∨ o = w_xor) (A B:Nat):f_reckoned [.str o,.int A,.int B] μ = .ok (.int ((natOp o A B % 2 ^ 32:Nat):Int)) μ:=by
  have h3:okS o = true ∧ (w_over == o || w_rest == o) = false ∧ (w_left == o || w_right == o) = false ∧ (w_and == o || (w_or == o || w_xor == o)) = true:=by rcases ho with rfl | rfl | rfl <;> exact ⟨rfl,rfl,rfl,rfl⟩
  have hr:asRange [.int 32] = some (rangeD 32):=rfl
  unfold f_reckoned b_reckoned
  walk_at "ev"
  simp only [iA o h3.1,h3.2.1]
  walk_at "ev"
  simp only [iB o h3.1,h3.2.2.1]
  walk_at "ev"
  simp only [iC o h3.1,h3.2.2.2]
  walk_at "ev"
  rw [hr]
  walk_at "ev"
  obtain ⟨x,y,e⟩:=loop_bits o ho A B μ 32 0 (fun k => .int (k:Nat)) none none (by decide)
  have e0:((natOp o A B % 2 ^ 0:Nat):Int) = 0:=by rw [Nat.pow_zero,Nat.mod_one]; rfl
  rw [e0] at e
  have e':forGo (gN 3) l_reckoned_2 (rangeD 32) [some (D.str o),some (D.int A),some (D.int B),none,some (D.int 0),some (D.int 1),none] μ = _:=e
  rw [e']
  walk_at "ev"
end
theorem or_split (A B:Nat):∀ k:Nat,(A ||| B) % 2 ^ k = (A ^^^ B) % 2 ^ k + (A &&& B) % 2 ^ k:=by
  intro k
  induction k with
  | zero => simp [Nat.mod_one]
  | succ k ih =>
    rw [Nat.mod_pow_succ,Nat.mod_pow_succ,Nat.mod_pow_succ,ih,← Nat.toNat_testBit,← Nat.toNat_testBit,← Nat.toNat_testBit,Nat.testBit_or,Nat.testBit_xor,Nat.testBit_and]
    cases A.testBit k <;> cases B.testBit k <;> simp <;> omega
theorem bAnd (A B:Nat):Builtin.bitAnd (A:Int) (B:Int) = ((A &&& B:Nat):Int):=PyProof.Rows.bitAnd_pp (Int.natCast_nonneg _) (Int.natCast_nonneg _)
theorem bOr (A B:Nat):Builtin.bitOr (A:Int) (B:Int) = ((A ||| B:Nat):Int):=by
  unfold Builtin.bitOr
  have h:∀ n:Nat,¬ 0 ≤ Builtin.bitNot (n:Int):=fun n => by unfold Builtin.bitNot; omega
  have e:∀ n:Int,Builtin.bitNot (Builtin.bitNot n) = n:=fun n => by unfold Builtin.bitNot; omega
  rw [PyProof.Rows.bitAnd_nn (h A) (h B),e,e,e]
  simp
theorem bXor (A B:Nat) (hA:A < 2 ^ 32) (hB:B < 2 ^ 32):Builtin.bitXor (A:Int) (B:Int) = ((A ^^^ B:Nat):Int):=by
  unfold Builtin.bitXor
  rw [bOr,bAnd]
  have h:=or_split A B 32
  rw [Nat.mod_eq_of_lt (Nat.or_lt_two_pow hA hB),Nat.mod_eq_of_lt (Nat.xor_lt_two_pow hA hB),Nat.mod_eq_of_lt (Nat.and_lt_two_pow _ hB)] at h
  omega
theorem both (o:List Nat) (ho:o ∈ opL) (a b:Int) (ha:0 ≤ a) (ha2:a < 4294967296) (hb:0 ≤ b) (hb2:b < 4294967296) :
    (∀ μ,f_p_reckoned [.str o,.int a,.int b] μ = .ok .non μ ∧ f_reckoned [.str o,.int a,.int b] μ = .ok .non μ) ∨ ∃ i,∀ μ,f_p_reckoned [.str o,.int a,.int b] μ = .ok (.int i) μ ∧ f_reckoned [.str o,.int a,.int b] μ = .ok (.int i) μ:=by
  have a1:-18446744073709551616 < a:=by omega
  have a2:a < 18446744073709551616:=by omega
  have b2:b < 18446744073709551616:=by omega
  have hs:∀ o',o' = w_left ∨ o' = w_right → shv o' a b % 4294967296 = (if o' = w_left then a * 2 ^ (min b.toNat 33) else a / 2 ^ (min b.toNat 33)) % 4294967296:=fun o' ho' => by
    unfold shv
    by_cases h:b ≥ 32
    · rw [if_pos h]
      rcases ho' with rfl | rfl
      · rw [if_pos rfl]
        obtain ⟨c,hc⟩:∃ c,min b.toNat 33 = 32 + c:=⟨min b.toNat 33 - 32,by omega⟩
        rw [hc,Int.pow_add,← Int.mul_assoc,Int.mul_right_comm]
        have:(2:Int) ^ 32 = 4294967296:=by decide
        rw [this]
        omega
      · rw [if_neg (show ¬ w_right = w_left by decide)]
        have:a / 2 ^ (min b.toNat 33) = 0:=by
          refine Int.ediv_eq_zero_of_lt ha (Int.lt_of_lt_of_le ha2 ?_)
          have h2:(2:Nat) ^ 32 ≤ 2 ^ (min b.toNat 33):=Nat.pow_le_pow_right (by decide) (by omega)
          have h3:(2:Int) ^ (min b.toNat 33) = ((2 ^ (min b.toNat 33):Nat):Int):=by simp
          rw [h3]
          omega
        rw [this]
    · rw [if_neg h,show min b.toNat 33 = b.toNat by omega]
  obtain ⟨A,rfl⟩:=Int.eq_ofNat_of_zero_le ha
  obtain ⟨B,rfl⟩:=Int.eq_ofNat_of_zero_le hb
  have hA:A < 2 ^ 32:=by omega
  have hB:B < 2 ^ 32:=by omega
  simp only [opL,List.mem_cons,List.not_mem_nil,or_false] at ho
  rcases ho with rfl | rfl | rfl | rfl | rfl | rfl | rfl | rfl | rfl | rfl
  · exact .inr ⟨_,fun μ => ⟨p_plus _ _ μ,q_plus μ a1 a2⟩⟩
  · exact .inr ⟨_,fun μ => ⟨p_minus _ _ μ,q_minus μ a1 a2⟩⟩
  · exact .inr ⟨_,fun μ => ⟨p_times μ a1 a2,q_times μ a1 a2⟩⟩
  · by_cases h:B = 0
    · subst h; exact .inl fun μ => ⟨p_over0 _ μ,q_over0 μ⟩
    · refine .inr ⟨_,fun μ => ⟨p_over μ (by omega) b2,?_⟩⟩
      rw [q_over μ (by omega) b2,Int.emod_eq_of_lt (Int.ediv_nonneg ha hb) (Int.lt_of_le_of_lt (Int.ediv_le_self _ ha) ha2)]
  · by_cases h:B = 0
    · subst h; exact .inl fun μ => ⟨p_rest0 _ μ,q_rest0 μ⟩
    · refine .inr ⟨_,fun μ => ⟨p_rest μ (by omega),?_⟩⟩
      have h1:=Int.emod_nonneg (A:Int) (show (B:Int) ≠ 0 by omega)
      have h2:=Int.emod_lt_of_pos (A:Int) (show (0:Int) < B by omega)
      rw [q_rest μ (by omega) b2,Int.emod_eq_of_lt h1 (by omega)]
      have h3:=Int.mul_ediv_add_emod (A:Int) B
      rw [Int.mul_comm (A / B:Int) B]
      have:(A:Int) - B * (A / B:Int) = A % B:=by omega
      rw [this]
  · refine .inr ⟨_,fun μ => ⟨p_and _ _ μ,?_⟩⟩
    rw [q_bits μ w_and (.inl rfl),bAnd]
    rfl
  · refine .inr ⟨_,fun μ => ⟨p_or _ _ μ,?_⟩⟩
    rw [q_bits μ w_or (.inr (.inl rfl)),bOr]
    rfl
  · refine .inr ⟨_,fun μ => ⟨p_xor _ _ μ,?_⟩⟩
    rw [q_bits μ w_xor (.inr (.inr rfl)),bXor A B hA hB]
    rfl
  · refine .inr ⟨_,fun μ => ⟨p_shift μ w_left (.inl rfl) hb (by omega),?_⟩⟩
    rw [q_shift μ w_left (.inl rfl) hb hb2,hs _ (.inl rfl)]
  · refine .inr ⟨_,fun μ => ⟨p_shift μ w_right (.inr rfl) hb (by omega),?_⟩⟩
    rw [q_shift μ w_right (.inr rfl) hb hb2,hs _ (.inr rfl)]
end K13
set_option Elab.async false
set_option linter.all false
set_option maxRecDepth 100000
set_option maxHeartbeats 400000
namespace K13
open PySem PySem.Spec PyProof.Rows L2 M
noncomputable def Num (d:D):Prop:=∃ i:Int,d = .int i ∧ 0 ≤ i ∧ i < 4294967296
theorem Num.mod (r:Int):Num (.int (r % 4294967296)):=⟨_,rfl,Int.emod_nonneg _ (by decide),Int.emod_lt_of_pos _ (by decide)⟩
section
variable {a b r:Int} {μ:Mu} {x:List Nat}
theorem rk_of (hx:mAnd (mTest (mBin gIn (mVar 0) (mC c_DIVIDING))) (mTest (mBin gEq (mVar 2) (mC (.int 0)))) [some (.str x),some (.int a),some (.int b)] μ = .ok false μ) (hp:f_p_plainly_reckoned [.str x,.int a,.int b] μ = .ok (.int r) μ) :
    f_p_reckoned [.str x,.int a,.int b] μ = .ok (.int (r % 4294967296)) μ:=v_fn 0 ((v_skip hx).trans (v_ret (v_bin (v_call rfl hp) rfl (g_mod _ _ (by decide)))))
theorem rk_div (hx:mTest (mBin gIn (mVar 0) (mC c_DIVIDING)) [some (.str x),some (.int a),some (.int b)] μ = .ok true μ) (hb:0 < b):mAnd (mTest (mBin gIn (mVar 0) (mC c_DIVIDING))) (mTest (mBin gEq (mVar 2) (mC (.int 0)))) [some (.str x),some (.int a),some (.int b)] μ = .ok false μ:=by
  refine (v_andT hx).trans (v_test (v_bin rfl rfl ?_))
  rw [deref_int,deref_int,g_eqI,show (b == 0) = false by rw [beq_eq_false_iff_ne]; omega]
theorem sh_of (ha:0 ≤ a) (ha2:a < 4294967296) (hb:0 ≤ b) (hx:x = w_left ∨ x = w_right):∃ r,f_p_shifted [.str x,.int a,.int b] μ = .ok (.int r) μ:=by
  by_cases h:32 ≤ b
  · refine ⟨0,v_fn 1 (v_take (v_test (v_bin rfl rfl ?_)) rfl)⟩
    show gGe (.int b) (.int 32) = _
    rw [g_ge,decide_eq_true h]
  · have h1:mTest (mBin gGe (mVar 2) (mC c_WIDTH)) [some (.str x),some (.int a),some (.int b),none] μ = .ok false μ:=by
      refine v_test (v_bin rfl rfl ?_)
      show gGe (.int b) (.int 32) = _
      rw [g_ge,decide_eq_false h]
    have h2:mCallB gMax (mCons (mVar 2) (mCons (mC (.int 0)) mNil)) [some (.str x),some (.int a),some (.int b),none] μ = .ok (.int b) μ:=by
      refine v_callB rfl ?_
      show gMax [.int b,.int 0] = _
      rw [g_max,if_neg (by omega)]
    rcases hx with rfl | rfl
    · exact ⟨_,v_fn 1 ((v_skip h1).trans ((v_set 3 h2).trans (v_ret ((v_ifT rfl).trans (v_bin rfl rfl (g_shl _ _ hb (by omega) (by omega)))))))⟩
    · exact ⟨_,v_fn 1 ((v_skip h1).trans ((v_set 3 h2).trans (v_ret ((v_ifF rfl).trans (v_bin rfl rfl (g_shr _ _ hb))))))⟩
theorem reck (hx:x ∈ opL) (ha:0 ≤ a) (ha2:a < 4294967296) (hb:0 ≤ b) (hb2:b < 4294967296) (μ:Mu):∃ d,f_p_reckoned [.str x,.int a,.int b] μ = .ok d μ ∧ (d = .non ∨ Num d):=by
  have z:b = 0 ∨ 0 < b:=by omega
  have sh:∀ y,y = w_left ∨ y = w_right → ∃ r,f_p_shifted [.str y,.int a,.int b] μ = .ok (.int r) μ:=fun y hy => sh_of ha ha2 hb hy
  revert hx
  revert x
  show ∀ x ∈ opL,_
  refine op_all ⟨⟨_,rk_of (v_andF rfl) rfl,.inr (Num.mod _)⟩,⟨_,rk_of (v_andF rfl) rfl,.inr (Num.mod _)⟩,?_,?_,?_,⟨_,rk_of (v_andF rfl) rfl,.inr (Num.mod _)⟩,⟨_,rk_of (v_andF rfl) rfl,.inr (Num.mod _)⟩,⟨_,rk_of (v_andF rfl) rfl,.inr (Num.mod _)⟩,?_,?_⟩
  · exact ⟨_,rk_of (v_andF rfl) (v_fn 0 ((v_skip rfl).trans ((v_skip rfl).trans (v_take rfl (v_bin rfl rfl (g_mulL _ _ (by omega) (by omega))))))),.inr (Num.mod _)⟩
  · rcases z with rfl | z
    · exact ⟨.non,rfl,.inl rfl⟩
    · exact ⟨_,rk_of (rk_div rfl z) (v_fn 0 ((v_skip rfl).trans ((v_skip rfl).trans ((v_skip rfl).trans (v_take rfl (v_bin rfl rfl (g_div _ _ z (by omega)))))))),.inr (Num.mod _)⟩
  · rcases z with rfl | z
    · exact ⟨.non,rfl,.inl rfl⟩
    · exact ⟨_,rk_of (rk_div rfl z) (v_fn 0 ((v_skip rfl).trans ((v_skip rfl).trans ((v_skip rfl).trans ((v_skip rfl).trans (v_take rfl (v_bin rfl rfl (g_mod _ _ z)))))))),.inr (Num.mod _)⟩
  · obtain ⟨r,e⟩:=sh w_left (.inl rfl)
    exact ⟨_,rk_of (v_andF rfl) (v_fn 0 ((v_skip rfl).trans ((v_skip rfl).trans ((v_skip rfl).trans ((v_skip rfl).trans ((v_skip rfl).trans ((v_skip rfl).trans ((v_skip rfl).trans ((v_skip rfl).trans (v_ret (v_call rfl e))))))))))),.inr (Num.mod _)⟩
  · obtain ⟨r,e⟩:=sh w_right (.inr rfl)
    exact ⟨_,rk_of (v_andF rfl) (v_fn 0 ((v_skip rfl).trans ((v_skip rfl).trans ((v_skip rfl).trans ((v_skip rfl).trans ((v_skip rfl).trans ((v_skip rfl).trans ((v_skip rfl).trans ((v_skip rfl).trans (v_ret (v_call rfl e))))))))))),.inr (Num.mod _)⟩
theorem reck2 (hx:x ∈ opL) (ha:0 ≤ a) (ha2:a < 4294967296) (hb:0 ≤ b) (hb2:b < 4294967296):∃ d,(d = .non ∨ Num d) ∧ (∀ μ,f_p_reckoned [.str x,.int a,.int b] μ = .ok d μ) ∧ ∀ μ,f_reckoned [.str x,.int a,.int b] μ = .ok d μ:=by
  obtain ⟨d,e,hd⟩:=reck hx ha ha2 hb hb2 []
  rcases both x hx a b ha ha2 hb hb2 with h | ⟨i,h⟩
  · exact ⟨.non,.inl rfl,fun μ => (h μ).1,fun μ => (h μ).2⟩
  · have:=e.symm.trans (h []).1
    cases this
    exact ⟨_,hd,fun μ => (h μ).1,fun μ => (h μ).2⟩
end
noncomputable def mk8:Int → Int → Int:=fun v i => v * 256 + i
theorem load_loop {a b c:Option D} {μ:Mu}:∀ (xs:List Int) (k:Nat) (v:Int) (x4:Option D),(∀ i ∈ xs,0 ≤ i ∧ i < 256) → 0 ≤ v → v < 256 ^ k → k + xs.length ≤ 4 → ∃ y4,
    forGo (gN 4) l_p_loaded_1 (xs.map .int) [a,b,c,some (.int v),x4] μ = .ok (.nx [a,b,c,some (.int (xs.foldl mk8 v)),y4]) μ ∧ 0 ≤ xs.foldl mk8 v ∧ xs.foldl mk8 v < 256 ^ (k + xs.length)
  | [],k,v,x4,_,h0,h1,_ => ⟨x4,rfl,h0,h1⟩
  | i :: xs,k,v,x4,hx,h0,h1,hk => by
    obtain ⟨⟨i0,i1⟩,hx'⟩:=List.forall_mem_cons.mp hx
    rw [List.length_cons] at hk
    have hv:v < 4294967296:=by
      have:(256:Int) ^ k ≤ 256 ^ 4:=by
        have hk4:k = 0 ∨ k = 1 ∨ k = 2 ∨ k = 3 ∨ k = 4:=by omega
        rcases hk4 with rfl | rfl | rfl | rfl | rfl <;> decide
      have h4:(256:Int) ^ 4 = 4294967296:=by decide
      omega
    have e1:l_p_loaded_1 [a,b,c,some (.int v),some (.int i)] μ = .ok (.nx [a,b,c,some (.int (v * 256 + i)),some (.int i)]) μ:=by
      unfold l_p_loaded_1 mSet
      rw [v_bin (x:=.int (v * 256)) (y:=.int i) (z:=.int (v * 256 + i)) (v_bin rfl rfl (g_mulL _ _ (by omega) (by omega))) rfl rfl]
      rfl
    obtain ⟨y4,e,h2,h3⟩:=load_loop xs (k + 1) (v * 256 + i) (some (.int i)) hx' (by omega) (by rw [Int.pow_succ]; omega) (by omega)
    refine ⟨y4,(v_nx e1).trans e,h2,?_⟩
    rw [List.length_cons,show k + (xs.length + 1) = k + 1 + xs.length by omega]
    exact h3
end K13
set_option Elab.async false
set_option linter.all false
set_option maxRecDepth 100000
set_option maxHeartbeats 400000
namespace K13
open PySem PySem.Spec PyProof.Rows L2 M
theorem v_sl {m ml mh:MX} {ρ:En} {μ:Mu} {xs:List D} {i j:Int} (h:m ρ μ = .ok (.lst xs) μ) (hl:ml ρ μ = .ok (.int i) μ) (hh:mh ρ μ = .ok (.int j) μ):mSl m (mPart ml) (mPart mh) ρ μ = .ok (.lst (M.cutD xs (some i) (some j))) μ:=by
  unfold mSl mPart
  rw [h,bind_ok,hl,bind_ok]
  dsimp only
  rw [bind_ok,hh,bind_ok]
  rfl
noncomputable abbrev pk (bs:List Int):D:=.lst (bs.map .int)
noncomputable def Bytes (bs:List Int):Prop:=(∀ i ∈ bs,0 ≤ i ∧ i < 256) ∧ bs.length < 1000
theorem cut_eq {bs:List Int} {i z:Nat} (h:i + z ≤ bs.length):M.cutD (bs.map .int) (some (i:Int)) (some ((i + z:Nat):Int)) = ((bs.drop i).take z).map D.int:=by
  unfold M.cutD
  rw [HT.sIx_nat,HT.sIx_nat,List.length_map,Nat.min_eq_left (by omega),Nat.min_eq_left (by omega),show i + z - i = z by omega,← List.map_drop,← List.map_take]
noncomputable abbrev bEl:MX:=mBin gMul (mBin gIdx (mVar 1) (mBin gAdd (mVar 2) (mVar 0))) (mBin gIdx (mLst (mCons (mC (.int 1)) (mCons (mC (.int 256)) (mCons (mC (.int 65536)) (mCons (mC (.int 16777216)) mNil))))) (mBin gSub (mBin gSub (mVar 3) (mC (.int 1))) (mVar 0)))
section
variable {bs:List Int} {st:Nat} {μ:Mu}
theorem b_el (k:Nat) {z:Int} {x w:Int} (hx:(bs.drop st)[k]? = some x) (hb:0 ≤ x ∧ x < 256)
    (hw:mBin gIdx (mLst (mCons (mC (.int 1)) (mCons (mC (.int 256)) (mCons (mC (.int 65536)) (mCons (mC (.int 16777216)) mNil))))) (mBin gSub (mBin gSub (mVar 3) (mC (.int 1))) (mVar 0)) [some (.int k),some (pk bs),some (.int st),some (.int z)] μ = .ok (.int w) μ) :
    bEl [some (.int k),some (pk bs),some (.int st),some (.int z)] μ = .ok (.int (x * w)) μ:=by
  refine v_bin (x:=.int x) (y:=.int w) (v_bin (x:=pk bs) (y:=.int ((st + k:Nat):Int)) rfl (v_bin rfl rfl ?_) (at_code ?_)) hw (g_mulL _ _ (by omega) (by omega))
  · show some (D.int ((st:Int) + (k:Int))) = _
    rw [Int.natCast_add]
  · rw [List.getElem?_map,← List.getElem?_drop,hx]
    rfl
theorem loads2 (hB:Bytes bs) {sz:Int} (hs:sz = 1 ∨ sz = 2 ∨ sz = 4):∃ d,(d = .non ∨ Num d) ∧ (∀ μ,f_p_loaded [pk bs,.int sz,.int st] μ = .ok d μ) ∧ ∀ μ,f_bytes [pk bs,.int st,.int sz] μ = .ok d μ:=by
  have t1:∀ μ,mTest (mBin gLt (mVar 2) (mC (.int 0))) [some (pk bs),some (.int sz),some (.int st),none,none] μ = .ok false μ:=fun μ => by
    refine v_test (v_bin rfl rfl ?_)
    rw [deref_int,deref_int,g_lt,decide_eq_false (by omega)]
  have hl:(bs.map D.int).length = bs.length:=List.length_map _
  have t2:∀ μ,mTest (mBin gGt (mBin gAdd (mVar 2) (mVar 1)) (mCallB gLen (mCons (mVar 0) mNil))) [some (pk bs),some (.int sz),some (.int st),none,none] μ = .ok (decide ((bs.length:Int) < st + sz)) μ:=fun μ => by
    rw [← hl]
    exact v_test (v_bin (x:=.int (st + sz)) (y:=.int (bs.map D.int).length) rfl rfl rfl)
  have t3:∀ μ,mTest (mBin gGt (mBin gAdd (mVar 1) (mVar 2)) (mCallB gLen (mCons (mVar 0) mNil))) [some (pk bs),some (.int st),some (.int sz)] μ = .ok (decide ((bs.length:Int) < st + sz)) μ:=fun μ => by
    rw [← hl]
    exact v_test (v_bin (x:=.int (st + sz)) (y:=.int (bs.map D.int).length) rfl rfl rfl)
  by_cases h:(bs.length:Int) < st + sz
  · rw [decide_eq_true h] at t2 t3
    exact ⟨.non,.inl rfl,fun μ => v_fn 2 (v_take ((v_orF (t1 μ)).trans (t2 μ)) rfl),fun μ => v_fn 0 (v_take (t3 μ) rfl)⟩
  · rw [decide_eq_false h] at t2 t3
    obtain ⟨z,rfl,hz⟩:∃ z:Nat,sz = z ∧ z ≤ 4:=⟨sz.toNat,by omega,by omega⟩
    have hc:=cut_eq (bs:=bs) (i:=st) (z:=z) (by omega)
    have hm:∀ i ∈ (bs.drop st).take z,0 ≤ i ∧ i < 256:=fun i hi => hB.1 i (List.mem_of_mem_drop (List.mem_of_mem_take hi))
    have hlen:((bs.drop st).take z).length ≤ 4:=Nat.le_trans (List.length_take_le _ _) hz
    refine ⟨.int (((bs.drop st).take z).foldl mk8 0),.inr ?_,fun μ => ?_,fun μ => ?_⟩
    · obtain ⟨y4,e,h2,h3⟩:=load_loop (a:=none) (b:=none) (c:=none) (μ:=[]) ((bs.drop st).take z) 0 0 none hm (by decide) (by decide) (by omega)
      refine ⟨_,rfl,h2,?_⟩
      have:(256:Int) ^ (0 + ((bs.drop st).take z).length) ≤ 256 ^ 4:=by
        generalize ((bs.drop st).take z).length = k at hlen
        have hk4:k = 0 ∨ k = 1 ∨ k = 2 ∨ k = 3 ∨ k = 4:=by omega
        rcases hk4 with rfl | rfl | rfl | rfl | rfl <;> decide
      have h4:(256:Int) ^ 4 = 4294967296:=by decide
      omega
    · obtain ⟨y4,e,h2,h3⟩:=load_loop (a:=some (pk bs)) (b:=some (.int z)) (c:=some (.int st)) (μ:=μ) ((bs.drop st).take z) 0 0 none hm (by decide) (by decide) (by omega)
      rw [← hc] at e
      refine v_fn 2 ((v_skip ((v_orF (t1 μ)).trans (t2 μ))).trans ((v_set 3 (d:=.int 0) rfl).trans ((v_seqN ((v_for (v_over (v_sl (j:=((st + z:Nat):Int)) rfl rfl (v_bin rfl rfl ?_)))).trans e)).trans (v_ret rfl))))
      show some (D.int ((st:Int) + (z:Int))) = _
      rw [Int.natCast_add]
    · have hb:∀ (k:Nat) (x:Int),(bs.drop st)[k]? = some x → 0 ≤ x ∧ x < 256:=fun k x e => hB.1 x (List.mem_of_mem_drop (List.mem_of_getElem? e))
      have hd:z ≤ (bs.drop st).length:=by rw [List.length_drop]; omega
      have fin:∀ L:List Int,compGo (gN 0) mTT bEl (rangeD z) [none,some (pk bs),some (.int st),some (.int z)] μ [] = .ok (L.map .int) μ → intsOf (L.map .int) = some L → L.sum = ((bs.drop st).take z).foldl mk8 0 → f_bytes [pk bs,.int st,.int z] μ = .ok (.int (((bs.drop st).take z).foldl mk8 0)) μ:=fun L e1 e2 e3 => by
        refine v_fn 0 ((v_skip (t3 μ)).trans (v_ret (v_callB (v_cons (d:=.lst (L.map .int)) ?_ v_nil) ?_)))
        · unfold mComp
          rw [show mRange1 (mVar 2) [some (pk bs),some (.int st),some (.int z)] μ = .ok (rangeD z) μ by
            unfold mRange1
            rw [v_var 2 rfl,bind_ok,asRange_nat _ (by omega)]
            rfl,bind_ok,if_pos (by unfold rangeD; rw [List.length_map,List.length_range]; omega)]
          show (compGo (gN 0) mTT bEl _ [none,some (pk bs),some (.int st),some (.int z)] μ []).bind _ = _
          rw [e1]
          rfl
        · show (intsOf (L.map .int)).map _ = _
          rw [e2,← e3]
          rfl
      have hz':z = 1 ∨ z = 2 ∨ z = 4:=by omega
      rcases hz' with rfl | rfl | rfl
      · obtain ⟨a,r,er⟩:∃ a r,bs.drop st = a :: r:=by
          cases e:bs.drop st with
          | nil => rw [e] at hd; simp at hd
          | cons a r => exact ⟨a,r,rfl⟩
        have h0:(bs.drop st)[0]? = some a:=by rw [er]; rfl
        refine fin [a * 1] ((v_comp rfl (b_el 0 h0 (hb 0 a h0) rfl)).trans rfl) rfl ?_
        rw [er]
        show a * 1 + 0 = 0 * 256 + a
        omega
      · obtain ⟨a,b,r,er⟩:∃ a b r,bs.drop st = a :: b :: r:=by
          match e:bs.drop st,hd with
          | [],hd => simp at hd
          | [_],hd => simp at hd
          | a :: b :: r,_ => exact ⟨a,b,r,rfl⟩
        have h0:(bs.drop st)[0]? = some a:=by rw [er]; rfl
        have h1:(bs.drop st)[1]? = some b:=by rw [er]; rfl
        refine fin [a * 256,b * 1] ((v_comp rfl (b_el 0 h0 (hb 0 a h0) rfl)).trans ((v_comp rfl (b_el 1 h1 (hb 1 b h1) rfl)).trans rfl)) rfl ?_
        rw [er]
        show a * 256 + (b * 1 + 0) = (0 * 256 + a) * 256 + b
        omega
      · obtain ⟨a,b,c,d,r,er⟩:∃ a b c d r,bs.drop st = a :: b :: c :: d :: r:=by
          match e:bs.drop st,hd with
          | [],hd => simp at hd
          | [_],hd => simp at hd
          | [_,_],hd => simp at hd
          | [_,_,_],hd => simp at hd
          | a :: b :: c :: d :: r,_ => exact ⟨a,b,c,d,r,rfl⟩
        have h0:(bs.drop st)[0]? = some a:=by rw [er]; rfl
        have h1:(bs.drop st)[1]? = some b:=by rw [er]; rfl
        have h2:(bs.drop st)[2]? = some c:=by rw [er]; rfl
        have h3:(bs.drop st)[3]? = some d:=by rw [er]; rfl
        refine fin [a * 16777216,b * 65536,c * 256,d * 1] ((v_comp rfl (b_el 0 h0 (hb 0 a h0) rfl)).trans ((v_comp rfl (b_el 1 h1 (hb 1 b h1) rfl)).trans ((v_comp rfl (b_el 2 h2 (hb 2 c h2) rfl)).trans ((v_comp rfl (b_el 3 h3 (hb 3 d h3) rfl)).trans rfl)))) rfl ?_
        rw [er]
        show a * 16777216 + (b * 65536 + (c * 256 + (d * 1 + 0))) = (((0 * 256 + a) * 256 + b) * 256 + c) * 256 + d
        omega
end
end K13
set_option Elab.async false
set_option linter.all false
set_option maxRecDepth 100000
set_option maxHeartbeats 400000
namespace K13
open PySem PySem.Spec PyProof.Rows L2 M
inductive N | num (k:Int) | len | load (s:Int) (a:N) | op (x:List Nat) (a b:N)
inductive B | tru (b:Bool) | nt (a:B) | both (a b:B) | eith (a b:B) | cmp (x:List Nat) (a b:N)
noncomputable def N.d:N → D
  | .num k => .tup [.str w_number,.int k]
  | .len => .tup [.str w_len]
  | .load s a => .tup [.str w_load,.int s,a.d]
  | .op x a b => .tup [.str x,a.d,b.d]
noncomputable def B.d:B → D
  | .tru b => .tup [.str w_truth,.bl b]
  | .nt a => .tup [.str w_not,a.d]
  | .both a b => .tup [.str w_both,a.d,b.d]
  | .eith a b => .tup [.str w_either,a.d,b.d]
  | .cmp x a b => .tup [.str x,a.d,b.d]
noncomputable def cpL:List (List Nat):=[w_same,w_unlike,w_below,w_above,w_most,w_least]
theorem cp_all {P:List Nat → Prop} (h:P w_same ∧ P w_unlike ∧ P w_below ∧ P w_above ∧ P w_most ∧ P w_least):∀ x ∈ cpL,P x:=by
  intro x hx
  simp only [cpL,List.mem_cons,List.not_mem_nil,or_false] at hx
  obtain ⟨h1,h2,h3,h4,h5,h6⟩:=h
  rcases hx with rfl | rfl | rfl | rfl | rfl | rfl <;> assumption
noncomputable def N.ok:N → Prop
  | .num k => 0 ≤ k ∧ k < 4294967296
  | .len => True
  | .load s a => (s = 1 ∨ s = 2 ∨ s = 4) ∧ a.ok
  | .op x a b => x ∈ opL ∧ a.ok ∧ b.ok
noncomputable def B.ok:B → Prop
  | .tru _ => True
  | .nt a => a.ok
  | .both a b => a.ok ∧ b.ok
  | .eith a b => a.ok ∧ b.ok
  | .cmp x a b => x ∈ cpL ∧ a.ok ∧ b.ok
noncomputable def N.c:N → Nat
  | .num _ => 1
  | .len => 1
  | .load _ a => a.c + 2
  | .op _ a b => a.c + b.c + 2
noncomputable def B.c:B → Nat
  | .tru _ => 1
  | .nt a => a.c + 2
  | .both a b => a.c + b.c + 2
  | .eith a b => a.c + b.c + 2
  | .cmp _ a b => a.c + b.c + 2
noncomputable def N.dp:N → Nat
  | .num _ => 1
  | .len => 1
  | .load _ a => a.dp + 1
  | .op _ a b => max a.dp b.dp + 1
noncomputable def B.dp:B → Nat
  | .tru _ => 1
  | .nt a => a.dp + 1
  | .both a b => max a.dp b.dp + 1
  | .eith a b => max a.dp b.dp + 1
  | .cmp _ a b => 1
noncomputable def val (r:Res D):D:=match r with
  | .ok d _ => d
  | _ => .non
noncomputable def rk (x:List Nat) (i j:Int):D:=val (f_reckoned [.str x,.int i,.int j] [])
noncomputable def ld (bs:List Int) (s i:Int):D:=val (f_bytes [pk bs,.int i,.int s] [])
noncomputable def cp (x:List Nat) (i j:Int):D:=val (f_p_compared [.str x,.int i,.int j] [])
noncomputable def bi (f:Int → Int → D):D → D → D
  | .int i,.int j => f i j
  | _,_ => .non
noncomputable def un (f:Int → D):D → D
  | .int i => f i
  | _ => .non
noncomputable def N.ev (bs:List Int):N → D
  | .num k => .int k
  | .len => .int bs.length
  | .load s a => un (ld bs s) (a.ev bs)
  | .op x a b => bi (rk x) (a.ev bs) (b.ev bs)
noncomputable def notD:D → D
  | .bl b => .bl (!b)
  | _ => .non
noncomputable def joinD (e:Bool) (a b:D):D:=match a with
  | .bl k => if k = e then .bl k else b
  | _ => .non
noncomputable def B.ev (bs:List Int):B → D
  | .tru b => .bl b
  | .nt a => notD (a.ev bs)
  | .both a b => joinD false (a.ev bs) (b.ev bs)
  | .eith a b => joinD true (a.ev bs) (b.ev bs)
  | .cmp x a b => bi (cp x) (a.ev bs) (b.ev bs)
theorem rk_eq {x:List Nat} {i j:Int} (hx:x ∈ opL) (ha:0 ≤ i) (ha2:i < 4294967296) (hb:0 ≤ j) (hb2:j < 4294967296):(rk x i j = .non ∨ Num (rk x i j)) ∧ (∀ μ,f_p_reckoned [.str x,.int i,.int j] μ = .ok (rk x i j) μ) ∧ ∀ μ,f_reckoned [.str x,.int i,.int j] μ = .ok (rk x i j) μ:=by
  obtain ⟨d,h1,h2,h3⟩:=reck2 hx ha ha2 hb hb2
  have:rk x i j = d:=by unfold rk; rw [h3]; rfl
  rw [this]
  exact ⟨h1,h2,h3⟩
theorem ld_eq {bs:List Int} (hB:Bytes bs) {s i:Int} (hs:s = 1 ∨ s = 2 ∨ s = 4) (hi:0 ≤ i):(ld bs s i = .non ∨ Num (ld bs s i)) ∧ (∀ μ,f_p_loaded [pk bs,.int s,.int i] μ = .ok (ld bs s i) μ) ∧ ∀ μ,f_bytes [pk bs,.int i,.int s] μ = .ok (ld bs s i) μ:=by
  obtain ⟨n,rfl⟩:=Int.eq_ofNat_of_zero_le hi
  obtain ⟨d,h1,h2,h3⟩:=loads2 (st:=n) hB hs
  have:ld bs s n = d:=by unfold ld; rw [h3]; rfl
  rw [this]
  exact ⟨h1,h2,h3⟩
theorem cp_eq {x:List Nat} (hx:x ∈ cpL) (i j:Int):∃ b,cp x i j = .bl b ∧ ∀ μ,f_p_compared [.str x,.int i,.int j] μ = .ok (.bl b) μ:=by
  revert hx
  revert x
  show ∀ x ∈ cpL,_
  exact cp_all ⟨⟨_,rfl,fun _ => rfl⟩,⟨_,rfl,fun _ => rfl⟩,⟨_,rfl,fun _ => rfl⟩,⟨_,rfl,fun _ => rfl⟩,⟨_,rfl,fun _ => rfl⟩,⟨_,rfl,fun _ => rfl⟩⟩
theorem N.num_ev {bs:List Int} (hB:Bytes bs):∀ a:N,a.ok → a.ev bs = .non ∨ Num (a.ev bs)
  | .num k,h => .inr ⟨k,rfl,h.1,h.2⟩
  | .len,_ => .inr ⟨_,rfl,by omega,by have:=hB.2; omega⟩
  | .load s a,h => by
    rcases N.num_ev hB a h.2 with e | ⟨i,e,h1,h2⟩
    · exact .inl (by simp only [N.ev]; rw [e]; rfl)
    · simp only [N.ev]; rw [e]; exact (ld_eq hB h.1 h1).1
  | .op x a b,h => by
    rcases N.num_ev hB a h.2.1 with e | ⟨i,e,h1,h2⟩
    · exact .inl (by simp only [N.ev]; rw [e]; rfl)
    · rcases N.num_ev hB b h.2.2 with e' | ⟨j,e',h1',h2'⟩
      · exact .inl (by simp only [N.ev]; rw [e,e']; rfl)
      · simp only [N.ev]; rw [e,e']; exact (rk_eq h.1 h1 h2 h1' h2').1
theorem B.bl_ev {bs:List Int} (hB:Bytes bs):∀ a:B,a.ok → a.ev bs = .non ∨ ∃ b,a.ev bs = .bl b
  | .tru b,_ => .inr ⟨b,rfl⟩
  | .nt a,h => by
    rcases B.bl_ev hB a h with e | ⟨b,e⟩
    · exact .inl (by simp only [B.ev]; rw [e]; rfl)
    · exact .inr ⟨_,by simp only [B.ev]; rw [e]; rfl⟩
  | .both a b,h => by
    rcases B.bl_ev hB a h.1 with e | ⟨k,e⟩
    · exact .inl (by simp only [B.ev]; rw [e]; rfl)
    · simp only [B.ev]; rw [e]
      cases k
      · exact .inr ⟨false,rfl⟩
      · exact B.bl_ev hB b h.2
  | .eith a b,h => by
    rcases B.bl_ev hB a h.1 with e | ⟨k,e⟩
    · exact .inl (by simp only [B.ev]; rw [e]; rfl)
    · simp only [B.ev]; rw [e]
      cases k
      · exact B.bl_ev hB b h.2
      · exact .inr ⟨true,rfl⟩
  | .cmp x a b,h => by
    rcases N.num_ev hB a h.2.1 with e | ⟨i,e,h1,h2⟩
    · exact .inl (by simp only [B.ev]; rw [e]; rfl)
    · rcases N.num_ev hB b h.2.2 with e' | ⟨j,e',h1',h2'⟩
      · exact .inl (by simp only [B.ev]; rw [e,e']; rfl)
      · obtain ⟨k,ek,_⟩:=cp_eq h.1 i j
        exact .inr ⟨k,by simp only [B.ev]; rw [e,e']; exact ek⟩
theorem idx0 (y:D) (r:List D):gIdx (.tup (y :: r)) (.int 0) = some y:=by
  show atI (y :: r) 0 = _
  rw [atI_pos (by decide)]
  rfl
theorem rc_w (k:Nat):rc_worth (k + 1) 0 = fnOf 3 (b_worth (rc_worth k)):=rfl
theorem rc_s (k:Nat):rc_says (k + 1) 0 = fnOf 3 (b_says (rc_says k)):=rfl
theorem opN:∀ x ∈ opL,gEq (.str x) (.str w_number) = some (.bl false) ∧ gEq (.str x) (.str w_len) = some (.bl false) ∧ gEq (.str x) (.str w_load) = some (.bl false):=op_all ⟨⟨rfl,rfl,rfl⟩,⟨rfl,rfl,rfl⟩,⟨rfl,rfl,rfl⟩,⟨rfl,rfl,rfl⟩,⟨rfl,rfl,rfl⟩,⟨rfl,rfl,rfl⟩,⟨rfl,rfl,rfl⟩,⟨rfl,rfl,rfl⟩,⟨rfl,rfl,rfl⟩,⟨rfl,rfl,rfl⟩⟩
theorem worth_eq {bs:List Int} (hB:Bytes bs):∀ (a:N) (k:Nat),a.ok → a.dp ≤ k → ∀ μ,rc_worth k 0 [a.d,pk bs] μ = .ok (a.ev bs) μ
  | a,0,h,hk,μ => absurd hk (by cases a <;> simp [N.dp])
  | .num i,k + 1,h,hk,μ => by rw [rc_w]; exact v_fn 3 (v_take rfl rfl)
  | .len,k + 1,h,hk,μ => by
    rw [rc_w]
    have:(bs.map D.int).length = bs.length:=List.length_map _
    simp only [N.ev]
    rw [← this]
    exact v_fn 3 ((v_skip rfl).trans (v_take rfl rfl))
  | .load s a,k + 1,h,hk,μ => by
    rw [rc_w]
    have ih:=worth_eq hB a k h.2 (by simp only [N.dp] at hk; omega) μ
    simp only [N.ev]
    rcases N.num_ev hB a h.2 with e | ⟨i,e,h1,h2⟩
    · rw [e] at ih ⊢
      exact v_fn 3 ((v_skip rfl).trans ((v_skip rfl).trans (v_seqR ((v_iteT rfl).trans ((v_set 2 (v_call rfl ih)).trans (v_ret ((v_ifT rfl).trans rfl)))))))
    · rw [e] at ih ⊢
      exact v_fn 3 ((v_skip rfl).trans ((v_skip rfl).trans (v_seqR ((v_iteT rfl).trans ((v_set 2 (v_call rfl ih)).trans (v_ret ((v_ifF rfl).trans (v_call rfl ((ld_eq hB h.1 h1).2.2 μ)))))))))
  | .op x a b,k + 1,h,hk,μ => by
    rw [rc_w]
    have hk':max a.dp b.dp + 1 ≤ k + 1:=hk
    have ih:=worth_eq hB a k h.2.1 (by omega) μ
    have ih':=worth_eq hB b k h.2.2 (by omega) μ
    obtain ⟨o1,o2,o3⟩:=opN x h.1
    simp only [N.ev]
    rcases N.num_ev hB a h.2.1 with e | ⟨i,e,h1,h2⟩
    · rw [e] at ih ⊢
      exact v_fn 3 ((v_skip (v_test (v_bin (x:=.str x) (v_bin (x:=.tup [.str x,a.d,b.d]) rfl rfl (idx0 _ _)) rfl o1))).trans ((v_skip (v_test (v_bin (x:=.str x) (v_bin (x:=.tup [.str x,a.d,b.d]) rfl rfl (idx0 _ _)) rfl o2))).trans ((v_skip (v_test (v_bin (x:=.str x) (v_bin (x:=.tup [.str x,a.d,b.d]) rfl rfl (idx0 _ _)) rfl o3))).trans ((v_set 3 (v_call rfl ih)).trans ((v_set 4 ((v_ifT rfl).trans rfl)).trans (v_ret ((v_ifT rfl).trans rfl)))))))
    · rw [e] at ih ⊢
      rcases N.num_ev hB b h.2.2 with e' | ⟨j,e',h1',h2'⟩
      · rw [e'] at ih' ⊢
        exact v_fn 3 ((v_skip (v_test (v_bin (x:=.str x) (v_bin (x:=.tup [.str x,a.d,b.d]) rfl rfl (idx0 _ _)) rfl o1))).trans ((v_skip (v_test (v_bin (x:=.str x) (v_bin (x:=.tup [.str x,a.d,b.d]) rfl rfl (idx0 _ _)) rfl o2))).trans ((v_skip (v_test (v_bin (x:=.str x) (v_bin (x:=.tup [.str x,a.d,b.d]) rfl rfl (idx0 _ _)) rfl o3))).trans ((v_set 3 (v_call rfl ih)).trans ((v_set 4 ((v_ifF rfl).trans (v_call rfl ih'))).trans (v_ret ((v_ifT rfl).trans rfl)))))))
      · rw [e'] at ih' ⊢
        exact v_fn 3 ((v_skip (v_test (v_bin (x:=.str x) (v_bin (x:=.tup [.str x,a.d,b.d]) rfl rfl (idx0 _ _)) rfl o1))).trans ((v_skip (v_test (v_bin (x:=.str x) (v_bin (x:=.tup [.str x,a.d,b.d]) rfl rfl (idx0 _ _)) rfl o2))).trans ((v_skip (v_test (v_bin (x:=.str x) (v_bin (x:=.tup [.str x,a.d,b.d]) rfl rfl (idx0 _ _)) rfl o3))).trans ((v_set 3 (v_call rfl ih)).trans ((v_set 4 ((v_ifF rfl).trans (v_call rfl ih'))).trans (v_ret ((v_ifF rfl).trans (v_call (v_cons (v_bin (x:=.tup [.str x,a.d,b.d]) rfl rfl (idx0 _ _)) (v_cons rfl (v_cons rfl v_nil))) ((rk_eq h.1 h1 h2 h1' h2').2.2 μ)))))))))
end K13
set_option Elab.async false
set_option linter.all false
set_option maxRecDepth 100000
set_option maxHeartbeats 400000
namespace K13
open PySem PySem.Spec PyProof.Rows L2 M
noncomputable def sv:D → Int
  | .bl true => 1
  | .bl false => 0
  | _ => -1
theorem put_new {ν:Mu} {ks:List DK} {ds:List D} {ρ:En} {i v:D} {q:DK} (hi:keyD i = some q) (hk:ks.length < 16777216) (hq:(ks.any fun k => decide (k = q)) = false):putC ρ (.ref ν.length) i v (ν ++ [.dic ks ds]) = .ok (.nx ρ) (ν ++ [.dic (ks ++ [q]) (ds ++ [v])]):=by
  have e1:(ν ++ [Cell.dic ks ds])[ν.length]? = some (.dic ks ds):=by
    rw [List.getElem?_append_right (Nat.le_refl _),Nat.sub_self]
    rfl
  unfold putC
  dsimp only
  rw [e1,hi]
  dsimp only
  rw [if_pos hk,hq,if_neg (by decide),List.set_append_right _ _ (Nat.le_refl _),Nat.sub_self]
  rfl
theorem d_last {ν:Mu} {ks:List DK} {ds:List D}:deref (ν ++ [.dic ks ds]) (.ref ν.length) = .dic ks ds:=by
  unfold deref
  dsimp only
  rw [List.getElem?_append_right (Nat.le_refl _),Nat.sub_self]
  rfl
theorem v_putC {mo mi mv:MX} {ρ:En} {μ:Mu} {c i v:D} (hv:mv ρ μ = .ok v μ) (ho:mo ρ μ = .ok c μ) (hi:mi ρ μ = .ok i μ):mPut mo mi mv ρ μ = putC ρ c i v μ:=by
  unfold mPut
  rw [hv,bind_ok,ho,bind_ok,hi,bind_ok]
theorem v_dicC {ks:List DK} {ms:MAs} {ρ:En} {μ μ1:Mu} {ds:List D} (h:ms ρ μ = .ok ds μ1):mDicC ks ms ρ μ = .ok (.ref μ1.length) (μ1 ++ [.dic ks ds]):=by
  unfold mDicC
  rw [h]
  rfl
theorem cpN:∀ x ∈ cpL,gEq (.str x) (.str w_truth) = some (.bl false) ∧ gIn (.str x) (.tup [.str w_not,.str w_both,.str w_either]) = some (.bl false):=cp_all ⟨⟨rfl,rfl⟩,⟨rfl,rfl⟩,⟨rfl,rfl⟩,⟨rfl,rfl⟩,⟨rfl,rfl⟩,⟨rfl,rfl⟩⟩
section
variable {bs:List Int}
theorem says_cmp (hB:Bytes bs) {x:List Nat} {a b:N} (hx:x ∈ cpL) (ha:a.ok) (hb:b.ok) (da:a.dp ≤ 12) (db:b.dp ≤ 12) (R:Nat → Fn) (μ:Mu):∃ μ',fnOf 3 (b_says R) [(B.cmp x a b).d,pk bs] μ = .ok (.int (sv ((B.cmp x a b).ev bs))) μ':=by
  obtain ⟨c1,c2⟩:=cpN x hx
  have wa:=worth_eq hB a 12 ha da μ
  have wb:=worth_eq hB b 12 hb db μ
  have hd:∀ {r:MSt} {m1 m2:MSt},mSeq (mIte (mTest (mBin gEq (mBin gIdx (mVar 0) (mC (.int 0))) (mC (.str w_truth)))) m1 mSkip) (mSeq (mIte (mTest (mBin gIn (mBin gIdx (mVar 0) (mC (.int 0))) (mTup (mCons (mC (.str w_not)) (mCons (mC (.str w_both)) (mCons (mC (.str w_either)) mNil)))))) m2 mSkip) r) [some (.tup [.str x,a.d,b.d]),some (pk bs),none,none,none] μ = r [some (.tup [.str x,a.d,b.d]),some (pk bs),none,none,none] μ:=fun {r m1 m2} =>
    (v_skip (v_test (v_bin (x:=.str x) (v_bin (x:=.tup [.str x,a.d,b.d]) rfl rfl (idx0 _ _)) rfl c1))).trans (v_skip (v_test (v_bin (x:=.str x) (v_bin (x:=.tup [.str x,a.d,b.d]) rfl rfl (idx0 _ _)) rfl c2)))
  show ∃ μ',fnOf 3 (b_says R) [.tup [.str x,a.d,b.d],pk bs] μ = .ok (.int (sv (bi (cp x) (a.ev bs) (b.ev bs)))) μ'
  rcases N.num_ev hB a ha with e | ⟨i,e,h1,h2⟩
  · rw [e] at wa ⊢
    exact ⟨μ,v_fn 3 (hd.trans ((v_set 2 (v_call rfl wa)).trans ((v_set 3 ((v_ifT rfl).trans rfl)).trans (v_take rfl rfl))))⟩
  · rw [e] at wa ⊢
    rcases N.num_ev hB b hb with e' | ⟨j,e',h1',h2'⟩
    · rw [e'] at wb ⊢
      exact ⟨μ,v_fn 3 (hd.trans ((v_set 2 (v_call rfl wa)).trans ((v_set 3 ((v_ifF rfl).trans (v_call rfl wb))).trans (v_take rfl rfl))))⟩
    · rw [e'] at wb ⊢
      refine ⟨μ ++ [.dic [.inr w_same,.inr w_unlike,.inr w_below,.inr w_above,.inr w_most,.inr w_least] [.bl (i == j),.bl (!(i == j)),.bl (decide (i < j)),.bl (decide (i > j)),.bl (decide (i ≤ j)),.bl (decide (i ≥ j))]],?_⟩
      have fin:∀ {k:Bool},lookK [.inr w_same,.inr w_unlike,.inr w_below,.inr w_above,.inr w_most,.inr w_least] [.bl (i == j),.bl (!(i == j)),.bl (decide (i < j)),.bl (decide (i > j)),.bl (decide (i ≤ j)),.bl (decide (i ≥ j))] (.inr x) = some (.bl k) → fnOf 3 (b_says R) [.tup [.str x,a.d,b.d],pk bs] μ = .ok (.int (if k then 1 else 0)) (μ ++ [.dic [.inr w_same,.inr w_unlike,.inr w_below,.inr w_above,.inr w_most,.inr w_least] [.bl (i == j),.bl (!(i == j)),.bl (decide (i < j)),.bl (decide (i > j)),.bl (decide (i ≤ j)),.bl (decide (i ≥ j))]]):=fun {k} hk => by
        refine v_fn 3 (hd.trans ((v_set 2 (v_call rfl wa)).trans ((v_set 3 ((v_ifF rfl).trans (v_call rfl wb))).trans ((v_skip rfl).trans ((v_set 4 (v_dicC (ds:=[.bl (i == j),.bl (!(i == j)),.bl (decide (i < j)),.bl (decide (i > j))]) (v_cons (v_bin rfl rfl (g_eqI _ _)) (v_cons (v_bin rfl rfl (g_neI _ _)) (v_cons (v_bin rfl rfl (g_lt _ _)) (v_cons (v_bin rfl rfl (g_gt _ _)) v_nil)))))).trans ((v_seqN ((v_putC (v_bin rfl rfl (g_le _ _)) rfl rfl).trans (put_new rfl (by decide) (by decide)))).trans ((v_seqN ((v_putC (v_bin rfl rfl (g_ge _ _)) rfl rfl).trans (put_new rfl (by decide) (by decide)))).trans (v_ret (v_callB (d:=.int (if k then 1 else 0)) (v_cons (d:=.bl k) (v_bin (x:=.ref μ.length) (y:=.str x) rfl (v_bin (x:=.tup [.str x,a.d,b.d]) rfl rfl (idx0 _ _)) ?_) v_nil) ?_)))))))))
        · rw [d_last]
          exact hk
        · cases k <;> rfl
      have ho:∃ k,lookK [.inr w_same,.inr w_unlike,.inr w_below,.inr w_above,.inr w_most,.inr w_least] [.bl (i == j),.bl (!(i == j)),.bl (decide (i < j)),.bl (decide (i > j)),.bl (decide (i ≤ j)),.bl (decide (i ≥ j))] (.inr x) = some (.bl k) ∧ cp x i j = .bl k:=by
        clear fin hd c1 c2
        revert hx
        revert x
        show ∀ x ∈ cpL,_
        exact cp_all ⟨⟨_,rfl,rfl⟩,⟨_,rfl,rfl⟩,⟨_,rfl,rfl⟩,⟨_,rfl,rfl⟩,⟨_,rfl,rfl⟩,⟨_,rfl,rfl⟩⟩
      obtain ⟨k,hk,ek⟩:=ho
      rw [fin hk]
      show Res.ok (D.int (if k then 1 else 0)) _ = .ok (.int (sv (cp x i j))) _
      rw [ek]
      cases k <;> rfl
end
end K13
set_option Elab.async false
set_option linter.all false
set_option maxRecDepth 100000
set_option maxHeartbeats 400000
namespace K13
open PySem PySem.Spec PyProof.Rows L2 M
noncomputable def B.nd:B → Prop
  | .tru _ => True
  | .nt a => a.nd
  | .both a b => a.nd ∧ b.nd
  | .eith a b => a.nd ∧ b.nd
  | .cmp _ a b => a.dp ≤ 12 ∧ b.dp ≤ 12
section
variable {bs:List Int}
theorem says_eq (hB:Bytes bs):∀ (a:B) (k:Nat),a.ok → a.nd → a.dp ≤ k → ∀ μ,∃ μ',rc_says k 0 [a.d,pk bs] μ = .ok (.int (sv (a.ev bs))) μ'
  | a,0,h,hn,hk,μ => absurd hk (by cases a <;> simp [B.dp])
  | .tru b,k + 1,h,hn,hk,μ => ⟨μ,by rw [rc_s]; cases b <;> exact v_fn 3 (v_take rfl rfl)⟩
  | .cmp x a b,k + 1,h,hn,hk,μ => by
    rw [rc_s]
    exact says_cmp hB h.1 h.2.1 h.2.2 hn.1 hn.2 _ μ
  | .nt a,k + 1,h,hn,hk,μ => by
    rw [rc_s]
    obtain ⟨μ1,ih⟩:=says_eq hB a k h hn (by simp only [B.dp] at hk; omega) μ
    refine ⟨μ1,?_⟩
    show fnOf 3 (b_says (rc_says k)) [.tup [.str w_not,a.d],pk bs] μ = .ok (.int (sv (notD (a.ev bs)))) μ1
    rcases B.bl_ev hB a h with e | ⟨b,e⟩
    · rw [e] at ih ⊢
      exact v_fn 3 ((v_skip rfl).trans (v_seqR ((v_iteT rfl).trans ((v_set 2 (v_call rfl ih)).trans (v_take (v_orT rfl) ((v_ifT rfl).trans rfl))))))
    · rw [e] at ih ⊢
      cases b
      · exact v_fn 3 ((v_skip rfl).trans (v_seqR ((v_iteT rfl).trans ((v_set 2 (v_call rfl ih)).trans (v_take ((v_orF rfl).trans rfl) ((v_ifF rfl).trans rfl))))))
      · exact v_fn 3 ((v_skip rfl).trans (v_seqR ((v_iteT rfl).trans ((v_set 2 (v_call rfl ih)).trans (v_take ((v_orF rfl).trans rfl) ((v_ifF rfl).trans rfl))))))
  | .both a b,k + 1,h,hn,hk,μ => by
    rw [rc_s]
    have hk':max a.dp b.dp + 1 ≤ k + 1:=hk
    obtain ⟨μ1,ih⟩:=says_eq hB a k h.1 hn.1 (by omega) μ
    obtain ⟨μ2,ih2⟩:=says_eq hB b k h.2 hn.2 (by omega) μ1
    show ∃ μ',fnOf 3 (b_says (rc_says k)) [.tup [.str w_both,a.d,b.d],pk bs] μ = .ok (.int (sv (joinD false (a.ev bs) (b.ev bs)))) μ'
    rcases B.bl_ev hB a h.1 with e | ⟨c,e⟩
    · rw [e] at ih ⊢
      exact ⟨μ1,v_fn 3 ((v_skip rfl).trans (v_seqR ((v_iteT rfl).trans ((v_set 2 (v_call rfl ih)).trans (v_take (v_orT rfl) ((v_ifT rfl).trans rfl))))))⟩
    · rw [e] at ih ⊢
      cases c
      · exact ⟨μ1,v_fn 3 ((v_skip rfl).trans (v_seqR ((v_iteT rfl).trans ((v_set 2 (v_call rfl ih)).trans ((v_skip ((v_orF rfl).trans rfl)).trans (v_ret ((v_ifT rfl).trans rfl)))))))⟩
      · exact ⟨μ2,v_fn 3 ((v_skip rfl).trans (v_seqR ((v_iteT rfl).trans ((v_set 2 (v_call rfl ih)).trans ((v_skip ((v_orF rfl).trans rfl)).trans (v_ret ((v_ifF rfl).trans (v_call rfl ih2))))))))⟩
  | .eith a b,k + 1,h,hn,hk,μ => by
    rw [rc_s]
    have hk':max a.dp b.dp + 1 ≤ k + 1:=hk
    obtain ⟨μ1,ih⟩:=says_eq hB a k h.1 hn.1 (by omega) μ
    obtain ⟨μ2,ih2⟩:=says_eq hB b k h.2 hn.2 (by omega) μ1
    show ∃ μ',fnOf 3 (b_says (rc_says k)) [.tup [.str w_either,a.d,b.d],pk bs] μ = .ok (.int (sv (joinD true (a.ev bs) (b.ev bs)))) μ'
    rcases B.bl_ev hB a h.1 with e | ⟨c,e⟩
    · rw [e] at ih ⊢
      exact ⟨μ1,v_fn 3 ((v_skip rfl).trans (v_seqR ((v_iteT rfl).trans ((v_set 2 (v_call rfl ih)).trans (v_take (v_orT rfl) ((v_ifT rfl).trans rfl))))))⟩
    · rw [e] at ih ⊢
      cases c
      · exact ⟨μ2,v_fn 3 ((v_skip rfl).trans (v_seqR ((v_iteT rfl).trans ((v_set 2 (v_call rfl ih)).trans ((v_skip ((v_orF rfl).trans rfl)).trans (v_ret ((v_ifF rfl).trans (v_call rfl ih2))))))))⟩
      · exact ⟨μ1,v_fn 3 ((v_skip rfl).trans (v_seqR ((v_iteT rfl).trans ((v_set 2 (v_call rfl ih)).trans ((v_skip ((v_orF rfl).trans rfl)).trans (v_ret ((v_ifT rfl).trans rfl)))))))⟩
end
noncomputable def pm (μ0:Mu) (W V:List D):Mu:=μ0 ++ [.lst W,.lst V]
section
variable {μ0:Mu} {W V:List D} {ρ:En} {m mo:MX} {d y:D}
theorem pm_w:(pm μ0 W V)[μ0.length]? = some (.lst W):=by
  unfold pm
  rw [List.getElem?_append_right (Nat.le_refl _),Nat.sub_self]
  rfl
theorem pm_v:(pm μ0 W V)[μ0.length + 1]? = some (.lst V):=by
  unfold pm
  rw [List.getElem?_append_right (by omega),show μ0.length + 1 - μ0.length = 1 by omega]
  rfl
theorem dr_w:deref (pm μ0 W V) (.ref μ0.length) = .lst W:=by
  unfold deref
  dsimp only
  rw [pm_w]
theorem dr_v:deref (pm μ0 W V) (.ref (μ0.length + 1)) = .lst V:=by
  unfold deref
  dsimp only
  rw [pm_v]
theorem set_w (L:List D):(pm μ0 W V).set μ0.length (.lst L) = pm μ0 L V:=by
  unfold pm
  rw [List.set_append_right _ _ (Nat.le_refl _),Nat.sub_self]
  rfl
theorem set_v (L:List D):(pm μ0 W V).set (μ0.length + 1) (.lst L) = pm μ0 W L:=by
  unfold pm
  rw [List.set_append_right _ _ (by omega),show μ0.length + 1 - μ0.length = 1 by omega]
  rfl
theorem pop_w (h:mo ρ (pm μ0 (W ++ [y]) V) = .ok (.ref μ0.length) (pm μ0 (W ++ [y]) V)):mPop mo ρ (pm μ0 (W ++ [y]) V) = .ok y (pm μ0 W V):=by
  unfold mPop
  rw [h,bind_ok]
  unfold popC
  dsimp only
  rw [pm_w]
  dsimp only
  rw [List.length_append,List.length_singleton,Nat.add_sub_cancel,List.getElem?_append_right (Nat.le_refl _),Nat.sub_self]
  show Res.ok y ((pm μ0 (W ++ [y]) V).set μ0.length (.lst (W ++ [y]).dropLast)) = _
  rw [set_w,List.dropLast_concat]
theorem pop_v (h:mo ρ (pm μ0 W (V ++ [y])) = .ok (.ref (μ0.length + 1)) (pm μ0 W (V ++ [y]))):mPop mo ρ (pm μ0 W (V ++ [y])) = .ok y (pm μ0 W V):=by
  unfold mPop
  rw [h,bind_ok]
  unfold popC
  dsimp only
  rw [pm_v]
  dsimp only
  rw [List.length_append,List.length_singleton,Nat.add_sub_cancel,List.getElem?_append_right (Nat.le_refl _),Nat.sub_self]
  show Res.ok y ((pm μ0 W (V ++ [y])).set (μ0.length + 1) (.lst (V ++ [y]).dropLast)) = _
  rw [set_v,List.dropLast_concat]
theorem app_v {V':List D} (h:mo ρ (pm μ0 W V) = .ok (.ref (μ0.length + 1)) (pm μ0 W V)) (hm:m ρ (pm μ0 W V) = .ok y (pm μ0 W V')) (hl:V'.length < 16777216):mDrop (mAppend mo m) ρ (pm μ0 W V) = .ok (.nx ρ) (pm μ0 W (V' ++ [y])):=by
  unfold mDrop mAppend
  rw [h,bind_ok,dr_v,if_pos (show isLst (D.lst _) = true from rfl),hm,bind_ok]
  unfold appC
  dsimp only
  rw [pm_v]
  dsimp only
  rw [if_pos hl,set_v]
  rfl
theorem app_w (h:mo ρ (pm μ0 W V) = .ok (.ref μ0.length) (pm μ0 W V)) (hm:m ρ (pm μ0 W V) = .ok y (pm μ0 W V)) (hl:W.length < 16777216):mDrop (mAppend mo m) ρ (pm μ0 W V) = .ok (.nx ρ) (pm μ0 (W ++ [y]) V):=by
  unfold mDrop mAppend
  rw [h,bind_ok,dr_w,if_pos (show isLst (D.lst _) = true from rfl),hm,bind_ok]
  unfold appC
  dsimp only
  rw [pm_w]
  dsimp only
  rw [if_pos hl,set_w]
  rfl
theorem ext_w {L:List D} (h:mo ρ (pm μ0 W V) = .ok (.ref μ0.length) (pm μ0 W V)) (hm:m ρ (pm μ0 W V) = .ok (.lst L) (pm μ0 W V)) (hl:W.length + L.length ≤ 16777216):mDrop (mExtend mo m) ρ (pm μ0 W V) = .ok (.nx ρ) (pm μ0 (W ++ L) V):=by
  unfold mDrop mExtend
  rw [h,bind_ok,dr_w,if_pos (show isLst (D.lst _) = true from rfl),hm,bind_ok]
  unfold extC
  dsimp only
  rw [pm_w]
  show Res.bind (if W.length + L.length ≤ 16777216 then _ else _) _ = _
  rw [if_pos hl,set_w]
  rfl
end
end K13
set_option Elab.async false
set_option linter.all false
set_option maxRecDepth 100000
set_option maxHeartbeats 400000
namespace K13
open PySem PySem.Spec PyProof.Rows L2 M
noncomputable abbrev askD (t:D):D:=.tup [.str w_ask,t]
noncomputable abbrev ansD (t:D):D:=.tup [.str w_answer,t]
noncomputable abbrev tW:MB:=mTest (mBin gGt (mCallB gLen (mCons (mVar 2) mNil)) (mC (.int 0)))
noncomputable abbrev eT (t0:Option D) (bs:List Int) (μ0:Mu) (x4:Option D):En:=[t0,some (pk bs),some (.ref μ0.length),some (.ref (μ0.length + 1)),x4]
noncomputable abbrev chk:MSt:=(mIte (mAnd (mTest (mBin gGt (mCallB gLen (mCons (mVar 3) mNil)) (mC (.int 0)))) (mTest (mIsN (mBin gIdx (mVar 3) (mNeg (mC (.int 1)))))))
    (mRet (mC (.bl false)))
    mSkip)
section
variable {t0:Option D} {bs:List Int} {μ0:Mu} {W V:List D} {x4:Option D}
theorem last_at (V:List D) (y:D):gIdx (.lst (V ++ [y])) (.int (-1)) = some y:=by
  show atI (V ++ [y]) (-1) = _
  have hl:(V ++ [y]).length = V.length + 1:=by rw [List.length_append,List.length_singleton]
  rw [atI_neg (by decide) (by rw [hl]; omega),hl,show ((-1:Int) + ((V.length + 1:Nat):Int)).toNat = V.length by omega,List.getElem?_append_right (Nat.le_refl _),Nat.sub_self]
  rfl
theorem wh_len (h:0 < W.length):tW (eT t0 bs μ0 x4) (pm μ0 W V) = .ok true (pm μ0 W V):=by
  refine v_test (v_bin (x:=.int W.length) (y:=.int 0) (v_callB (v_cons rfl v_nil) ?_) rfl ?_)
  · show gLen [deref (pm μ0 W V) (.ref μ0.length)] = _
    rw [dr_w]
    rfl
  · rw [deref_int,deref_int,g_gt,decide_eq_true (by omega)]
theorem wh_nil:tW (eT t0 bs μ0 x4) (pm μ0 [] V) = .ok false (pm μ0 [] V):=by
  refine v_test (v_bin (x:=.int 0) (y:=.int 0) (v_callB (v_cons rfl v_nil) ?_) rfl rfl)
  show gLen [deref (pm μ0 [] V) (.ref μ0.length)] = _
  rw [dr_w]
  rfl
theorem v_last {y:D} {ρ:En} (h3:ρ[3]? = some (some (.ref (μ0.length + 1)))):mBin gIdx (mVar 3) (mNeg (mC (.int 1))) ρ (pm μ0 W (V ++ [y])) = .ok y (pm μ0 W (V ++ [y])):=by
  refine v_bin (x:=.ref (μ0.length + 1)) (y:=.int (-1)) (v_var 3 h3) rfl ?_
  rw [dr_v]
  exact last_at V y
theorem chk_len (b:Bool) (hb:decide (0 < V.length) = b):mTest (mBin gGt (mCallB gLen (mCons (mVar 3) mNil)) (mC (.int 0))) (eT t0 bs μ0 x4) (pm μ0 W V) = .ok b (pm μ0 W V):=by
  refine v_test (v_bin (x:=.int V.length) (y:=.int 0) (v_callB (v_cons rfl v_nil) ?_) rfl ?_)
  · show gLen [deref (pm μ0 W V) (.ref (μ0.length + 1))] = _
    rw [dr_v]
    rfl
  · rw [deref_int,deref_int,g_gt,← hb]
    congr 2
    simp
noncomputable def Vok (V:List D):Prop:=∀ d ∈ V,M.isN d = false
theorem chk_ok (h:Vok V):chk (eT t0 bs μ0 x4) (pm μ0 W V) = .ok (.nx (eT t0 bs μ0 x4)) (pm μ0 W V):=by
  rcases List.eq_nil_or_concat V with rfl | ⟨V0,y,hc⟩
  · exact (v_iteF (v_andF (chk_len false rfl))).trans rfl
  · rw [List.concat_eq_append] at hc
    subst hc
    refine (v_iteF ((v_andT (chk_len true (by simp))).trans (v_test ?_))).trans rfl
    unfold mIsN
    rw [v_last rfl]
    show Res.ok (D.bl (M.isN y)) _ = _
    rw [h y (by simp)]
theorem chk_bad:chk (eT t0 bs μ0 x4) (pm μ0 W (V ++ [.non])) = .ok (.rt (.bl false)) (pm μ0 W (V ++ [.non])):=by
  refine (v_iteT ((v_andT (chk_len true (by simp))).trans (v_test ?_))).trans rfl
  unfold mIsN
  rw [v_last rfl]
  rfl
theorem turn_ask {t:D} {W' V':List D} (e:f_p_ask [t,pk bs,.ref μ0.length,.ref (μ0.length + 1)] (pm μ0 W V) = .ok .non (pm μ0 W' V')):l_p_takes_1 (eT t0 bs μ0 x4) (pm μ0 (W ++ [askD t]) V) = chk (eT t0 bs μ0 (some (askD t))) (pm μ0 W' V') :=
  (v_set 4 (pop_w rfl)).trans (v_seqN ((v_iteT rfl).trans (v_drop (v_call rfl e))))
theorem turn_ans {t:D} {W' V':List D} (e:f_p_answer [t,pk bs,.ref μ0.length,.ref (μ0.length + 1)] (pm μ0 W V) = .ok .non (pm μ0 W' V')):l_p_takes_1 (eT t0 bs μ0 x4) (pm μ0 (W ++ [ansD t]) V) = chk (eT t0 bs μ0 (some (ansD t))) (pm μ0 W' V') :=
  (v_set 4 (pop_w rfl)).trans (v_seqN ((v_iteF rfl).trans (v_drop (v_call rfl e))))
end
section
variable (t0:Option D) (bs:List Int) (μ0:Mu)
noncomputable def Runs (c:Nat) (W V W' V':List D):Prop:=∀ k x4,∃ k' x4',k ≤ k' ∧ whGo tW l_p_takes_1 (k + c) (eT t0 bs μ0 x4) (pm μ0 W V) = whGo tW l_p_takes_1 k' (eT t0 bs μ0 x4') (pm μ0 W' V')
noncomputable def Fails (c:Nat) (W V:List D):Prop:=∀ k x4,∃ μ',whGo tW l_p_takes_1 (k + c) (eT t0 bs μ0 x4) (pm μ0 W V) = .ok (.rt (.bl false)) μ'
end
section
variable {t0:Option D} {bs:List Int} {μ0:Mu} {W V W' V' W2 V2:List D} {c c1 c2:Nat}
theorem Runs.then (a:Runs t0 bs μ0 c1 W V W' V') (b:Runs t0 bs μ0 c2 W' V' W2 V2):Runs t0 bs μ0 (c1 + c2) W V W2 V2:=fun k x4 => by
  obtain ⟨k1,y4,h1,e1⟩:=a (k + c2) x4
  obtain ⟨k2,z4,h2,e2⟩:=b (k1 - c2) y4
  refine ⟨k2,z4,by omega,?_⟩
  rw [show k + (c1 + c2) = k + c2 + c1 by omega,e1,← e2]
  congr 1
  omega
theorem Runs.fail (a:Runs t0 bs μ0 c1 W V W' V') (b:Fails t0 bs μ0 c2 W' V'):Fails t0 bs μ0 (c1 + c2) W V:=fun k x4 => by
  obtain ⟨k1,y4,h1,e1⟩:=a (k + c2) x4
  obtain ⟨μ',e2⟩:=b (k1 - c2) y4
  refine ⟨μ',?_⟩
  rw [show k + (c1 + c2) = k + c2 + c1 by omega,e1,← e2]
  congr 1
  omega
theorem Runs.more (a:Runs t0 bs μ0 c W V W' V') (e:Nat):Runs t0 bs μ0 (c + e) W V W' V':=fun k x4 => by
  obtain ⟨k1,y4,h1,e1⟩:=a (k + e) x4
  exact ⟨k1,y4,by omega,by rw [← e1]; congr 1; omega⟩
theorem Fails.more (a:Fails t0 bs μ0 c W V) (e:Nat):Fails t0 bs μ0 (c + e) W V:=fun k x4 => by
  obtain ⟨μ',e1⟩:=a (k + e) x4
  exact ⟨μ',by rw [← e1]; congr 1; omega⟩
theorem one {y:D} (h:∀ x4,∃ y4,l_p_takes_1 (eT t0 bs μ0 x4) (pm μ0 (W ++ [y]) V) = .ok (.nx (eT t0 bs μ0 y4)) (pm μ0 W' V')):Runs t0 bs μ0 1 (W ++ [y]) V W' V':=fun k x4 => by
  obtain ⟨y4,e⟩:=h x4
  refine ⟨k,y4,Nat.le_refl _,?_⟩
  rw [whGo,wh_len (by simp),bind_ok,if_pos rfl,e]
  rfl
theorem oneF {y:D} (h:∀ x4,∃ μ',l_p_takes_1 (eT t0 bs μ0 x4) (pm μ0 (W ++ [y]) V) = .ok (.rt (.bl false)) μ'):Fails t0 bs μ0 1 (W ++ [y]) V:=fun k x4 => by
  obtain ⟨μ',e⟩:=h x4
  refine ⟨μ',?_⟩
  rw [whGo,wh_len (by simp),bind_ok,if_pos rfl,e]
  rfl
theorem ask1 {t:D} (e:f_p_ask [t,pk bs,.ref μ0.length,.ref (μ0.length + 1)] (pm μ0 W V) = .ok .non (pm μ0 W' V')) (h:Vok V'):Runs t0 bs μ0 1 (W ++ [askD t]) V W' V':=one fun x4 => ⟨_,(turn_ask e).trans (chk_ok h)⟩
theorem ans1 {t:D} (e:f_p_answer [t,pk bs,.ref μ0.length,.ref (μ0.length + 1)] (pm μ0 W V) = .ok .non (pm μ0 W' V')) (h:Vok V'):Runs t0 bs μ0 1 (W ++ [ansD t]) V W' V':=one fun x4 => ⟨_,(turn_ans e).trans (chk_ok h)⟩
theorem ansF {t:D} (e:f_p_answer [t,pk bs,.ref μ0.length,.ref (μ0.length + 1)] (pm μ0 W V) = .ok .non (pm μ0 W' (V' ++ [.non]))):Fails t0 bs μ0 1 (W ++ [ansD t]) V:=oneF fun x4 => ⟨_,(turn_ans e).trans chk_bad⟩
theorem Vok.snoc {d:D} (h:Vok V) (hd:M.isN d = false):Vok (V ++ [d]):=fun x hx => by
  rcases List.mem_append.mp hx with h1 | h1
  · exact h x h1
  · rw [List.mem_singleton.mp h1]; exact hd
end
end K13
set_option Elab.async false
set_option linter.all false
set_option maxRecDepth 100000
set_option maxHeartbeats 400000
namespace K13
open PySem PySem.Spec PyProof.Rows L2 M
section
variable {t0:Option D} {bs:List Int} {μ0:Mu} {W V:List D}
noncomputable abbrev pEl':MX:=mTup (mCons (mC (.str w_ask)) (mCons (mVar 0) mNil))
theorem asks_eq {t:D} {L:List D} {ρ:En} {μ:Mu} (h0:ρ[0]? = some (some t)) (hp:f_p_parts_ahead [t] μ = .ok (.lst L) μ) (hL:(∃ a,L = [a]) ∨ ∃ a b,L = [a,b]):mComp 1 [] (gN 0) (mOverL (mCall f_p_parts_ahead (mCons (mVar 0) mNil))) mTT pEl' ρ μ = .ok (.lst (L.map askD)) μ:=by
  unfold mComp
  rw [v_over (v_call (v_cons (v_var 0 h0) v_nil) hp),bind_ok]
  rcases hL with ⟨a,rfl⟩ | ⟨a,b,rfl⟩
  · rw [if_pos (by simp)]
    show (compGo (gN 0) mTT pEl' [a] [none] μ []).bind _ = _
    rw [v_comp (ρ1:=[some a]) rfl rfl]
    rfl
  · rw [if_pos (by simp)]
    show (compGo (gN 0) mTT pEl' [a,b] [none] μ []).bind _ = _
    rw [v_comp (ρ1:=[some a]) rfl rfl,v_comp (ρ1:=[some b]) rfl rfl]
    rfl
theorem ask_parts {x:List Nat} {r:List D} {L:List D} (h1:gIn (.str x) (.tup [.str w_number,.str w_truth]) = some (.bl false)) (h2:gEq (.str x) (.str w_len) = some (.bl false)) (hp:∀ μ,f_p_parts_ahead [.tup (.str x :: r)] μ = .ok (.lst L) μ) (hL:(∃ a,L = [a]) ∨ ∃ a b,L = [a,b]) (hW:W.length < 10000) :
    f_p_ask [.tup (.str x :: r),pk bs,.ref μ0.length,.ref (μ0.length + 1)] (pm μ0 W V) = .ok .non (pm μ0 (W ++ [ansD (.tup (.str x :: r))] ++ L.map askD) V):=by
  have hl:L.length ≤ 2:=by rcases hL with ⟨a,rfl⟩ | ⟨a,b,rfl⟩ <;> simp
  exact v_fnN 0 ((v_iteF (v_test (v_bin (x:=.str x) (v_bin rfl rfl (idx0 _ _)) rfl h1))).trans ((v_iteF (v_test (v_bin (x:=.str x) (v_bin rfl rfl (idx0 _ _)) rfl h2))).trans ((v_seqN (app_w rfl rfl (by omega))).trans (ext_w rfl (asks_eq rfl (hp _) hL) (by rw [List.length_map,List.length_append,List.length_singleton]; omega)))))
theorem pa_load {s a:D} (μ:Mu):f_p_parts_ahead [.tup [.str w_load,s,a]] μ = .ok (.lst [a]) μ:=v_fn 0 (v_take rfl rfl)
theorem pa_two {x:List Nat} {a b:D} (h1:gEq (.str x) (.str w_load) = some (.bl false)) (h2:gIn (.str x) (.tup [.str w_not,.str w_both,.str w_either]) = some (.bl false)) (μ:Mu):f_p_parts_ahead [.tup [.str x,a,b]] μ = .ok (.lst [b,a]) μ :=
  v_fn 0 ((v_skip (v_test (v_bin (x:=.str x) (v_bin rfl rfl (idx0 _ _)) rfl h1))).trans ((v_skip (v_test (v_bin (x:=.str x) (v_bin rfl rfl (idx0 _ _)) rfl h2))).trans rfl))
theorem op_x:∀ x ∈ opL,(gIn (.str x) (.tup [.str w_number,.str w_truth]) = some (.bl false) ∧ gEq (.str x) (.str w_len) = some (.bl false) ∧ gEq (.str x) (.str w_load) = some (.bl false)) ∧ (gIn (.str x) (.tup [.str w_not,.str w_both,.str w_either]) = some (.bl false) ∧ gEq (.str x) (.str w_not) = some (.bl false) ∧ gIn (.str x) (.tup [.str w_both,.str w_either]) = some (.bl false) ∧ gIn (.str x) c_OPS = some (.bl true)) :=
  op_all ⟨⟨⟨rfl,rfl,rfl⟩,rfl,rfl,rfl,rfl⟩,⟨⟨rfl,rfl,rfl⟩,rfl,rfl,rfl,rfl⟩,⟨⟨rfl,rfl,rfl⟩,rfl,rfl,rfl,rfl⟩,⟨⟨rfl,rfl,rfl⟩,rfl,rfl,rfl,rfl⟩,⟨⟨rfl,rfl,rfl⟩,rfl,rfl,rfl,rfl⟩,⟨⟨rfl,rfl,rfl⟩,rfl,rfl,rfl,rfl⟩,⟨⟨rfl,rfl,rfl⟩,rfl,rfl,rfl,rfl⟩,⟨⟨rfl,rfl,rfl⟩,rfl,rfl,rfl,rfl⟩,⟨⟨rfl,rfl,rfl⟩,rfl,rfl,rfl,rfl⟩,⟨⟨rfl,rfl,rfl⟩,rfl,rfl,rfl,rfl⟩⟩
theorem cp_x:∀ x ∈ cpL,(gIn (.str x) (.tup [.str w_number,.str w_truth]) = some (.bl false) ∧ gEq (.str x) (.str w_len) = some (.bl false) ∧ gEq (.str x) (.str w_load) = some (.bl false)) ∧ (gIn (.str x) (.tup [.str w_not,.str w_both,.str w_either]) = some (.bl false) ∧ gEq (.str x) (.str w_not) = some (.bl false) ∧ gIn (.str x) (.tup [.str w_both,.str w_either]) = some (.bl false) ∧ gIn (.str x) c_OPS = some (.bl false)) :=
  cp_all ⟨⟨⟨rfl,rfl,rfl⟩,rfl,rfl,rfl,rfl⟩,⟨⟨rfl,rfl,rfl⟩,rfl,rfl,rfl,rfl⟩,⟨⟨rfl,rfl,rfl⟩,rfl,rfl,rfl,rfl⟩,⟨⟨rfl,rfl,rfl⟩,rfl,rfl,rfl,rfl⟩,⟨⟨rfl,rfl,rfl⟩,rfl,rfl,rfl,rfl⟩,⟨⟨rfl,rfl,rfl⟩,rfl,rfl,rfl,rfl⟩⟩
theorem ans_load {s:Int} {a v:D} {i:Int} (hl:∀ μ,f_p_loaded [pk bs,.int s,.int i] μ = .ok v μ) (hV:V.length < 10000):f_p_answer [.tup [.str w_load,.int s,a],pk bs,.ref μ0.length,.ref (μ0.length + 1)] (pm μ0 W (V ++ [.int i])) = .ok .non (pm μ0 W (V ++ [v])) :=
  v_fnN 1 ((v_set 4 (pop_v rfl)).trans ((v_iteT rfl).trans (app_v rfl (v_call rfl (hl _)) (by omega))))
theorem ans_op {x:List Nat} {a b v:D} {i j:Int} (hx:x ∈ opL) (hr:∀ μ,f_p_reckoned [.str x,.int i,.int j] μ = .ok v μ) (hV:V.length < 10000):f_p_answer [.tup [.str x,a,b],pk bs,.ref μ0.length,.ref (μ0.length + 1)] (pm μ0 W (V ++ [.int i] ++ [.int j])) = .ok .non (pm μ0 W (V ++ [v])):=by
  obtain ⟨⟨_,_,h1⟩,_,h2,h3,h4⟩:=op_x x hx
  exact v_fnN 1 ((v_set 4 (pop_v rfl)).trans ((v_iteF (v_test (v_bin (x:=.str x) (v_bin rfl rfl (idx0 _ _)) rfl h1))).trans ((v_iteF (v_test (v_bin (x:=.str x) (v_bin rfl rfl (idx0 _ _)) rfl h2))).trans ((v_iteF (v_test (v_bin (x:=.str x) (v_bin rfl rfl (idx0 _ _)) rfl h3))).trans ((v_iteT (v_test (v_bin (x:=.str x) (v_bin rfl rfl (idx0 _ _)) rfl h4))).trans (app_v rfl (v_call (v_cons (v_bin rfl rfl (idx0 _ _)) (v_cons (pop_v rfl) (v_cons rfl v_nil))) (hr _)) (by omega)))))))
theorem ans_cp {x:List Nat} {a b v:D} {i j:Int} (hx:x ∈ cpL) (hr:∀ μ,f_p_compared [.str x,.int i,.int j] μ = .ok v μ) (hV:V.length < 10000):f_p_answer [.tup [.str x,a,b],pk bs,.ref μ0.length,.ref (μ0.length + 1)] (pm μ0 W (V ++ [.int i] ++ [.int j])) = .ok .non (pm μ0 W (V ++ [v])):=by
  obtain ⟨⟨_,_,h1⟩,_,h2,h3,h4⟩:=cp_x x hx
  exact v_fnN 1 ((v_set 4 (pop_v rfl)).trans ((v_iteF (v_test (v_bin (x:=.str x) (v_bin rfl rfl (idx0 _ _)) rfl h1))).trans ((v_iteF (v_test (v_bin (x:=.str x) (v_bin rfl rfl (idx0 _ _)) rfl h2))).trans ((v_iteF (v_test (v_bin (x:=.str x) (v_bin rfl rfl (idx0 _ _)) rfl h3))).trans ((v_iteF (v_test (v_bin (x:=.str x) (v_bin rfl rfl (idx0 _ _)) rfl h4))).trans (app_v rfl (v_call (v_cons (v_bin rfl rfl (idx0 _ _)) (v_cons (pop_v rfl) (v_cons rfl v_nil))) (hr _)) (by omega)))))))
noncomputable def Goes (t0:Option D) (bs:List Int) (μ0:Mu) (c:Nat) (t:D) (v:D):Prop:=∀ W V,W.length + c ≤ 9000 → V.length + c ≤ 9000 → Vok V → (v = .non → Fails t0 bs μ0 c (W ++ [askD t]) V) ∧ (v ≠ .non → Runs t0 bs μ0 c (W ++ [askD t]) V W (V ++ [v]))
theorem two_parts {x:List Nat} {a b:D} {va vb:D} {ca cb:Nat} (h:(gIn (.str x) (.tup [.str w_number,.str w_truth]) = some (.bl false) ∧ gEq (.str x) (.str w_len) = some (.bl false) ∧ gEq (.str x) (.str w_load) = some (.bl false)) ∧ gIn (.str x) (.tup [.str w_not,.str w_both,.str w_either]) = some (.bl false)) (f:Int → Int → D)
    (ga:Goes t0 bs μ0 ca a va) (gb:Goes t0 bs μ0 cb b vb) (na:va = .non ∨ Num va) (nb:vb = .non ∨ Num vb) (hf:∀ i j,va = .int i → vb = .int j → (f i j = .non ∨ M.isN (f i j) = false) ∧ ∀ (W V:List D),V.length < 10000 → f_p_answer [.tup [.str x,a,b],pk bs,.ref μ0.length,.ref (μ0.length + 1)] (pm μ0 W (V ++ [.int i] ++ [.int j])) = .ok .non (pm μ0 W (V ++ [f i j]))) :
    Goes t0 bs μ0 (ca + cb + 2) (.tup [.str x,a,b]) (bi f va vb):=by
  intro W V hW hV ok
  have r1:Runs t0 bs μ0 1 (W ++ [askD (.tup [.str x,a,b])]) V (W ++ [ansD (.tup [.str x,a,b])] ++ [askD b] ++ [askD a]) V:=by
    have:=ask1 (t0:=t0) (ask_parts (bs:=bs) (μ0:=μ0) (W:=W) (V:=V) h.1.1 h.1.2.1 (pa_two (a:=a) (b:=b) h.1.2.2 h.2) (.inr ⟨_,_,rfl⟩) (by omega)) ok
    rw [List.append_assoc (W ++ [ansD (.tup [.str x,a,b])])]
    exact this
  obtain ⟨fa,ra⟩:=ga (W ++ [ansD (.tup [.str x,a,b])] ++ [askD b]) V (by simp; omega) (by omega) ok
  rcases na with rfl | ⟨i,rfl,i0,i1⟩
  · refine ⟨fun _ => ?_,fun z => absurd rfl z⟩
    have:=(r1.fail (fa rfl)).more (cb + 1)
    rwa [show 1 + ca + (cb + 1) = ca + cb + 2 by omega] at this
  · have r2:=r1.then (ra (by intro z; cases z))
    obtain ⟨fb,rb⟩:=gb (W ++ [ansD (.tup [.str x,a,b])]) (V ++ [.int i]) (by simp; omega) (by simp; omega) (ok.snoc rfl)
    rcases nb with rfl | ⟨j,rfl,j0,j1⟩
    · refine ⟨fun _ => ?_,fun z => absurd rfl z⟩
      have:=(r2.fail (fb rfl)).more 1
      rwa [show 1 + ca + cb + 1 = ca + cb + 2 by omega] at this
    · have r3:=r2.then (rb (by intro z; cases z))
      obtain ⟨h1,h2⟩:=hf i j rfl rfl
      have e:=h2 W V (by omega)
      show (f i j = .non → _) ∧ (f i j ≠ .non → _)
      rw [show ca + cb + 2 = 1 + ca + cb + 1 by omega]
      refine ⟨fun z => r3.fail (ansF (V':=V) (by rw [e,z])),fun z => r3.then (ans1 e (ok.snoc (h1.resolve_left z)))⟩
theorem num_goes (hB:Bytes bs):∀ a:N,a.ok → Goes t0 bs μ0 a.c a.d (a.ev bs)
  | .num k,h => fun W V hW hV ok => ⟨fun z => (by cases z),fun _ => ask1 (v_fnN 0 ((v_iteT rfl).trans (app_v rfl rfl (by omega)))) (ok.snoc rfl)⟩
  | .len,_ => by
    intro W V hW hV ok
    refine ⟨fun z => (by cases z),fun _ => ?_⟩
    have e:(bs.map D.int).length = bs.length:=List.length_map _
    show Runs t0 bs μ0 1 (W ++ [askD (.tup [.str w_len])]) V W (V ++ [.int bs.length])
    rw [← e]
    exact ask1 (v_fnN 0 ((v_iteF rfl).trans ((v_iteT rfl).trans (app_v rfl rfl (by omega))))) (ok.snoc rfl)
  | .load s a,h => by
    have ga:=num_goes hB a h.2
    intro W V hW hV ok
    have hc:(N.load s a).c = a.c + 2:=rfl
    rw [hc] at hW hV ⊢
    have r1:Runs t0 bs μ0 1 (W ++ [askD (N.load s a).d]) V (W ++ [ansD (N.load s a).d] ++ [askD a.d]) V:=ask1 (ask_parts (x:=w_load) (r:=[.int s,a.d]) rfl rfl (pa_load (s:=.int s) (a:=a.d)) (.inl ⟨_,rfl⟩) (by omega)) ok
    obtain ⟨fa,ra⟩:=ga (W ++ [ansD (N.load s a).d]) V (by simp; omega) (by omega) ok
    simp only [N.ev]
    rcases N.num_ev hB a h.2 with e | ⟨i,e,i0,i1⟩
    · rw [e] at fa ra ⊢
      refine ⟨fun _ => ?_,fun z => absurd rfl z⟩
      have:=(r1.fail (fa rfl)).more 1
      rwa [show 1 + a.c + 1 = a.c + 2 by omega] at this
    · rw [e] at fa ra ⊢
      have r2:=r1.then (ra (by intro z; cases z))
      obtain ⟨h1,h2,_⟩:=ld_eq hB h.1 i0
      have ea:=ans_load (bs:=bs) (μ0:=μ0) (W:=W) (V:=V) (a:=a.d) h2 (by omega)
      show (ld bs s i = .non → _) ∧ (ld bs s i ≠ .non → _)
      rw [show a.c + 2 = 1 + a.c + 1 by omega]
      refine ⟨fun z => r2.fail (ansF (V':=V) (by rw [z] at ea; exact ea)),fun z => r2.then (ans1 ea (ok.snoc ?_))⟩
      obtain ⟨j,ej,_,_⟩:=h1.resolve_left z
      show M.isN (ld bs s i) = false
      rw [ej]
      rfl
  | .op x a b,h => by
    have hn:=op_x x h.1
    refine two_parts ⟨hn.1,hn.2.1⟩ (rk x) (num_goes hB a h.2.1) (num_goes hB b h.2.2) (N.num_ev hB a h.2.1) (N.num_ev hB b h.2.2) fun i j ei ej => ?_
    rcases N.num_ev hB a h.2.1 with e | ⟨i',e,i0,i1⟩
    · rw [e] at ei; cases ei
    rcases N.num_ev hB b h.2.2 with e' | ⟨j',e',j0,j1⟩
    · rw [e'] at ej; cases ej
    rw [e] at ei; cases ei
    rw [e'] at ej; cases ej
    obtain ⟨h1,h2,_⟩:=rk_eq h.1 i0 i1 j0 j1
    refine ⟨h1.imp id ?_,fun W V hV => ans_op h.1 h2 hV⟩
    rintro ⟨q,eq,_,_⟩
    rw [eq]
    rfl
end
end K13
set_option Elab.async false
set_option linter.all false
set_option maxRecDepth 100000
set_option maxHeartbeats 400000
namespace K13
open PySem PySem.Spec PyProof.Rows L2 M
section
variable {t0:Option D} {bs:List Int} {μ0:Mu}
theorem pa_one {x:List Nat} {a:D} {r:List D} (h1:gEq (.str x) (.str w_load) = some (.bl false)) (h2:gIn (.str x) (.tup [.str w_not,.str w_both,.str w_either]) = some (.bl true)) (h3:gIdx (.tup (.str x :: a :: r)) (.int 1) = some a) (μ:Mu):f_p_parts_ahead [.tup (.str x :: a :: r)] μ = .ok (.lst [a]) μ :=
  v_fn 0 ((v_skip (v_test (v_bin (x:=.str x) (v_bin rfl rfl (idx0 _ _)) rfl h1))).trans (v_take (v_test (v_bin (x:=.str x) (v_bin rfl rfl (idx0 _ _)) rfl h2)) (v_lst (v_cons (v_bin rfl rfl h3) v_nil))))
theorem join_goes (e:Bool) (x:List Nat) {a b:D} {va vb:D} {ca cb:Nat} (hx:x = if e then w_either else w_both) (ga:Goes t0 bs μ0 ca a va) (gb:Goes t0 bs μ0 cb b vb) (na:va = .non ∨ ∃ k,va = .bl k) :
    Goes t0 bs μ0 (ca + cb + 2) (.tup [.str x,a,b]) (joinD e va vb):=by
  intro W V hW hV ok
  have fa:(gIn (.str x) (.tup [.str w_number,.str w_truth]) = some (.bl false) ∧ gEq (.str x) (.str w_len) = some (.bl false)) ∧ (gEq (.str x) (.str w_load) = some (.bl false) ∧ gIn (.str x) (.tup [.str w_not,.str w_both,.str w_either]) = some (.bl true)) ∧ (gEq (.str x) (.str w_not) = some (.bl false) ∧ gIn (.str x) (.tup [.str w_both,.str w_either]) = some (.bl true)) ∧ gEq (.str x) (.str w_either) = some (.bl e):=by
    subst hx
    cases e <;> exact ⟨⟨rfl,rfl⟩,⟨rfl,rfl⟩,⟨rfl,rfl⟩,rfl⟩
  obtain ⟨⟨f1,f2⟩,⟨f3,f4⟩,⟨f5,f6⟩,f7⟩:=fa
  have r1:Runs t0 bs μ0 1 (W ++ [askD (.tup [.str x,a,b])]) V (W ++ [ansD (.tup [.str x,a,b])] ++ [askD a]) V:=ask1 (ask_parts f1 f2 (pa_one f3 f4 rfl) (.inl ⟨_,rfl⟩) (by omega)) ok
  obtain ⟨ffa,ra⟩:=ga (W ++ [ansD (.tup [.str x,a,b])]) V (by simp; omega) (by omega) ok
  rcases na with rfl | ⟨k,rfl⟩
  · refine ⟨fun _ => ?_,fun z => absurd rfl z⟩
    have:=(r1.fail (ffa rfl)).more (cb + 1)
    rwa [show 1 + ca + (cb + 1) = ca + cb + 2 by omega] at this
  · have r2:=r1.then (ra (by intro z; cases z))
    have hd:∀ {W' V':List D},f_p_answer_joined [.tup [.str x,a,b],.bl k,.ref μ0.length,.ref (μ0.length + 1)] (pm μ0 W V) = .ok .non (pm μ0 W' V') → f_p_answer [.tup [.str x,a,b],pk bs,.ref μ0.length,.ref (μ0.length + 1)] (pm μ0 W (V ++ [.bl k])) = .ok .non (pm μ0 W' V'):=fun ej =>
      v_fnN 1 ((v_set 4 (pop_v rfl)).trans ((v_iteF (v_test (v_bin (x:=.str x) (v_bin rfl rfl (idx0 _ _)) rfl f3))).trans ((v_iteF (v_test (v_bin (x:=.str x) (v_bin rfl rfl (idx0 _ _)) rfl f5))).trans ((v_iteT (v_test (v_bin (x:=.str x) (v_bin rfl rfl (idx0 _ _)) rfl f6))).trans (v_drop (v_call rfl ej))))))
    have tt:mTest (mBin gEq (mVar 1) (mBin gEq (mBin gIdx (mVar 0) (mC (.int 0))) (mC (.str w_either)))) [some (.tup [.str x,a,b]),some (.bl k),some (.ref μ0.length),some (.ref (μ0.length + 1))] (pm μ0 W V) = .ok (k == e) (pm μ0 W V) :=
      v_test (v_bin (x:=.bl k) (y:=.bl e) rfl (v_bin (x:=.str x) (v_bin rfl rfl (idx0 _ _)) rfl f7) (g_eqB _ _))
    by_cases hk:k = e
    · subst hk
      rw [beq_self_eq_true] at tt
      have e1:=hd (v_fnN 0 ((v_iteT tt).trans (app_v rfl rfl (by omega))))
      have r3:=r2.then (ans1 e1 (ok.snoc rfl))
      have hj:joinD k (.bl k) vb = .bl k:=by unfold joinD; simp
      rw [hj]
      refine ⟨fun z => (by cases z),fun _ => ?_⟩
      have:=r3.more cb
      rwa [show 1 + ca + 1 + cb = ca + cb + 2 by omega] at this
    · have hb:(k == e) = false:=beq_eq_false_iff_ne.mpr hk
      rw [hb] at tt
      have e1:=hd (v_fnN 0 ((v_iteF tt).trans (app_w rfl rfl (by omega))))
      have r3:=r2.then (ans1 e1 ok)
      have hj:joinD e (.bl k) vb = vb:=by unfold joinD; simp [hk]
      rw [hj]
      obtain ⟨fb,rb⟩:=gb W V (by omega) (by omega) ok
      rw [show ca + cb + 2 = 1 + ca + 1 + cb by omega]
      exact ⟨fun z => r3.fail (fb z),fun z => r3.then (rb z)⟩
theorem tru_goes (hB:Bytes bs):∀ a:B,a.ok → Goes t0 bs μ0 a.c a.d (a.ev bs)
  | .tru b,_ => fun W V hW hV ok => ⟨fun z => (by cases z),fun _ => ask1 (v_fnN 0 ((v_iteT rfl).trans (app_v rfl rfl (by omega)))) (ok.snoc rfl)⟩
  | .nt a,h => by
    have ga:=tru_goes hB a h
    intro W V hW hV ok
    have hc:(B.nt a).c = a.c + 2:=rfl
    rw [hc] at hW hV ⊢
    have r1:Runs t0 bs μ0 1 (W ++ [askD (B.nt a).d]) V (W ++ [ansD (B.nt a).d] ++ [askD a.d]) V:=ask1 (ask_parts (x:=w_not) (r:=[a.d]) rfl rfl (pa_one rfl rfl rfl) (.inl ⟨_,rfl⟩) (by omega)) ok
    obtain ⟨fa,ra⟩:=ga (W ++ [ansD (B.nt a).d]) V (by simp; omega) (by omega) ok
    simp only [B.ev]
    rcases B.bl_ev hB a h with e | ⟨k,e⟩
    · rw [e] at fa ra ⊢
      refine ⟨fun _ => ?_,fun z => absurd rfl z⟩
      have:=(r1.fail (fa rfl)).more 1
      rwa [show 1 + a.c + 1 = a.c + 2 by omega] at this
    · rw [e] at fa ra ⊢
      have r2:=r1.then (ra (by intro z; cases z))
      have ea:f_p_answer [.tup [.str w_not,a.d],pk bs,.ref μ0.length,.ref (μ0.length + 1)] (pm μ0 W (V ++ [.bl k])) = .ok .non (pm μ0 W (V ++ [.bl (!k)])) :=
        v_fnN 1 ((v_set 4 (pop_v rfl)).trans ((v_iteF rfl).trans ((v_iteT rfl).trans (app_v rfl (v_notV rfl) (by omega)))))
      rw [show a.c + 2 = 1 + a.c + 1 by omega]
      exact ⟨fun z => (by cases z),fun _ => r2.then (ans1 ea (ok.snoc rfl))⟩
  | .both a b,h => join_goes false w_both rfl (tru_goes hB a h.1) (tru_goes hB b h.2) (B.bl_ev hB a h.1)
  | .eith a b,h => join_goes true w_either rfl (tru_goes hB a h.1) (tru_goes hB b h.2) (B.bl_ev hB a h.1)
  | .cmp x a b,h => by
    have hn:=cp_x x h.1
    refine two_parts ⟨hn.1,hn.2.1⟩ (cp x) (num_goes hB a h.2.1) (num_goes hB b h.2.2) (N.num_ev hB a h.2.1) (N.num_ev hB b h.2.2) fun i j _ _ => ?_
    obtain ⟨k,ek,e⟩:=cp_eq h.1 i j
    rw [ek]
    exact ⟨.inr rfl,fun W V hV => ans_cp h.1 e hV⟩
noncomputable def tk:D → Bool
  | .bl b => b
  | _ => false
theorem takes_eq (hB:Bytes bs) {a:B} (h:a.ok) (hc:a.c ≤ 900) (μ:Mu):∃ μ',f_p_takes [a.d,pk bs] μ = .ok (.bl (tk (a.ev bs))) μ':=by
  obtain ⟨fa,ra⟩:=tru_goes (t0:=some a.d) (bs:=bs) (μ0:=μ) hB a h [] [] (by simp; omega) (by simp; omega) (fun d hd => by simp at hd)
  have e0:∀ {r:MSt},(mSeq (mSet 2 (mLstC (mCons (mTup (mCons (mC (.str w_ask)) (mCons (mVar 0) mNil))) mNil))) (mSeq (mSet 3 (mLstC mNil)) r)) [some a.d,some (pk bs),none,none,none] μ = r (eT (some a.d) bs μ none) (pm μ [askD a.d] []):=fun {r} => by
    refine (v_set 2 (d:=.ref μ.length) (μ1:=μ ++ [.lst [askD a.d]]) rfl).trans ((v_set 3 (d:=.ref (μ.length + 1)) (μ1:=pm μ [askD a.d] []) ?_).trans rfl)
    unfold mLstC pm
    show Res.ok (D.ref (μ ++ [Cell.lst [askD a.d]]).length) (μ ++ [Cell.lst [askD a.d]] ++ [.lst []]) = _
    rw [List.length_append,List.append_assoc]
    rfl
  rcases B.bl_ev hB a h with e | ⟨k,e⟩
  · rw [e] at fa ⊢
    obtain ⟨μ',e1⟩:=fa rfl (1000 - a.c) none
    rw [show 1000 - a.c + a.c = 1000 by omega] at e1
    exact ⟨μ',v_fn 3 (e0.trans (v_seqR e1))⟩
  · rw [e] at ra ⊢
    obtain ⟨k',x4',hk,e1⟩:=ra (by intro z; cases z) (1000 - a.c) none
    rw [show 1000 - a.c + a.c = 1000 by omega] at e1
    obtain ⟨q,rfl⟩:∃ q,k' = q + 1:=⟨k' - 1,by omega⟩
    have e2:whGo tW l_p_takes_1 (q + 1) (eT (some a.d) bs μ x4') (pm μ [] ([] ++ [.bl k])) = .ok (.nx (eT (some a.d) bs μ x4')) (pm μ [] ([] ++ [.bl k])):=by
      rw [whGo,wh_nil]
      rfl
    exact ⟨_,v_fn 3 (e0.trans ((v_seqN (e1.trans e2)).trans (v_ret (v_last rfl))))⟩
end
end K13
set_option Elab.async false
set_option linter.all false
set_option maxRecDepth 100000
set_option maxHeartbeats 400000
namespace K13
open PySem PySem.Spec PyProof.Rows L2 M
theorem rc_n (k:Nat):rc_number (k + 1) 0 = fnOf 3 (b_number (rc_number k)):=rfl
theorem rc_t (k:Nat):rc_truth (k + 1) 0 = fnOf 3 (b_truth (rc_truth k)):=rfl
noncomputable def cN:Nat → Nat
  | 0 => 1
  | d + 1 => 2 * cN d + 2
noncomputable def cB:Nat → Nat
  | 0 => 16
  | d + 1 => 2 * cB d + 2
theorem cN_pos:∀ d,1 ≤ cN d
  | 0 => Nat.le_refl _
  | d + 1 => by simp only [cN]; omega
theorem cB_pos:∀ d,16 ≤ cB d
  | 0 => Nat.le_refl _
  | d + 1 => by have:=cB_pos d; simp only [cB]; omega
section
variable {ns:List Int} {μ:Mu}
theorem v_lin {ρ:En} {x b:Nat} (h:ρ[x]? = some (some (.int b))) (p q:Nat) (hp:p < 100):mBin gAdd (mBin gMul (mC (.int p)) (mVar x)) (mC (.int q)) ρ μ = .ok (.int ((p * b + q:Nat):Int)) μ:=by
  refine v_bin (x:=.int (p * b)) (y:=.int q) (v_bin rfl (v_var x h) (g_mulL _ _ (by omega) (by omega))) rfl ?_
  show some (D.int ((p:Int) * b + q)) = _
  congr 2
theorem v_dec {ρ:En} {x d:Nat} (h:ρ[x]? = some (some (.int ((d + 1:Nat):Int)))):mBin gSub (mVar x) (mC (.int 1)) ρ μ = .ok (.int d) μ:=by
  refine v_bin (v_var x h) rfl ?_
  show some (D.int (((d + 1:Nat):Int) - 1)) = _
  congr 2
  omega
theorem sizes {d:D} (h:d ∈ [D.int 1,.int 2,.int 4]):∃ s,d = .int s ∧ (s = 1 ∨ s = 2 ∨ s = 4):=by
  simp only [List.mem_cons,List.not_mem_nil,or_false] at h
  rcases h with rfl | rfl | rfl
  · exact ⟨1,rfl,.inl rfl⟩
  · exact ⟨2,rfl,.inr (.inl rfl)⟩
  · exact ⟨4,rfl,.inr (.inr rfl)⟩
theorem kinds {n:Int} {d:D} (h0:0 ≤ n) (h:d ∈ [D.int 0,.int 1,.int 2,.int 7,.int 12,.int 20,.int 33,.int 255,.int 4294967295,.int (n % 4294967296)]):∃ i,d = .int i ∧ 0 ≤ i ∧ i < 4294967296:=by
  simp only [List.mem_cons,List.not_mem_nil,or_false] at h
  rcases h with rfl | rfl | rfl | rfl | rfl | rfl | rfl | rfl | rfl | rfl
  all_goals first | exact ⟨_,rfl,by decide,by decide⟩ | exact ⟨_,rfl,by omega,by omega⟩
theorem leaf_eq {r:MSt} {b:Nat} {dp:D}:∃ a:N,(mSeq (mSet 4 (mBin gIdx (mLst (mCons (mC (.int 0)) (mCons (mC (.int 1)) (mCons (mC (.int 2)) (mCons (mC (.int 7)) (mCons (mC (.int 12)) (mCons (mC (.int 20)) (mCons (mC (.int 33)) (mCons (mC (.int 255)) (mCons (mC (.int 4294967295)) (mCons (mBin gMod (mVar 3) (mC (.int 4294967296))) mNil))))))))))) (mBin gMod (mBin gDiv (mVar 3) (mC (.int 5))) (mC (.int 10)))))
    (mRet (mBin gIdx (mLst (mCons (mTup (mCons (mC (.str w_len)) mNil)) (mCons (mTup (mCons (mC (.str w_number)) (mCons (mVar 4) mNil))) (mCons (mTup (mCons (mC (.str w_number)) (mCons (mVar 4) mNil))) mNil)))) (mBin gMod (mBin gDiv (mVar 3) (mC (.int 50))) (mC (.int 3)))))) [some (sc ns),some (.int b),some dp,some (.int (mix ns b)),none,none] μ = .ok (.rt a.d) μ ∧ a.ok ∧ a.c ≤ 1 ∧ a.dp ≤ 1:=by
  have h0:=mix_lo ns b
  obtain ⟨d,hd,e⟩:=v_pick (ρ:=[some (sc ns),some (.int b),some dp,some (.int (mix ns b)),none,none]) (μ:=μ) (m:=mBin gDiv (mVar 3) (mC (.int 5))) (L:=[.int 0,.int 1,.int 2,.int 7,.int 12,.int 20,.int 33,.int 255,.int 4294967295,.int (mix ns b % 4294967296)]) (n:=10)
    (ms:=mCons (mC (.int 0)) (mCons (mC (.int 1)) (mCons (mC (.int 2)) (mCons (mC (.int 7)) (mCons (mC (.int 12)) (mCons (mC (.int 20)) (mCons (mC (.int 33)) (mCons (mC (.int 255)) (mCons (mC (.int 4294967295)) (mCons (mBin gMod (mVar 3) (mC (.int 4294967296))) mNil))))))))))
    (v_cons rfl (v_cons rfl (v_cons rfl (v_cons rfl (v_cons rfl (v_cons rfl (v_cons rfl (v_cons rfl (v_cons rfl (v_cons (v_mod rfl (by decide)) v_nil)))))))))) (v_div (x:=3) rfl (by decide) (by decide)) rfl (by decide)
  obtain ⟨i,rfl,i0,i1⟩:=kinds h0 hd
  obtain ⟨d2,hd2,e2⟩:=v_pick (ρ:=[some (sc ns),some (.int b),some dp,some (.int (mix ns b)),some (.int i),none]) (μ:=μ) (m:=mBin gDiv (mVar 3) (mC (.int 50))) (L:=[.tup [.str w_len],.tup [.str w_number,.int i],.tup [.str w_number,.int i]]) (n:=3)
    (ms:=mCons (mTup (mCons (mC (.str w_len)) mNil)) (mCons (mTup (mCons (mC (.str w_number)) (mCons (mVar 4) mNil))) (mCons (mTup (mCons (mC (.str w_number)) (mCons (mVar 4) mNil))) mNil))) rfl (v_div (x:=3) rfl (by decide) (by decide)) rfl (by decide)
  simp only [List.mem_cons,List.not_mem_nil,or_false] at hd2
  rcases hd2 with rfl | rfl | rfl
  · exact ⟨.len,(v_set 4 e).trans (v_ret e2),trivial,Nat.le_refl _,Nat.le_refl _⟩
  · exact ⟨.num i,(v_set 4 e).trans (v_ret e2),⟨i0,i1⟩,Nat.le_refl _,Nat.le_refl _⟩
  · exact ⟨.num i,(v_set 4 e).trans (v_ret e2),⟨i0,i1⟩,Nat.le_refl _,Nat.le_refl _⟩
theorem number_eq (ns:List Int) (μ:Mu):∀ (k d b:Nat),d < k → ∃ a:N,rc_number k 0 [sc ns,.int b,.int d] μ = .ok a.d μ ∧ a.ok ∧ a.c ≤ cN d ∧ a.dp ≤ d + 1
  | 0,d,b,h => absurd h (by omega)
  | k + 1,0,b,h => by
    rw [rc_n]
    obtain ⟨a,e,h1,h2,h3⟩:=leaf_eq (ns:=ns) (μ:=μ) (r:=mSkip) (b:=b) (dp:=.int ((0:Nat):Int))
    exact ⟨a,v_fn 3 ((v_set 3 (v_call rfl (mix_at ns b rfl μ))).trans (v_seqR ((v_iteT (v_orT rfl)).trans e))),h1,h2,h3⟩
  | k + 1,d + 1,b,h => by
    rw [rc_n]
    have h0:=mix_lo ns b
    have tz:mTest (mBin gEq (mVar 2) (mC (.int 0))) [some (sc ns),some (.int b),some (.int ((d + 1:Nat):Int)),some (.int (mix ns b)),none,none] μ = .ok false μ:=by
      refine v_test (v_bin rfl rfl ?_)
      rw [deref_int,deref_int,g_eqI,show (((d + 1:Nat):Int) == 0) = false by rw [beq_eq_false_iff_ne]; omega]
    have t5:mTest (mBin gLt (mBin gMod (mVar 3) (mC (.int 5))) (mC (.int 2))) [some (sc ns),some (.int b),some (.int ((d + 1:Nat):Int)),some (.int (mix ns b)),none,none] μ = .ok (decide (mix ns b % 5 < 2)) μ:=v_test (v_bin (v_mod rfl (by decide)) rfl (g_lt _ _))
    have t2:mTest (mBin gEq (mBin gMod (mVar 3) (mC (.int 5))) (mC (.int 2))) [some (sc ns),some (.int b),some (.int ((d + 1:Nat):Int)),some (.int (mix ns b)),none,none] μ = .ok (mix ns b % 5 == 2) μ:=v_test (v_bin (v_mod rfl (by decide)) rfl (g_eqI _ _))
    obtain ⟨a1,ea,oka,ca,da⟩:=number_eq ns μ k d (3 * b + 1) (by omega)
    obtain ⟨a2,eb,okb,cb,db⟩:=number_eq ns μ k d (3 * b + 2) (by omega)
    by_cases h5:mix ns b % 5 < 2
    · rw [decide_eq_true h5] at t5
      obtain ⟨a,e,h1,h2,h3⟩:=leaf_eq (ns:=ns) (μ:=μ) (r:=mSkip) (b:=b) (dp:=.int ((d + 1:Nat):Int))
      exact ⟨a,v_fn 3 ((v_set 3 (v_call rfl (mix_at ns b rfl μ))).trans (v_seqR ((v_iteT ((v_orF tz).trans t5)).trans e))),h1,by have:=cN_pos (d + 1); omega,by omega⟩
    · rw [decide_eq_false h5] at t5
      by_cases h2:(mix ns b % 5 == 2) = true
      · rw [h2] at t2
        obtain ⟨s,hs,es⟩:=v_pick (ρ:=[some (sc ns),some (.int b),some (.int ((d + 1:Nat):Int)),some (.int (mix ns b)),none,none]) (μ:=μ) (m:=mBin gDiv (mVar 3) (mC (.int 5))) (L:=[.int 1,.int 2,.int 4]) (n:=3) (ms:=mCons (mC (.int 1)) (mCons (mC (.int 2)) (mCons (mC (.int 4)) mNil))) rfl (v_div (x:=3) rfl (by decide) (by decide)) rfl (by decide)
        obtain ⟨s,rfl,hs3⟩:=sizes hs
        exact ⟨.load s a1,v_fn 3 ((v_set 3 (v_call rfl (mix_at ns b rfl μ))).trans ((v_skip ((v_orF tz).trans t5)).trans (v_take t2 (v_tup (v_cons rfl (v_cons es (v_cons (v_call (v_cons rfl (v_cons (v_lin rfl 3 1 (by decide)) (v_cons (v_dec rfl) v_nil))) ea) v_nil))))))),⟨hs3,oka⟩,by simp only [N.c,cN]; omega,by simp only [N.dp]; omega⟩
      · rw [Bool.not_eq_true] at h2
        rw [h2] at t2
        have eo:=op_eq (mix ns b / 5) μ
        exact ⟨.op (opw (mix ns b / 5)) a1 a2,v_fn 3 ((v_set 3 (v_call rfl (mix_at ns b rfl μ))).trans ((v_skip ((v_orF tz).trans t5)).trans ((v_skip t2).trans ((v_set 5 (v_call (v_cons rfl (v_cons (v_lin rfl 3 1 (by decide)) (v_cons (v_dec rfl) v_nil))) ea)).trans (v_ret (v_tup (v_cons (v_call (v_cons (v_div (x:=3) rfl (by decide) (by decide)) v_nil) eo) (v_cons rfl (v_cons (v_call (v_cons rfl (v_cons (v_lin rfl 3 2 (by decide)) (v_cons (v_dec rfl) v_nil))) eb) v_nil))))))))),⟨opw_mem _,oka,okb⟩,by simp only [N.c,cN]; omega,by simp only [N.dp]; omega⟩
theorem truth_eq (ns:List Int) (μ:Mu):∀ (k d b:Nat),d < k → ∃ a:B,rc_truth k 0 [sc ns,.int b,.int d] μ = .ok a.d μ ∧ a.ok ∧ a.nd ∧ a.c ≤ cB d ∧ a.dp ≤ d + 1
  | 0,d,b,h => absurd h (by omega)
  | k + 1,d,b,h => by
    rw [rc_t]
    have h0:=mix_lo ns b
    have t0:mTest (mBin gGt (mVar 2) (mC (.int 0))) [some (sc ns),some (.int b),some (.int d),some (.int (mix ns b)),none,none] μ = .ok (decide ((d:Int) > 0)) μ:=v_test (v_bin rfl rfl (g_gt _ _))
    have t3:mTest (mBin gLt (mBin gMod (mVar 3) (mC (.int 5))) (mC (.int 3))) [some (sc ns),some (.int b),some (.int d),some (.int (mix ns b)),none,none] μ = .ok (decide (mix ns b % 5 < 3)) μ:=v_test (v_bin (v_mod rfl (by decide)) rfl (g_lt _ _))
    have leaf:mAnd (mTest (mBin gGt (mVar 2) (mC (.int 0)))) (mTest (mBin gLt (mBin gMod (mVar 3) (mC (.int 5))) (mC (.int 3)))) [some (sc ns),some (.int b),some (.int d),some (.int (mix ns b)),none,none] μ = .ok false μ → ∃ a:B,fnOf 3 (b_truth (rc_truth k)) [sc ns,.int b,.int d] μ = .ok a.d μ ∧ a.ok ∧ a.nd ∧ a.c ≤ cB d ∧ a.dp ≤ d + 1:=fun hf => by
      have t7:mTest (mBin gEq (mBin gMod (mBin gDiv (mVar 3) (mC (.int 5))) (mC (.int 7))) (mC (.int 0))) [some (sc ns),some (.int b),some (.int d),some (.int (mix ns b)),none,none] μ = .ok (mix ns b / 5 % 7 == 0) μ:=v_test (v_bin (v_mod (v_div (x:=3) rfl (by decide) (by decide)) (by decide)) rfl (g_eqI _ _))
      have hcb:=cB_pos d
      by_cases h7:(mix ns b / 5 % 7 == 0) = true
      · rw [h7] at t7
        exact ⟨.tru (mix ns b / 35 % 2 == 0),v_fn 3 ((v_set 3 (v_call rfl (mix_at ns b rfl μ))).trans ((v_skip hf).trans (v_take t7 (v_tup (v_cons rfl (v_cons (v_bin (v_mod (v_div (x:=3) rfl (by decide) (by decide)) (by decide)) rfl (g_eqI _ _)) v_nil)))))),trivial,trivial,by simp only [B.c]; omega,by simp only [B.dp]; omega⟩
      · rw [Bool.not_eq_true] at h7
        rw [h7] at t7
        obtain ⟨s,hs,es⟩:=v_pick (ρ:=[some (sc ns),some (.int b),some (.int d),some (.int (mix ns b)),none,none]) (μ:=μ) (m:=mBin gDiv (mVar 3) (mC (.int 35))) (L:=[.str w_same,.str w_unlike,.str w_below,.str w_above,.str w_most,.str w_least]) (n:=6) (ms:=mCons (mC (.str w_same)) (mCons (mC (.str w_unlike)) (mCons (mC (.str w_below)) (mCons (mC (.str w_above)) (mCons (mC (.str w_most)) (mCons (mC (.str w_least)) mNil)))))) rfl (v_div (x:=3) rfl (by decide) (by decide)) rfl (by decide)
        obtain ⟨x,rfl,hx⟩:∃ x,s = .str x ∧ x ∈ cpL:=by
          simp only [List.mem_cons,List.not_mem_nil,or_false] at hs
          rcases hs with rfl | rfl | rfl | rfl | rfl | rfl <;> exact ⟨_,rfl,by simp [cpL]⟩
        obtain ⟨a1,ea,oka,ca,da⟩:=number_eq ns μ 8 2 (5 * b + 3) (by decide)
        obtain ⟨a2,eb,okb,cb,db⟩:=number_eq ns μ 8 1 (5 * b + 4) (by decide)
        have c2:cN 2 = 10:=rfl
        have c1:cN 1 = 4:=rfl
        exact ⟨.cmp x a1 a2,v_fn 3 ((v_set 3 (v_call rfl (mix_at ns b rfl μ))).trans ((v_skip hf).trans ((v_skip t7).trans ((v_set 5 es).trans (v_ret (v_tup (v_cons rfl (v_cons (v_call (v_cons rfl (v_cons (v_lin rfl 5 3 (by decide)) (v_cons rfl v_nil))) ea) (v_cons (v_call (v_cons rfl (v_cons (v_lin rfl 5 4 (by decide)) (v_cons rfl v_nil))) eb) v_nil))))))))),⟨hx,oka,okb⟩,⟨by omega,by omega⟩,by simp only [B.c]; omega,by simp only [B.dp]; omega⟩
    cases d with
    | zero => exact leaf (v_andF t0)
    | succ d =>
      rw [decide_eq_true (show ((d + 1:Nat):Int) > 0 by omega)] at t0
      by_cases h3:mix ns b % 5 < 3
      · rw [decide_eq_true h3] at t3
        obtain ⟨a1,ea,oka,na,ca,da⟩:=truth_eq ns μ k d (2 * b + 1) (by omega)
        obtain ⟨a2,eb,okb,nb,cb,db⟩:=truth_eq ns μ k d (2 * b + 2) (by omega)
        have tn:mTest (mBin gEq (mBin gMod (mVar 3) (mC (.int 5))) (mC (.int 0))) [some (sc ns),some (.int b),some (.int ((d + 1:Nat):Int)),some (.int (mix ns b)),some a1.d,none] μ = .ok (mix ns b % 5 == 0) μ:=v_test (v_bin (v_mod rfl (by decide)) rfl (g_eqI _ _))
        have hd:∀ {r:MSt} {x:D},(mSeq (mIte (mTest (mBin gEq (mBin gMod (mVar 3) (mC (.int 5))) (mC (.int 0)))) (mRet (mTup (mCons (mC (.str w_not)) (mCons (mVar 4) mNil)))) mSkip) (mRet (mTup (mCons (mBin gIdx (mLst (mCons (mC (.str w_both)) (mCons (mC (.str w_either)) mNil))) (mBin gSub (mBin gMod (mVar 3) (mC (.int 5))) (mC (.int 1)))) (mCons (mVar 4) (mCons (mCall (rc_truth k 0) (mCons (mVar 0) (mCons (mBin gAdd (mBin gMul (mC (.int 2)) (mVar 1)) (mC (.int 2))) (mCons (mBin gSub (mVar 2) (mC (.int 1))) mNil)))) mNil)))))) [some (sc ns),some (.int b),some (.int ((d + 1:Nat):Int)),some (.int (mix ns b)),some a1.d,none] μ = .ok (.rt x) μ → fnOf 3 (b_truth (rc_truth k)) [sc ns,.int b,.int ((d + 1:Nat):Int)] μ = .ok x μ:=fun {r x} e =>
          v_fn 3 ((v_set 3 (v_call rfl (mix_at ns b rfl μ))).trans (v_seqR ((v_iteT ((v_andT t0).trans t3)).trans ((v_set 4 (v_call (v_cons rfl (v_cons (v_lin rfl 2 1 (by decide)) (v_cons (v_dec rfl) v_nil))) ea)).trans e))))
        have jn:∀ (y:List Nat) (i:Nat),mix ns b % 5 = ((i + 1:Nat):Int) → [D.str w_both,.str w_either][i]? = some (.str y) → (mSeq (mIte (mTest (mBin gEq (mBin gMod (mVar 3) (mC (.int 5))) (mC (.int 0)))) (mRet (mTup (mCons (mC (.str w_not)) (mCons (mVar 4) mNil)))) mSkip) (mRet (mTup (mCons (mBin gIdx (mLst (mCons (mC (.str w_both)) (mCons (mC (.str w_either)) mNil))) (mBin gSub (mBin gMod (mVar 3) (mC (.int 5))) (mC (.int 1)))) (mCons (mVar 4) (mCons (mCall (rc_truth k 0) (mCons (mVar 0) (mCons (mBin gAdd (mBin gMul (mC (.int 2)) (mVar 1)) (mC (.int 2))) (mCons (mBin gSub (mVar 2) (mC (.int 1))) mNil)))) mNil)))))) [some (sc ns),some (.int b),some (.int ((d + 1:Nat):Int)),some (.int (mix ns b)),some a1.d,none] μ = .ok (.rt (.tup [.str y,a1.d,a2.d])) μ:=fun y i hi hy => by
          have hn:(mix ns b % 5 == 0) = false:=by rw [beq_eq_false_iff_ne]; omega
          rw [hn] at tn
          refine (v_skip tn).trans (v_ret (v_tup (v_cons (v_bin (x:=.lst [.str w_both,.str w_either]) (y:=.int i) rfl (v_bin (v_mod rfl (by decide)) rfl ?_) (at_code hy)) (v_cons rfl (v_cons (v_call (v_cons rfl (v_cons (v_lin rfl 2 2 (by decide)) (v_cons (v_dec rfl) v_nil))) eb) v_nil)))))
          show some (D.int (mix ns b % 5 - 1)) = _
          congr 2
          omega
        have h3':mix ns b % 5 = 0 ∨ mix ns b % 5 = 1 ∨ mix ns b % 5 = 2:=by omega
        rcases h3' with e | e | e
        · rw [e] at tn
          exact ⟨.nt a1,hd (r:=mSkip) (v_take tn rfl),oka,na,by simp only [B.c,cB]; omega,by simp only [B.dp]; omega⟩
        · exact ⟨.both a1 a2,hd (r:=mSkip) (jn w_both 0 (by omega) rfl),⟨oka,okb⟩,⟨na,nb⟩,by simp only [B.c,cB]; omega,by simp only [B.dp]; omega⟩
        · exact ⟨.eith a1 a2,hd (r:=mSkip) (jn w_either 1 (by omega) rfl),⟨oka,okb⟩,⟨na,nb⟩,by simp only [B.c,cB]; omega,by simp only [B.dp]; omega⟩
      · rw [decide_eq_false h3] at t3
        exact leaf ((v_andT t0).trans t3)
end
end K13
set_option Elab.async false
set_option linter.all false
set_option maxRecDepth 100000
set_option maxHeartbeats 400000
namespace K13
open PySem PySem.Spec PyProof.Rows L2 M
noncomputable abbrev pEl:MX:=mBin gMod (mBin gDiv (mCall f_mix (mCons (mVar 1) (mCons (mBin gAdd (mBin gAdd (mVar 2) (mC (.int 1))) (mBin gMod (mVar 0) (mC (.int 40)))) mNil))) (mBin gAdd (mC (.int 1)) (mVar 0))) (mC (.int 256))
theorem p_comp (ns:List Int) (b:Nat) (μ:Mu):∀ (m p:Nat),p + m < 1000 → ∀ (a:Option D) (acc:List D),∃ bs:List Int,compGo (gN 0) mTT pEl (iL (List.range' p m)) [a,some (sc ns),some (.int b)] μ acc = .ok (acc ++ bs.map .int) μ ∧ bs.length = m ∧ ∀ i ∈ bs,0 ≤ i ∧ i < 256
  | 0,p,_,a,acc => ⟨[],by simp [compGo,iL],rfl,fun _ h => by simp at h⟩
  | m + 1,p,hp,a,acc => by
    have e1:pEl [some (.int p),some (sc ns),some (.int b)] μ = .ok (.int (mix ns (b + 1 + p % 40) / (1 + (p:Int)) % 256)) μ:=by
      refine v_bin (x:=.int (mix ns (b + 1 + p % 40) / (1 + (p:Int)))) (v_bin (x:=.int (mix ns (b + 1 + p % 40))) (y:=.int (1 + (p:Int))) (v_call (v_cons rfl (v_cons (v_bin (x:=.int ((b:Int) + 1)) (y:=.int ((p:Int) % 40)) (z:=.int ((b:Int) + 1 + (p:Int) % 40)) rfl (v_bin rfl rfl (g_mod _ _ (by decide))) rfl) v_nil)) (mix_at ns (b + 1 + p % 40) (by omega) μ)) rfl (g_div _ _ (by omega) (by omega))) rfl (g_mod _ _ (by decide))
    obtain ⟨ds,ih,hl,hb⟩:=p_comp ns b μ m (p + 1) (by omega) (some (.int p)) (acc ++ [.int (mix ns (b + 1 + p % 40) / (1 + (p:Int)) % 256)])
    refine ⟨(mix ns (b + 1 + p % 40) / (1 + (p:Int)) % 256) :: ds,?_,by rw [List.length_cons,hl],List.forall_mem_cons.mpr ⟨⟨Int.emod_nonneg _ (by decide),Int.emod_lt_of_pos _ (by decide)⟩,hb⟩⟩
    rw [iL_cons]
    refine (v_comp (ds:=iL (List.range' (p + 1) m)) rfl e1).trans (ih.trans ?_)
    rw [List.append_assoc,List.singleton_append]
    rfl
theorem packet_eq (ns:List Int) (b:Nat) (μ:Mu):∃ bs,f_packet [sc ns,.int b] μ = .ok (pk bs) μ ∧ Bytes bs:=by
  obtain ⟨d,hd,e⟩:=v_pick (ρ:=[some (sc ns),some (.int b),none]) (μ:=μ) (m:=mCall f_mix (mCons (mVar 0) (mCons (mVar 1) mNil))) (L:=[.int 0,.int 1,.int 3,.int 20,.int 34,.int 60]) (ms:=mCons (mC (.int 0)) (mCons (mC (.int 1)) (mCons (mC (.int 3)) (mCons (mC (.int 20)) (mCons (mC (.int 34)) (mCons (mC (.int 60)) mNil)))))) (n:=6) rfl (v_call rfl (mix_at ns b rfl μ)) rfl (by decide)
  have hk:∃ k:Nat,d = .int k ∧ k ≤ 60:=by
    simp only [List.mem_cons,List.not_mem_nil,or_false] at hd
    rcases hd with rfl | rfl | rfl | rfl | rfl | rfl
    · exact ⟨0,rfl,by decide⟩
    · exact ⟨1,rfl,by decide⟩
    · exact ⟨3,rfl,by decide⟩
    · exact ⟨20,rfl,by decide⟩
    · exact ⟨34,rfl,by decide⟩
    · exact ⟨60,rfl,by decide⟩
  obtain ⟨k,rfl,hk⟩:=hk
  obtain ⟨ds,ec,hl,hb⟩:=p_comp ns b μ k 0 (by omega) none []
  refine ⟨ds,v_fn 1 ((v_set 2 e).trans (v_ret ?_)),hb,by omega⟩
  unfold mComp
  rw [v_range (n:=k) rfl (by omega),bind_ok,if_pos (by rw [iL,List.length_map,List.length_range']; omega)]
  show (compGo (gN 0) mTT pEl _ [none,some (sc ns),some (.int b)] μ []).bind _ = _
  rw [ec]
  rfl
mutual
theorem eqD_self:∀ d:D,plainD d = true → eqD d d = true
  | .non,_ => rfl
  | .bl b,_ => by simp [eqD]
  | .int i,_ => by simp [eqD]
  | .str x,_ => by simp [eqD]
  | .tup xs,h => by
    simp only [eqD]
    exact eqDs_self xs (by simpa [plainD] using h)
  | .lst xs,h => by
    simp only [eqD]
    exact eqDs_self xs (by simpa [plainD] using h)
  | .dic _ _,h => by simp [plainD] at h
  | .ref _,h => by simp [plainD] at h
theorem eqDs_self:∀ ds:List D,plainDs ds = true → eqDs ds ds = true
  | [],_ => rfl
  | d :: ds,h => by
    simp only [plainDs,Bool.and_eq_true] at h
    simp only [eqDs,eqD_self d h.1,eqDs_self ds h.2,Bool.and_self]
end
theorem plain_is:∀ bs:List Int,plainDs (bs.map D.int) = true ∧ dpts (bs.map D.int) = 0
  | [] => ⟨rfl,rfl⟩
  | b :: bs => by
    obtain ⟨h1,h2⟩:=plain_is bs
    exact ⟨by simp only [List.map_cons,plainDs,h1,Bool.and_true]; rfl,by simp only [List.map_cons,dpts,h2]; rfl⟩
theorem ne_self (bs:List Int):gNe (pk bs) (pk bs) = some (.bl false):=by
  obtain ⟨h1,h2⟩:=plain_is bs
  have h3:plainD (pk bs) = true:=by simpa [plainD] using h1
  unfold gNe cmpOk
  rw [h3,decide_eq_true (by rw [Nat.min_self]; show dpt (.lst (bs.map D.int)) ≤ _; rw [dpt,h2]; decide),eqD_self _ h3]
  rfl
theorem sv_tk {v:D} (h:v = .non ∨ ∃ b,v = .bl b):(sv v == 1) = tk v:=by
  rcases h with rfl | ⟨b,rfl⟩
  · rfl
  · cases b <;> rfl
theorem turn_eq (ns:List Int) {a:B} (h:a.ok) (hn:a.nd) (hd:a.dp ≤ 12) (hc:a.c ≤ 900) (k:Nat) (x3 x4 x5:Option D) (μ:Mu):∃ μ' y3 y4 y5,l_law_1 [some (sc ns),some a.d,some (.int k),x3,x4,x5] μ = .ok (.nx [some (sc ns),some a.d,some (.int k),y3,y4,y5]) μ':=by
  obtain ⟨bs,ep,hB⟩:=packet_eq ns (20 + 11 * k) μ
  obtain ⟨μ1,et⟩:=takes_eq hB h hc μ
  obtain ⟨μ2,es⟩:=says_eq hB a 12 h hn hd μ1
  refine ⟨μ2,some (pk bs),some (pk bs),some (.bl (tk (a.ev bs))),(v_set 3 (d:=pk bs) (v_call (v_cons rfl (v_cons (v_bin (x:=.int 20) (y:=.int (11 * k)) (z:=.int ((20 + 11 * k:Nat):Int)) rfl (v_bin rfl rfl (g_mulL _ _ (by decide) (by decide))) ?_) v_nil)) ep)).trans ((v_set 4 (d:=pk bs) rfl).trans ((v_set 5 (v_call rfl et)).trans ((v_iteF ?_).trans rfl)))⟩
  · show some (D.int (20 + 11 * (k:Int))) = _
    congr 2
  · refine (v_orF (v_not (k:=true) (v_tru (d:=.bl true) rfl rfl))).trans ((v_orF (v_test (v_bin (x:=.bl (tk (a.ev bs))) (y:=.bl (tk (a.ev bs))) rfl (v_bin (v_call rfl es) rfl ?_) ?_))).trans (v_test (v_bin rfl rfl (ne_self bs))))
    · rw [deref_int,deref_int,g_eqI,sv_tk (B.bl_ev hB a h)]
    · cases tk (a.ev bs) <;> rfl
theorem law_true (ns:List Int) (hl:ns.length ≤ 63):∃ μ,f_law [.lst (ns.map .int)] [] = .ok (.bl true) μ:=by
  show ∃ μ,f_law [sc ns] [] = .ok (.bl true) μ
  obtain ⟨a,e,h1,h2,h3,h4⟩:=truth_eq ns [] 8 2 0 (by decide)
  have hc:cB 2 = 70:=rfl
  obtain ⟨μ1,y3,y4,y5,e1⟩:=turn_eq ns h1 h2 (by omega) (by omega) 0 none none none []
  obtain ⟨μ2,z3,z4,z5,e2⟩:=turn_eq ns h1 h2 (by omega) (by omega) 1 y3 y4 y5 μ1
  obtain ⟨μ3,w3,w4,w5,e3⟩:=turn_eq ns h1 h2 (by omega) (by omega) 2 z3 z4 z5 μ2
  exact ⟨μ3,v_fn 5 ((v_set 1 (v_call rfl e)).trans ((v_seqN ((v_for (v_range (n:=3) rfl (by decide))).trans ((v_nx e1).trans ((v_nx e2).trans ((v_nx e3).trans rfl))))).trans rfl))⟩
end K13
noncomputable def PySem.W.Fast.tw1977909684135201573 : Unit := ()
noncomputable def PySem.W.Fast.tw8887401369487285375 : PySem.Program := PySem.Challenge.pw_netsieve_k13_packets_taken
theorem PySem.W.Fast.te8887401369487285375 : PySem.Challenge.pw_netsieve_k13_packets_taken = PySem.W.Fast.tw8887401369487285375 := rfl
noncomputable def PySem.W.Fast.tw11355649590637807584 : Unit := ()
noncomputable def PySem.W.Fast.tw6115473919736558230 : Unit := ()
noncomputable def PySem.W.Fast.tw8611307898107836645 : Unit := ()
noncomputable def PySem.W.Fast.tw14607376897403176681 : Unit := ()
noncomputable def PySem.W.Fast.tw13223575876428460867 : Unit := ()
noncomputable def PySem.W.Fast.tw10501660958258572356 : Unit := ()
noncomputable def PySem.W.Fast.tw10670478684235606217 : Unit := ()
noncomputable def PySem.W.Fast.tw10934077675532866327 : Unit := ()
noncomputable def PySem.W.Fast.tw3140797477880467803 : Unit := ()
noncomputable def PySem.W.Fast.tw11392901966655905594 : Unit := ()
noncomputable def PySem.W.Fast.tw8887276180267433075 : Unit := ()
noncomputable def PySem.W.Fast.tw14935648371733915206 : Unit := ()
noncomputable def PySem.W.Fast.tw16761893423776700848 : Unit := ()
noncomputable def PySem.W.Fast.tw4001800262654486741 : Unit := ()
noncomputable def PySem.W.Fast.tw14745233817577321802 : Unit := ()
noncomputable def PySem.W.Fast.tw5227738963531219219 : Unit := ()
open PySem PySem.W PyProof.Rows
set_option maxRecDepth 100000 in
set_option maxHeartbeats 0 in
theorem PySem.Challenge.cw_netsieve_k13_packets_taken_holds : PySem.Challenge.rw_netsieve_k13_packets_taken.Holds := by
  w_on; o_law; k_head; (case hw => w_witness2)
  k_fill
  refine M.walk_lawM (l := PySem.Challenge.rw_netsieve_k13_packets_taken) (k := 28) (x := "_law_script") (φ := K13.f_law) rfl rfl ⟨rfl, by decide, by decide⟩ (fun w h Y => PySem.W.kIn_of Y) ?F (fun ns hl => K13.law_true ns hl)
  case F =>
    intro w mg fa h KX G hmg
    refine K13.finish hmg ?T
    refine' K13.mkT KX G ?n_len ?n_range ?n_list ?n_max ?n_isinstance ?n_bool ?n_int ?n_sum ?n_min ?a_OPS ?l_OPS ?a_DIVIDING ?l_DIVIDING ?a_WIDTH ?a_ROUND ?a_cell ?l_cell ?c_cell ?k_cell ?a_mix ?l_mix ?c_mix ?k_mix ?a_op ?l_op ?c_op ?k_op ?a_number ?l_number ?c_number ?k_number ?a_truth ?l_truth ?c_truth ?k_truth ?a_packet ?l_packet ?c_packet ?k_packet ?a_p_parts_ahead ?l_p_parts_ahead ?c_p_parts_ahead ?k_p_parts_ahead ?a_p_ask ?l_p_ask ?c_p_ask ?k_p_ask ?a_p_loaded ?l_p_loaded ?c_p_loaded ?k_p_loaded ?a_p_answer_joined ?l_p_answer_joined ?c_p_answer_joined ?k_p_answer_joined ?a_p_shifted ?l_p_shifted ?c_p_shifted ?k_p_shifted ?a_p_plainly_reckoned ?l_p_plainly_reckoned ?c_p_plainly_reckoned ?k_p_plainly_reckoned ?a_p_reckoned ?l_p_reckoned ?c_p_reckoned ?k_p_reckoned ?a_p_compared ?l_p_compared ?c_p_compared ?k_p_compared ?a_p_answer ?l_p_answer ?c_p_answer ?k_p_answer ?a_p_takes ?l_p_takes ?c_p_takes ?k_p_takes ?a_bytes ?l_bytes ?c_bytes ?k_bytes ?a_reckoned ?l_reckoned ?c_reckoned ?k_reckoned ?a_worth ?l_worth ?c_worth ?k_worth ?a_says ?l_says ?c_says ?k_says ?a_law ?l_law ?c_law ?k_law
    (case n_len => k_is); (case n_range => k_is); (case n_list => k_is); (case n_max => k_is)
    (case n_isinstance => k_is); (case n_bool => k_is); (case n_int => k_is); (case n_sum => k_is)
    (case n_min => k_is); (case a_OPS => k_is); (case l_OPS => k_is); (case a_DIVIDING => k_is)
    (case l_DIVIDING => k_is); (case a_WIDTH => k_is); (case a_ROUND => k_is); (case a_cell => k_is)
    (case l_cell => k_is); (case c_cell => k_is); (case k_cell => k_is); (case a_mix => k_is)
    (case l_mix => k_is); (case c_mix => k_is); (case k_mix => k_is); (case a_op => k_is)
    (case l_op => k_is); (case c_op => k_is); (case k_op => k_is); (case a_number => k_is)
    (case l_number => k_is); (case c_number => k_is); (case k_number => k_is); (case a_truth => k_is)
    (case l_truth => k_is); (case c_truth => k_is); (case k_truth => k_is); (case a_packet => k_is)
    (case l_packet => k_is); (case c_packet => k_is); (case k_packet => k_is); (case a_p_parts_ahead => k_is)
    (case l_p_parts_ahead => k_is); (case c_p_parts_ahead => k_is); (case k_p_parts_ahead => k_is); (case a_p_ask => k_is)
    (case l_p_ask => k_is); (case c_p_ask => k_is); (case k_p_ask => k_is); (case a_p_loaded => k_is)
    (case l_p_loaded => k_is); (case c_p_loaded => k_is); (case k_p_loaded => k_is); (case a_p_answer_joined => k_is)
    (case l_p_answer_joined => k_is); (case c_p_answer_joined => k_is); (case k_p_answer_joined => k_is); (case a_p_shifted => k_is)
    (case l_p_shifted => k_is); (case c_p_shifted => k_is); (case k_p_shifted => k_is); (case a_p_plainly_reckoned => k_is)
    (case l_p_plainly_reckoned => k_is); (case c_p_plainly_reckoned => k_is); (case k_p_plainly_reckoned => k_is); (case a_p_reckoned => k_is)
    (case l_p_reckoned => k_is); (case c_p_reckoned => k_is); (case k_p_reckoned => k_is); (case a_p_compared => k_is)
    (case l_p_compared => k_is); (case c_p_compared => k_is); (case k_p_compared => k_is); (case a_p_answer => k_is)
    (case l_p_answer => k_is); (case c_p_answer => k_is); (case k_p_answer => k_is); (case a_p_takes => k_is)
    (case l_p_takes => k_is); (case c_p_takes => k_is); (case k_p_takes => k_is); (case a_bytes => k_is)
    (case l_bytes => k_is); (case c_bytes => k_is); (case k_bytes => k_is); (case a_reckoned => k_is)
    (case l_reckoned => k_is); (case c_reckoned => k_is); (case k_reckoned => k_is); (case a_worth => k_is)
    (case l_worth => k_is); (case c_worth => k_is); (case k_worth => k_is); (case a_says => k_is)
    (case l_says => k_is); (case c_says => k_is); (case k_says => k_is); (case a_law => k_is)
    (case l_law => k_is); (case c_law => k_is); (case k_law => k_is)
