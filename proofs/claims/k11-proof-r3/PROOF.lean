import PyProof.Rows.All
import Wide.All
import OpenK.AllK
import Wide.FinOn
import Lean
import PyProof.EqAt
import PyProof.EqKinds
import PyProof.TupleCall
import PySem.Challenge.RW_netsieve_k11_whole_language
set_option Elab.async false
set_option linter.all false
set_option maxRecDepth 100000
namespace L2
open PySem PySem.Spec PyProof.Rows
noncomputable abbrev Key:=Sum Int Str
noncomputable def xa:Key->Value->Bool
 |.inl k,v=>Value.isInt k v
 |.inr x,v=>Value.isStrOf x v
noncomputable def aD4 (w:World):Key->Int
 |.inl k=>hashInt k
 |.inr x=>hashStr w x
theorem Jn:∀{k:Key}{v:Value},xa k v=true->(∃i t,k=Sum.inl i/\v=Value.int i t)\/(∃x t,k=Sum.inr x/\v=Value.str x t)
 |.inl i,v,h=>by
  obtain⟨t,e⟩:=Value.isInt_shape (k:=i) (v:=v) h
  exact .inl ⟨i,t,rfl,e⟩
 |.inr x,v,h=>by
  obtain⟨t,e⟩:=Value.isStrOf_shape (x:=x) (v:=v) h
  exact .inr ⟨x,t,rfl,e⟩
theorem Bb (i:Int) (t:Tok):xa (.inl i) (.int i t)=true:=by simp[xa,Value.isInt]
theorem Bc (x:Str) (t:Tok):xa (.inr x) (.str x t)=true:=by simp[xa,Value.isStrOf]
theorem av0 (a b:Int):decide ((Sum.inl a:Key)=Sum.inl b)=(a==b):=by
 by_cases e:a=b
 ·subst e;simp
 ·have h:¬(Sum.inl a:Key)=Sum.inl b:=fun q=>e (Sum.inl.inj q)
  rw[decide_eq_false h]
  exact(beq_eq_false_iff_ne.mpr e).symm
theorem au7 (a b:Str):decide ((Sum.inr a:Key)=Sum.inr b)=decide (a=b):=by
 by_cases e:a=b
 ·subst e;simp
 ·have h:¬(Sum.inr a:Key)=Sum.inr b:=fun q=>e (Sum.inr.inj q)
  rw[decide_eq_false h,decide_eq_false e]
theorem au9 (a:Int) (b:Str):decide ((Sum.inl a:Key)=Sum.inr b)=false:=decide_eq_false (fun q=>nomatch q)
theorem au8 (a:Str) (b:Int):decide ((Sum.inr a:Key)=Sum.inl b)=false:=decide_eq_false (fun q=>nomatch q)
noncomputable def J0 (prog:Program) (w:World):PySem.KeyKind prog w Key where
 is:=xa
 hash:=aD4 w
 inj:=fun v a b ha hb=>by
  rcases Jn ha with⟨i,t,rfl,rfl⟩|⟨x,t,rfl,rfl⟩
  ·rcases Jn hb with⟨j,u,rfl,e⟩|⟨y,u,rfl,e⟩
   ·injection e with e1 _;rw[e1]
   ·exact nomatch e
  ·rcases Jn hb with⟨j,u,rfl,e⟩|⟨y,u,rfl,e⟩
   ·exact nomatch e
   ·injection e with e1 _;rw[e1]
 byValue:=fun k v h=>by
  rcases Jn h with⟨i,t,rfl,rfl⟩|⟨x,t,rfl,rfl⟩<;>rfl
 pyHash:=fun hv h=>by
  rcases Jn hv with⟨i,t,rfl,rfl⟩|⟨x,t,rfl,rfl⟩
  ·exact wpAny_pyHash_int h
  ·exact wpAny_pyHash_str h
 eqBool:=fun hu hv h=>by
  rcases Jn hu with⟨i,t,rfl,rfl⟩|⟨x,t,rfl,rfl⟩
  ·rcases Jn hv with⟨j,u,rfl,rfl⟩|⟨y,u,rfl,rfl⟩
   ·rw[av0] at h;exact wpAny_eqBool_int h
   ·rw[au9] at h;exact SeqAt.EqAt.int_str i t y u _ _ _ _ h
  ·rcases Jn hv with⟨j,u,rfl,rfl⟩|⟨y,u,rfl,rfl⟩
   ·rw[au8] at h;exact SeqAt.EqAt.str_int x t j u _ _ _ _ h
   ·rw[au7] at h;exact wpAny_eqBool_str h
 «strs»:=fun k x t v h=>by
  rcases Jn h with⟨i,u,rfl,e⟩|⟨y,u,rfl,e⟩
  ·exact nomatch e
  ·injection e with e1 _
   subst e1
   cases v<;>rfl
theorem E1 (prog:Program) (w:World) (i:Int) (t:Tok):(J0 prog w).is (.inl i) (.int i t)=true:=Bb i t
theorem ee (prog:Program) (w:World) (x:Str) (t:Tok):(J0 prog w).is (.inr x) (.str x t)=true:=Bc x t
inductive V where
 |non|bl (b:Bool)|int (i:Int)|str (x:Str)|byt (b:Array UInt8)|flt (b:UInt64)|ref (a:Addr)|ty (n:String)
 deriving DecidableEq
noncomputable def J3:V->Value->Prop
 |.non,u=>u=Value.none
 |.bl b,u=>u=Value.bool b
 |.int i,u=>∃t,u=Value.int i t
 |.str x,u=>∃t,u=Value.str x t
 |.byt b,u=>∃t,u=Value.bytes b t
 |.flt b,u=>∃t,u=Value.float b t
 |.ref a,u=>u=Value.ref a
 |.ty n,u=>u=Value.type n
noncomputable abbrev J8:List V->List Value->Prop:=Paired J3
theorem J8.length {xs:List V}{us:List Value}(r:J8 xs us):xs.length=us.length:=Paired.length r
theorem J8.get:∀{xs:List V}{us:List Value}{i:Nat}{x:V},J8 xs us->xs[i]? =some x->∃u,us[i]? =some u/\J3 x u
 |_,_,_,_,.nil,e=>by simp at e
 |_,_,0,_,.cons r _,e=>by simp at e;subst e;exact⟨_,rfl,r⟩
 |_,_,i+1,x,.cons _ t,e=>by
  obtain⟨u,h1,h2⟩:=J8.get (i:=i) (x:=x) t (by simpa using e)
  exact⟨u,by simpa using h1,h2⟩
theorem J8.append:∀{xs ys:List V}{us ws:List Value},J8 xs us->J8 ys ws->J8 (xs++ys) (us++ws)
 |_,_,_,_,.nil,s=>s
 |_,_,_,_,.cons r t,s=>.cons r (J8.append t s)
theorem J8.take:∀{xs:List V}{us:List Value}(n:Nat),J8 xs us->J8 (xs.take n) (us.take n)
 |_,_,0,_=>.nil
 |_,_,_+1,.nil=>.nil
 |_,_,n+1,.cons r t=>.cons r (J8.take n t)
theorem J8.drop:∀{xs:List V}{us:List Value}(n:Nat),J8 xs us->J8 (xs.drop n) (us.drop n)
 |_,_,0,r=>r
 |_,_,_+1,.nil=>.nil
 |_,_,n+1,.cons _ t=>J8.drop n t
noncomputable def Zi:Option V->Option Value->Prop
 |some v,some u=>J3 v u
 |none,none=>True
 |_,_=>False
noncomputable def KV {κ:Type}:List (κ×V)->List (κ×Value)->Prop:=Paired fun(p:κ×V) (q:κ×Value)=>p.1=q.1/\J3 p.2 q.2
noncomputable def kV:Key->V
 |.inl i=>.int i
 |.inr x=>.str x
inductive HO where
 |lst (xs:List V)
 |tup (xs:List V)
 |dK (kvs:List (Key×V))|dT (kvs:List (List Key×V))
 |set (S:Int->Bool) (n:Nat)
 |ins (C dx:Addr) (fs:List (Str×V))
 |own (x:Addr)
 |xd (fs:List (Str×V))
 |met (f x:Addr)
 |rng (lo hi:Int)
 |frz (o:Obj) (u:HO)
 |tbl (ps:Array Value)
 |ext (φ:Heap->Prop)
noncomputable abbrev Hp:=Addr->Option HO
noncomputable def upd (H:Hp) (a:Addr) (o:HO):Hp:=fun b=>if b=a then some o else H b
theorem jt {H:Hp}{a:Addr}{o:HO}:upd H a o a=some o:=by unfold upd;rw[if_pos rfl]
theorem jz {H:Hp}{a b:Addr}{o:HO}(h:b≠a):upd H a o b=H b:=by unfold upd;rw[if_neg h]
theorem x3 {H:Hp}{a:Addr}{o u:HO}:upd (upd H a o) a u=upd H a u:=by
 funext b;unfold upd;split<;>rfl
theorem js {H:Hp}{a b:Addr}{o:HO}(h:H a=some o) (h':H b=none):a≠b:=by
 intro e;subst e;rw[h] at h';cases h'
section
variable (P:Program) (w:World)
noncomputable def uw (H:Hp) (h:Heap) (a:Addr):HO->Prop
 |.lst xs=>xs.length<=sizeLine/\∃(its:List Value) (n:Nat),J8 xs its/\h.get? a=some { cls:=.type "list",data:=.seq its.toArray n}
 |.tup xs=>xs.length<=sizeLine/\∃its:List Value,J8 xs its/\IsTup h a its.toArray
 |.dK kvs=>kvs.length<=sizeLine/\(a==sysModules)=false/\∃vs,KV kvs vs/\h.DictOf (J0 P w) a vs
 |.dT kvs=>kvs.length<=sizeLine/\(a==sysModules)=false/\∃xs:List (List Key×Addr×Value),
   Paired (fun(p:List Key×V) (q:List Key×Addr×Value)=>p.1=q.1/\H q.2.1=some (.tup (p.1.map kV))/\J3 p.2 q.2.2) kvs xs /\
   ∃o es ep,h.get? a=some o/\o.ExactDict/\o.data=.dict es ep/\es.toList=xs.map (entryOfKey (tupleKind (J0 P w)))/\(xs.map (·.1)).Nodup
 |.set S n=>h.SetOf (intKind P w) a S n
 |.ins C dx fs=>H dx=some (.own a)/\fs.length<=1000/\dx≠a/\h.get? a=some (PySem.W.instObj C dx) /\
   ∃mA,h.Ns1 dx mA/\(∀f,Zi (fs.lookup f) (mA f))/\PySem.Within mA (fs.map (·.1))
 |.own _=>∃o,h.get? a=some o
 |.xd fs=>∃mA,h.Ns1 a mA/\∀f,Zi (fs.lookup f) (mA f)
 |.rng lo hi=>∃t u v,h.get? a=some { cls:=.type "range",data:=.fields #[.int lo t,.int hi u,.int 1 v]}
 |.frz o u=>h.get? a=some o/\uw H h a u
 |.tbl ps=>h.get? a=some { cls:=.none,data:=.fields ps}
 |.met f x=>h.get? a=some (PySem.W.methodObj (.ref f) (.ref x))
 |.ext φ=>φ h/\(∃o,h.get? a=some o)/\∀h1 h2:Heap,φ h1->(∀o,h1.get? a=some o->h2.get? a=some o)->φ h2
noncomputable def HOk (H:Hp) (h:Heap):Prop:=∀a o,H a=some o->uw P w H h a o
end
section
variable {P:Program}{w:World}{H H':Hp}{h h':Heap}{a:Addr}{o:HO}
theorem uw.lt (x:uw P w H h a o):a<h.objs.size:=by
 cases o with
 |lst xs=>obtain⟨_,_,_,_,e⟩:=x;exact Heap.lt_size e
 |tup xs=>obtain⟨_,_,_,p⟩:=x;exact p.lt
 |dK kvs=>obtain⟨_,_,_,_,o,_,_,e,_⟩:=x;exact Heap.lt_size e
 |dT kvs=>obtain⟨_,_,_,_,o,_,_,e,_⟩:=x;exact Heap.lt_size e
 |set S n=>obtain⟨o,_,_,_,e,_⟩:=x;exact Heap.lt_size e
 |ins C dx fs=>obtain⟨_,_,_,e,_⟩:=x;exact Heap.lt_size e
 |own y=>obtain⟨_,e⟩:=x;exact Heap.lt_size e
 |xd fs=>obtain⟨_,⟨_,_,_,e,_⟩,_⟩:=x;exact Heap.lt_size e
 |rng lo hi=>obtain⟨_,_,_,e⟩:=x;exact Heap.lt_size e
 |frz ob u=>obtain⟨e,_⟩:=x;exact Heap.lt_size e
 |tbl ps=>exact Heap.lt_size (show h.get? a=some _ from x)
 |met f y=>exact Heap.lt_size (show h.get? a=some _ from x)
 |ext φ=>obtain⟨_,⟨_,e⟩,_⟩:=x;exact Heap.lt_size e
theorem Paired.mapP {α β:Type}{F G:α->β->Prop}:∀{l₁:List α}{l₂:List β},Paired F l₁ l₂->(∀a b,F a b->G a b)->Paired G l₁ l₂
 |_,_,.nil,_=>.nil
 |_,_,.cons r t,f=>.cons (f _ _ r) (Paired.mapP t f)
theorem uw.stay (x:uw P w H h a o) (k:∀b u,(b=a\/H b=some (.own a))->h.get? b=some u->h'.get? b=some u)
  (ho:∀b,H b=some (.own a)->H' b=some (.own a)) (ht:∀b xs,H b=some (.tup xs)->H' b=some (.tup xs)):uw P w H' h' a o:=by
 induction o with
 |lst xs=>obtain⟨z,its,n,r,e⟩:=x;exact⟨z,its,n,r,k _ _ (.inl rfl) e⟩
 |tup xs=>obtain⟨z,its,r,ob,e,c⟩:=x;exact⟨z,its,r,ob,k _ _ (.inl rfl) e,c⟩
 |dK kvs=>obtain⟨z,y,vs,r,ob,es,ep,e,c⟩:=x;exact⟨z,y,vs,r,ob,es,ep,k _ _ (.inl rfl) e,c⟩
 |dT kvs =>
  obtain⟨z,y,xs,r,ob,es,ep,e,c⟩:=x
  exact⟨z,y,xs,Paired.mapP r fun p q z=>⟨z.1,ht _ _ z.2.1,z.2.2⟩,ob,es,ep,k _ _ (.inl rfl) e,c⟩
 |set S n=>obtain⟨ob,es,ep,t,e,c⟩:=x;exact⟨ob,es,ep,t,k _ _ (.inl rfl) e,c⟩
 |ins C dx fs =>
  obtain⟨d,z,ne,e,mA,⟨od,es,ep,e2,c⟩,r⟩:=x
  exact⟨ho _ d,z,ne,k _ _ (.inl rfl) e,mA,⟨od,es,ep,k _ _ (.inr d) e2,c⟩,r⟩
 |own y=>obtain⟨ob,e⟩:=x;exact⟨ob,k _ _ (.inl rfl) e⟩
 |xd fs=>obtain⟨mA,⟨od,es,ep,e,c⟩,r⟩:=x;exact⟨mA,⟨od,es,ep,k _ _ (.inl rfl) e,c⟩,r⟩
 |rng lo hi=>obtain⟨t,u,v,e⟩:=x;exact⟨t,u,v,k _ _ (.inl rfl) e⟩
 |frz ob u ih=>obtain⟨e,q⟩:=x;exact⟨k _ _ (.inl rfl) e,ih q⟩
 |tbl ps =>
  have e:h.get? a=some { cls:=.none,data:=.fields ps}:=x
  show h'.get? a=some { cls:=.none,data:=.fields ps}
  exact k a _ (.inl rfl) e
 |met f y =>
  have e:h.get? a=some (PySem.W.methodObj (.ref f) (.ref y)):=x
  show h'.get? a=some (PySem.W.methodObj (.ref f) (.ref y))
  exact k a _ (.inl rfl) e
 |ext φ=>obtain⟨p,⟨o,e⟩,st⟩:=x;exact⟨st _ _ p fun o q=>k _ _ (.inl rfl) q,⟨o,k _ _ (.inl rfl) e⟩,st⟩
theorem HOk.lt (x:HOk P w H h) (e:H a=some o):a<h.objs.size:=(x a o e).lt
theorem HOk.fresh (x:HOk P w H h) (e:h.objs.size<=a):H a=none:=by
 cases q:H a with
 |none=>rfl
 |some u=>exact absurd (Nat.lt_of_lt_of_le (x.lt q) e) (Nat.lt_irrefl _)
theorem HOk.kept (x:HOk P w H h) (k:∀b u,h.get? b=some u->h'.get? b=some u):HOk P w H h':=fun a o e =>
 (x a o e).stay (fun b u _ q=>k b u q) (fun _ q=>q) fun _ _ q=>q
theorem HOk.laid (x:HOk P w H h) (k:∀b u,h.get? b=some u->h'.get? b=some u) (hp:h.objs.size<=a) (new:uw P w (upd H a o) h' a o):HOk P w (upd H a o) h':=fun b u e=>by
 have hn:=x.fresh hp
 by_cases hb:b=a
 ·subst hb;rw[jt] at e;cases e;exact new
 ·rw[jz hb] at e
  exact(x b u e).stay (fun c v _ q=>k c v q) (fun c q=>by rw[jz (js q hn)];exact q) fun c xs q=>by rw[jz (js q hn)];exact q
end
noncomputable def Rd (H:Hp) (a:Addr) (u:HO):Prop:=H a=some u\/∃o,H a=some (.frz o u)
theorem Rd.ok {P:Program}{w:World}{H:Hp}{h:Heap}{a:Addr}{u:HO}(r:Rd H a u) (x:HOk P w H h):uw P w H h a u:=by
 rcases r with r|⟨o,r⟩
 ·exact x a u r
 ·obtain⟨_,q⟩:=x a _ r
  exact q
noncomputable def Mut:Option HO->Prop
 |some (.lst _)=>True
 |some (.dK _)=>True
 |some (.dT _)=>True
 |some (.set _ _)=>True
 |some (.ins _ _ _)=>True
 |some (.ext _)=>True
 |_=>False
section
variable {P:Program}{w:World}{H:Hp}{h h':Heap}{x e:Addr}{o':HO}
theorem HOk.write (ok:HOk P w H h) (mu:Mut (H x)) (he:e=x\/H e=some (.own x)) (k:∀b u,b≠e->h.get? b=some u->h'.get? b=some u) (heo:∃u,h'.get? e=some u)
  (new:uw P w (upd H x o') h' x o'):HOk P w (upd H x o') h':=fun b u q=>by
 have nown:∀c y,H c=some (.own y)->c≠x:=fun c y r z=>by subst z;rw[r] at mu;exact mu
 have ntup:∀c xs,H c=some (.tup xs)->c≠x:=fun c xs r z=>by subst z;rw[r] at mu;exact mu
 by_cases hb:b=x
 ·subst hb;rw[jt] at q;cases q;exact new
 ·rw[jz hb] at q
  by_cases hbe:b=e
  ·have q':H b=some (.own x):=by
    rcases he with z|z
    ·exact absurd (hbe.trans z) hb
    ·rw[hbe];exact z
   rw[q] at q';cases q'
   obtain⟨v,hv⟩:=heo
   exact⟨v,by rw[hbe];exact hv⟩
  ·refine(ok b u q).stay (fun c v hc r=>k c v ?_ r) (fun c r=>by rw[jz (nown c b r)];exact r) fun c xs r=>by rw[jz (ntup c xs r)];exact r
   rcases hc with rfl|hc
   ·exact hbe
   ·rintro rfl
    rcases he with z|z
    ·exact nown c b hc z
    ·rw[hc] at z;cases z;exact hb rfl
end
structure Un (fs ex:List Addr) (H H':Hp) (h h':Heap):Prop where
 keep:∀b o,h.get? b=some o->H b=none->b∉fs->b∉ex->h'.get? b=some o
 slot:∀b o,h.get? b=some o->H b=none->b∈fs->b∉ex->∃sl,h'.get? b=some { o with slots:=sl}
 free:∀b o,h.get? b=some o->H b=none->b∉ex->H' b=none
 there:∀b o,h.get? b=some o->b∉ex->∃o',h'.get? b=some o'
 tups:∀b xs,H b=some (.tup xs)->H' b=some (.tup xs)
 frzs:∀b o u,H b=some (.frz o u)->H' b=some (.frz o u)
 tbls:∀b ps,H b=some (.tbl ps)->∃more,H' b=some (.tbl (ps++more))
section
variable {fs fs' ex ex':List Addr}{H H1 H2:Hp}{h h1 h2 h':Heap}{a x e:Addr}{o:HO}
theorem Un.any (u:Un fs ex H H1 h h1) {b:Addr}{ob:Obj}(q:h.get? b=some ob) (n:H b=none) (hx:b∉ex):∃sl,h1.get? b=some { ob with slots:=sl}:=by
 by_cases hb:b∈fs
 ·exact u.slot b ob q n hb hx
 ·exact⟨ob.slots,u.keep b ob q n hb hx⟩
theorem Un.trans (a:Un fs ex H H1 h h1) (b:Un fs ex H1 H2 h1 h2):Un fs ex H H2 h h2 where
 keep:=fun c ob q n hc hx=>b.keep c ob (a.keep c ob q n hc hx) (a.free c ob q n hx) hc hx
 slot:=fun c ob q n hc hx=>by
  obtain⟨sl,e1⟩:=a.slot c ob q n hc hx
  obtain⟨sl',e2⟩:=b.slot c _ e1 (a.free c ob q n hx) hc hx
  exact⟨sl',e2⟩
 free:=fun c ob q n hx=>by
  obtain⟨o',e1⟩:=a.there c ob q hx
  exact b.free c o' e1 (a.free c ob q n hx) hx
 there:=fun c ob q hx=>by
  obtain⟨o',e1⟩:=a.there c ob q hx
  exact b.there c o' e1 hx
 tups:=fun c xs q=>b.tups c xs (a.tups c xs q)
 frzs:=fun c ob xs q=>b.frzs c ob xs (a.frzs c ob xs q)
 tbls:=fun c ps q=>by
  obtain⟨m1,e1⟩:=a.tbls c ps q
  obtain⟨m2,e2⟩:=b.tbls c _ e1
  exact⟨m1++m2,by rw[e2,Array.append_assoc]⟩
theorem Un.kept (k:∀b u,h.get? b=some u->h'.get? b=some u):Un fs ex H H h h' :=
 ⟨fun b ob q _ _ _=>k b ob q,fun b ob q _ _ _=>⟨ob.slots,k b ob q⟩,fun _ _ _ n _=>n,fun b ob q _=>⟨ob,k b ob q⟩,fun _ _ q=>q,fun _ _ _ q=>q,fun _ ps q=>⟨#[],by rw[q];simp⟩⟩
theorem Un.refl:Un fs ex H H h h:=Un.kept fun _ _ q=>q
theorem Un.laid (k:∀b u,h.get? b=some u->h'.get? b=some u) (hp:h.objs.size<=a) (hn:H a=none):Un fs ex H (upd H a o) h h' where
 keep:=fun b u q _ _ _=>k b u q
 slot:=fun b u q _ _ _=>⟨u.slots,k b u q⟩
 free:=fun b u q n _=>by rw[jz (Nat.ne_of_lt (Nat.lt_of_lt_of_le (Heap.lt_size q) hp))];exact n
 there:=fun b u q _=>⟨u,k b u q⟩
 tups:=fun b xs q=>by rw[jz (js q hn)];exact q
 frzs:=fun b u xs q=>by rw[jz (js q hn)];exact q
 tbls:=fun b ps q=>⟨#[],by rw[jz (js q hn),q];simp⟩
theorem Un.write (mu:Mut (H x)) (he:e=x\/H e=some (.own x)) (k:∀b u,b≠e->h.get? b=some u->h'.get? b=some u) (heo:∃u,h'.get? e=some u):Un fs ex H (upd H x o) h h':=by
 have hx:∀b,H b=none->b≠x:=fun b n z=>by subst z;rw[n] at mu;exact mu
 have hb:∀b,H b=none->b≠e:=fun b n z=>by
  subst z
  rcases he with r|r
  ·exact hx b n r
  ·rw[n] at r;cases r
 have hm:∀b u,H b=some u->¬Mut (some u)->b≠x:=fun b u q nm z=>by subst z;rw[q] at mu;exact nm mu
 refine⟨fun b u q n _ _=>k b u (hb b n) q,fun b u q n _ _=>⟨u.slots,k b u (hb b n) q⟩,fun b u q n _=>by rw[jz (hx b n)];exact n,fun b u q _=>?_,
  fun b xs q=>by rw[jz (hm b _ q fun z=>z)];exact q,fun b u xs q=>by rw[jz (hm b _ q fun z=>z)];exact q,fun b ps q=>⟨#[],by rw[jz (hm b _ q fun z=>z),q];simp⟩⟩
 by_cases hbe:b=e
 ·subst hbe;exact heo
 ·exact⟨u,k b u hbe q⟩
end
noncomputable def trk (h:Heap) (H:Hp):List Addr:=(List.range h.objs.size).filter fun a=>(H a).isSome
noncomputable def fo (h:Heap) (H:Hp):Heap:=PySem.W.hideAll h (trk h H)
theorem az (h:Heap) (H:Hp):(fo h H).objs.size=h.objs.size:=PySem.W.hideAll_size _ _
theorem a61 {h:Heap}{H:Hp}{b:Addr}{o:Obj}(e:h.get? b=some o) (n:H b=none):(fo h H).get? b=some o :=
 PySem.W.hideAll_get _ e fun hm=>by
  have q:(H b).isSome=true:=(List.mem_filter.mp hm).2
  rw[n] at q;simp at q
theorem ad9 {h:Heap}{H:Hp}{b:Addr}{o:Obj}(e:(fo h H).get? b=some o):h.get? b=some o/\H b=none:=by
 have e':h.get? b=some o:=PySem.W.of_hideAll (trk h H) e
 refine⟨e',?_⟩
 cases q:H b with
 |none=>rfl
 |some x =>
  have hm:b∈trk h H:=List.mem_filter.mpr ⟨List.mem_range.mpr (Heap.lt_size e'),by simp[q]⟩
  have z:(fo h H).get? b=none:=PySem.W.hideAll_none (trk h H) hm
  rw[z] at e;cases e
noncomputable def ai5 (g h:Heap) (L:Addr):List (Addr×Obj):=(List.range h.objs.size).filterMap fun a=>if a=L\/(g.get? a).isSome=true then none else(h.get? a).map fun o=>(a,o)
noncomputable def rest (g h:Heap) (L d:Addr):List (Addr×Obj):=(ai5 g h L).filter fun p=>decide (p.1≠d)
structure Mod (K:PySem.W.Frag) (mg:Str->Option Value) (base:Heap):Prop where
 kin:K.In base
 glob:base.Ns mainGlobals mg
 blt:∃mb,base.Ns builtinsNs mb/\∀x:Str,x≠"__name__"->mb x=bootBuiltins x
 nolimit:base.NoLimit
structure Cx where
 prog:Program
 w:World
 K:PySem.W.Frag
 mg:Str->Option Value
 base:Heap
 A:Around
 N:List Str
 s₀:Shared
 H₀:Hp
 env:Env
 outer:List Env
 stack:List Env
 ex:List Addr
 fn:Str->Bool
 calm:Bool
 pn:List (Addr×Obj)
 xe:Value->Shared->Prop
 kn:Option (Str->Option Value):=none
noncomputable def Cx.nd (X:Cx):Prop:=X.N.Nodup/\X.kn=none
noncomputable def frs (l:List Env):List Addr:=l.filterMap (·.frame)
noncomputable abbrev Cx.fs (X:Cx):List Addr:=frs X.outer
noncomputable def Vis (sc:Scope) (x:Str):Prop:=sc.names.lookup x=some .local\/sc.names.lookup x=some .cell\/sc.names.lookup x=some .free
noncomputable def Loc (sc:Scope) (x:Str):Prop:=sc.names.lookup x=some .local\/sc.names.lookup x=some .cell
noncomputable def aH5 (env:Env) (h:Heap) (m:Str->Option Value) (x:Str) (u:Value):Prop :=
 (env.kindOf x=some .local/\m x=some u)\/((env.kindOf x=some .cell\/env.kindOf x=some .free)/\∃c,env.cells.lookup x=some c/\h.IsCell c (some u))
structure Cx.Ok (X:Cx):Prop where
 mod:Mod X.K X.mg X.base
 kind:X.env.scope.kind=.function
 glob:X.env.globals=mainGlobals
 blt:X.env.builtins=builtinsNs
 above:X.s₀.heap.objs.size<=X.env.locals
 inj:∀x y c,X.env.cells.lookup x=some c->X.env.cells.lookup y=some c->x=y
 has:∀x,(X.env.kindOf x=some .cell\/X.env.kindOf x=some .free)->∃c,X.env.cells.lookup x=some c
 cab:∀x c,X.fn x=true->X.env.cells.lookup x=some c->X.s₀.heap.objs.size<=c
 hd:X.calm=true->X.A.handled=none
 frames:X.A.frames=some X.stack
 stk:X.stack=X.outer\/(X.stack=X.env::X.outer/\X.env.frame=some X.env.locals)
 exf:∀b∈X.ex,b≠X.env.locals/\∀x c,X.env.cells.lookup x=some c->c≠b
 bs:∀b o,X.base.get? b=some o->X.s₀.heap.get? b=some o/\X.H₀ b=none
 bsz:X.base.objs.size<=X.s₀.heap.objs.size
 noex:∀b o,X.base.get? b=some o->b∉X.ex
 exfs:∀b∈X.ex,b∉X.fs
 funs:X.s₀.heap.FunFrames X.base X.outer
 frf:∀b∈X.fs,X.H₀ b=none
structure Inv (X:Cx) (pins:List (Addr×Obj)) (σ:List (Option V)) (H:Hp) (s:Shared):Prop where
 ok:X.Ok
 os:s.os=X.s₀.os
 bare:AllBare s.gens
 base:Un X.fs X.ex X.H₀ H X.s₀.heap s.heap
 loc:∃m,s.heap.Ns X.env.locals m/\∀(i:Nat) (x:Str) (v:V),X.N[i]? =some x->σ[i]? =some (some v)->Vis X.env.scope x->∃u,J3 v u/\aH5 X.env s.heap m x u
 cell:∀x c,X.env.cells.lookup x=some c->∃v,s.heap.IsCell c v
 free:H X.env.locals=none
 freeC:∀x c,X.env.cells.lookup x=some c->H c=none
 pin:∀p∈X.pn++pins,s.heap.get? p.1=some p.2/\H p.1=none/\p.1≠X.env.locals/\p.1∉X.fs/\∀v,p.2.data≠.cell v
 hok:HOk X.prog X.w H s.heap
 len:σ.length=X.N.length
 fx:∀f,X.kn=some f->s.heap.Ns X.env.locals f
section
variable {X:Cx}{pins:List (Addr×Obj)}{σ:List (Option V)}{H H':Hp}{s:Shared}{h':Heap}
theorem Cx.Ok.nofr (ok:X.Ok) {b:Addr}{o:Obj}(e:X.base.get? b=some o):b∉X.fs:=fun hb=>by
 have:=(ok.funs.mem hb).1
 rw[e] at this;cases this
theorem Inv.bs (I:Inv X pins σ H s):∀b o,X.base.get? b=some o->s.heap.get? b=some o/\H b=none:=fun b o e =>
 ⟨I.base.keep b o (I.ok.bs b o e).1 (I.ok.bs b o e).2 (I.ok.nofr e) (I.ok.noex b o e),I.base.free b o (I.ok.bs b o e).1 (I.ok.bs b o e).2 (I.ok.noex b o e)⟩
theorem Inv.bk (I:Inv X pins σ H s):∀b o,X.base.get? b=some o->s.heap.get? b=some o:=fun b o e=>(I.bs b o e).1
theorem Inv.mod (I:Inv X pins σ H s):Mod X.K X.mg X.base:=I.ok.mod
theorem Inv.kIn (I:Inv X pins σ H s):X.K.In s.heap:=I.ok.mod.kin.keeps I.bk
theorem Inv.fr (I:Inv X pins σ H s):∃m,Fr X.base X.env.locals s.heap m :=
 let⟨m,hn,_⟩:=I.loc
 ⟨m,hn,I.bk,Nat.le_trans I.ok.bsz I.ok.above⟩
theorem Inv.lt (I:Inv X pins σ H s):X.env.locals<s.heap.objs.size:=let⟨_,hn,_⟩:=I.loc;hn.lt
theorem Inv.sz (I:Inv X pins σ H s):X.s₀.heap.objs.size<=s.heap.objs.size:=Nat.le_trans I.ok.above (Nat.le_of_lt I.lt)
theorem Inv.nofs (I:Inv X pins σ H s) {a:Addr}(h:s.heap.objs.size<=a):a∉X.fs:=fun hb=>by
 obtain⟨_,o,ho,_⟩:=I.ok.funs.mem hb
 exact absurd (Nat.lt_of_lt_of_le (Heap.lt_size ho) (Nat.le_trans I.sz h)) (Nat.lt_irrefl _)
theorem Inv.cne (I:Inv X pins σ H s):∀x c,X.env.cells.lookup x=some c->c≠X.env.locals:=fun x c e z=>by
 obtain⟨v,o,ho,hd⟩:=I.cell x c e
 obtain⟨m,⟨o',es,ep,ho',hd',_⟩,_⟩:=I.loc
 rw[z,ho'] at ho;cases ho;rw[hd'] at hd;cases hd
theorem Inv.funs (I:Inv X pins σ H s):s.heap.FunFrames X.base X.outer:=by
 have all:∀(l:List Env),(∀b∈frs l,b∈X.fs)->X.s₀.heap.FunFrames X.base l->s.heap.FunFrames X.base l:=by
  intro l
  induction l with
  |nil=>intro _ _;trivial
  |cons env r ih =>
   intro hs hl
   obtain⟨hk,⟨L,o,hf,hn,ho,hd⟩,hr⟩:=hl
   have hL:L∈X.fs:=hs L (by unfold frs;rw[List.filterMap_cons,hf];exact List.mem_cons_self)
   obtain⟨sl,e⟩:=I.base.slot L o ho (I.ok.frf L hL) hL fun z=>I.ok.exfs L z hL
   exact⟨hk,⟨L,_,hf,hn,e,hd⟩,ih (fun b hb=>hs b (by unfold frs;rw[List.filterMap_cons,hf];exact List.mem_cons_of_mem _ hb)) hr⟩
 exact all X.outer (fun _ hb=>hb) I.ok.funs
theorem Inv.stack (I:Inv X pins σ H s):s.heap.FunFrames X.base X.stack:=by
 rcases I.ok.stk with e|⟨e,hf⟩
 ·rw[e];exact I.funs
 ·rw[e]
  obtain⟨m,hn,_⟩:=I.loc
  refine .cons (by rw[I.ok.kind];decide) hf hn ?_ I.funs
  exact Heap.get?_none_of_le (Nat.le_trans I.ok.bsz I.ok.above)
theorem Inv.stkSub (I:Inv X pins σ H s):∀b∈frs X.stack,b∈X.env.locals::X.fs:=fun b hb=>by
 rcases I.ok.stk with e|⟨e,hf⟩
 ·rw[e] at hb;exact List.mem_cons_of_mem _ hb
 ·rw[e] at hb
  unfold frs at hb
  rw[List.filterMap_cons,hf] at hb
  exact hb
theorem Inv.stkFree (I:Inv X pins σ H s):∀b∈frs X.stack,H b=none:=fun b hb=>by
 rcases List.mem_cons.mp (I.stkSub b hb) with e|hb
 ·rw[e];exact I.free
 ·obtain⟨_,o,ho,_⟩:=I.ok.funs.mem hb
  exact I.base.free b o ho (I.ok.frf b hb) fun z=>I.ok.exfs b z hb
theorem Inv.step {g':Array GenState}{t':Nat}{d':Drawn}{ch:List Addr}(I:Inv X pins σ H s)
  (hch:∀b∈ch,(b∈X.ex\/X.s₀.heap.objs.size<=b)/\b≠X.env.locals/\(∀x c,X.env.cells.lookup x=some c->c≠b)/\∀p∈X.pn++pins,p.1≠b)
  (keep:∀b o,b≠X.env.locals->b∉X.fs->b∉ch->s.heap.get? b=some o->H b=none->h'.get? b=some o)
  (slot:∀b o,b≠X.env.locals->b∈X.fs->b∉ch->s.heap.get? b=some o->H b=none->∃sl,h'.get? b=some { o with slots:=sl}) (free:∀b o,b∉ch->s.heap.get? b=some o->H b=none->H' b=none)
  (there:∀b o,b∉ch->s.heap.get? b=some o->∃o',h'.get? b=some o')
  (tups:∀b xs,H b=some (.tup xs)->H' b=some (.tup xs)) (frzs:∀b o u,H b=some (.frz o u)->H' b=some (.frz o u)) (tbls:∀b ps,H b=some (.tbl ps)->∃more,H' b=some (.tbl (ps++more)))
  (ns:∀m,s.heap.Ns X.env.locals m->h'.Ns X.env.locals m) (hok:HOk X.prog X.w H' h') (hg:AllBare g') :
  Inv X pins σ H' { s with heap:=h',gens:=g',drawn:=d',toks:=t'}:=by
 have neL:∀b o,X.s₀.heap.get? b=some o->b≠X.env.locals:=fun b o e=>Nat.ne_of_lt (Nat.lt_of_lt_of_le (Heap.lt_size e) I.ok.above)
 have neC:∀b o,X.s₀.heap.get? b=some o->b∉X.ex->b∉ch:=fun b o e hx hb=>by
  rcases(hch b hb).1 with z|z
  ·exact hx z
  ·exact absurd (Nat.lt_of_lt_of_le (Heap.lt_size e) z) (Nat.lt_irrefl _)
 have cellK:∀x c,X.env.cells.lookup x=some c->∀v,s.heap.IsCell c v->h'.IsCell c v:=fun x c e v ⟨o,ho,hd⟩=>by
  have nch:c∉ch:=fun z=>(hch c z).2.2.1 x c e rfl
  by_cases hc:c∈X.fs
  ·obtain⟨sl,q⟩:=slot c o (I.cne x c e) hc nch ho (I.freeC x c e)
   exact⟨_,q,hd⟩
  ·exact⟨o,keep c o (I.cne x c e) hc nch ho (I.freeC x c e),hd⟩
 refine⟨I.ok,I.os,hg,⟨fun b o e n hb hx=>?_,fun b o e n hb hx=>?_,fun b o e n hx=>?_,fun b o e hx=>?_,fun b xs e=>tups b xs (I.base.tups b xs e),fun b o xs e=>frzs b o xs (I.base.frzs b o xs e),fun b ps e=>?_⟩,?_,fun x c e=>?_,?_,fun x c e=>?_,fun p hp=>?_,hok,I.len,fun f e=>ns f (I.fx f e)⟩
 ·exact keep b o (neL b o e) hb (neC b o e hx) (I.base.keep b o e n hb hx) (I.base.free b o e n hx)
 ·obtain⟨sl,e1⟩:=I.base.slot b o e n hb hx
  obtain⟨sl',e2⟩:=slot b _ (neL b o e) hb (neC b o e hx) e1 (I.base.free b o e n hx)
  exact⟨sl',e2⟩
 ·obtain⟨o',e1⟩:=I.base.there b o e hx
  exact free b o' (neC b o e hx) e1 (I.base.free b o e n hx)
 ·obtain⟨o',e1⟩:=I.base.there b o e hx
  exact there b o' (neC b o e hx) e1
 ·obtain⟨m1,e1⟩:=I.base.tbls b ps e
  obtain⟨m2,e2⟩:=tbls b _ e1
  exact⟨m1++m2,by rw[e2,Array.append_assoc]⟩
 ·obtain⟨m,hn,hl⟩:=I.loc
  refine⟨m,ns m hn,fun i x v e1 e2 e3=>?_⟩
  obtain⟨u,r,l⟩:=hl i x v e1 e2 e3
  refine⟨u,r,?_⟩
  rcases l with l|⟨k,c,e,z⟩
  ·exact .inl l
  ·exact .inr ⟨k,c,e,cellK x c e _ z⟩
 ·obtain⟨v,z⟩:=I.cell x c e
  exact⟨v,cellK x c e v z⟩
 ·obtain⟨m,⟨o,_,_,ho,_⟩,_⟩:=I.loc
  exact free _ o (fun z=>(hch _ z).2.1 rfl) ho I.free
 ·obtain⟨v,o,ho,hd⟩:=I.cell x c e
  exact free c o (fun z=>(hch c z).2.2.1 x c e rfl) ho (I.freeC x c e)
 ·obtain⟨e,n,ne,nf,d⟩:=I.pin p hp
  have nch:p.1∉ch:=fun z=>(hch p.1 z).2.2.2 p hp rfl
  exact⟨keep p.1 p.2 ne nf nch e n,free p.1 p.2 nch e n,ne,nf,d⟩
theorem Inv.un {t':Nat}(I:Inv X pins σ H s) (u:Un X.fs [] H H' s.heap h') (hok:HOk X.prog X.w H' h'):Inv X pins σ H' { s with heap:=h',toks:=t'}:=by
 obtain⟨m,⟨o,es,ep,ho,r⟩,_⟩:=id I.loc
 obtain⟨sl,hL⟩:=u.any ho I.free (by simp)
 exact I.step (g':=s.gens) (d':=s.drawn) (ch:=[]) (fun _ z=>nomatch z) (fun b o _ hb _ e n=>u.keep b o e n hb (by simp)) (fun b o _ hb _ e n=>u.slot b o e n hb (by simp)) (fun b o _ e n=>u.free b o e n (by simp)) (fun b o _ e=>u.there b o e (by simp)) u.tups u.frzs u.tbls (fun m' hm=>by
  obtain⟨o',es',ep',ho',r'⟩:=hm
  rw[ho] at ho';cases ho'
  exact⟨_,es',ep',hL,r'⟩) hok I.bare
theorem Inv.call {g':Array GenState}{t':Nat}{d':Drawn}{ch:List Addr}(I:Inv X pins σ H s) (u:Un (frs X.stack) ch H H' s.heap h') (hok:HOk X.prog X.w H' h') (hg:AllBare g')
  (hch:∀b∈ch,(b∈X.ex\/X.s₀.heap.objs.size<=b)/\b≠X.env.locals/\(∀x c,X.env.cells.lookup x=some c->c≠b)/\∀p∈X.pn++pins,p.1≠b) :
  Inv X pins σ H' { s with heap:=h',gens:=g',drawn:=d',toks:=t'}:=by
 obtain⟨m,⟨o,es,ep,ho,r⟩,_⟩:=id I.loc
 obtain⟨sl,hL⟩:=u.any ho I.free fun z=>(hch _ z).2.1 rfl
 exact I.step (ch:=ch) hch (fun b o hL hb hc e n=>u.keep b o e n (fun z=>(List.mem_cons.mp (I.stkSub b z)).elim hL hb) hc) (fun b o _ _ hc e n=>u.any e n hc) (fun b o hc e n=>u.free b o e n hc) (fun b o hc e=>u.there b o e hc) u.tups u.frzs u.tbls (fun m' hm=>by
  obtain⟨o',es',ep',ho',r'⟩:=hm
  rw[ho] at ho';cases ho'
  exact⟨_,es',ep',hL,r'⟩) hok hg
theorem Inv.turned {t':Nat}{it:Addr}(I:Inv X pins σ H s) (k:∀b o,b≠it->s.heap.get? b=some o->h'.get? b=some o) (hn:H it=none) (hL:it≠X.env.locals)
  (h1:it∈X.ex\/X.s₀.heap.objs.size<=it) (h2:∀x c,X.env.cells.lookup x=some c->c≠it) (h3:∀p∈X.pn++pins,p.1≠it):Inv X pins σ H { s with heap:=h',toks:=t'}:=by
 have nit:∀b u,H b=some u->b≠it:=fun b u e z=>by rw[z,hn] at e;cases e
 refine I.step (g':=s.gens) (d':=s.drawn) (ch:=[it]) (fun b hb=>?_) (fun b o _ _ hc e _=>k b o (fun z=>hc (by simp[z])) e) (fun b o _ _ hc e _=>⟨o.slots,k b o (fun z=>hc (by simp[z])) e⟩) (fun _ _ _ _ n=>n)
  (fun b o hc e=>⟨o,k b o (fun z=>hc (by simp[z])) e⟩) (fun _ _ e=>e) (fun _ _ _ e=>e) (fun b ps e=>⟨#[],by rw[e];simp⟩) (fun m hm=>?_) (fun b u e=>?_) I.bare
 ·have e:b=it:=by simpa using hb
  subst e
  exact⟨h1,hL,h2,h3⟩
 ·obtain⟨o,es,ep,ho,r⟩:=hm
  exact⟨o,es,ep,k _ o (Ne.symm hL) ho,r⟩
 ·refine(I.hok b u e).stay (fun c v hc q=>k c v ?_ q) (fun _ q=>q) fun _ _ q=>q
  rcases hc with z|z
  ·rw[z];exact nit b u e
  ·exact nit c _ z
theorem Inv.tok (I:Inv X pins σ H s) (t:Nat):Inv X pins σ H { s with toks:=t}:=I.un (h':=s.heap) (t':=t) Un.refl I.hok
theorem Inv.kept {t':Nat}(I:Inv X pins σ H s) (k:∀b u,s.heap.get? b=some u->h'.get? b=some u):Inv X pins σ H { s with heap:=h',toks:=t'}:=I.un (Un.kept k) (I.hok.kept k)
theorem Inv.laid {a:Addr}{o:HO}{t':Nat}(I:Inv X pins σ H s) (k:∀b u,s.heap.get? b=some u->h'.get? b=some u) (hp:s.heap.objs.size<=a) (new:uw X.prog X.w (upd H a o) h' a o) :
  Inv X pins σ (upd H a o) { s with heap:=h',toks:=t'}:=I.un (Un.laid k hp (I.hok.fresh hp)) (I.hok.laid k hp new)
theorem Inv.write {x e:Addr}{o:HO}{t':Nat}(I:Inv X pins σ H s) (mu:Mut (H x)) (he:e=x\/H e=some (.own x)) (k:∀b u,b≠e->s.heap.get? b=some u->h'.get? b=some u) (heo:∃u,h'.get? e=some u)
  (new:uw X.prog X.w (upd H x o) h' x o):Inv X pins σ (upd H x o) { s with heap:=h',toks:=t'}:=I.un (Un.write mu he k heo) (I.hok.write mu he k heo new)
theorem Inv.pins_of {pins':List (Addr×Obj)}(I:Inv X pins σ H s) (h:∀p∈pins',s.heap.get? p.1=some p.2/\H p.1=none/\p.1≠X.env.locals/\p.1∉X.fs/\∀v,p.2.data≠.cell v):Inv X pins' σ H s :=
 ⟨I.ok,I.os,I.bare,I.base,I.loc,I.cell,I.free,I.freeC,fun p hp=>(List.mem_append.mp hp).elim (fun z=>I.pin p (List.mem_append_left _ z)) (h p),I.hok,I.len,I.fx⟩
theorem vc {N:List Str}(hN:N.Nodup) {i j:Nat}{x:Str}(a:N[i]? =some x) (b:N[j]? =some x):i=j:=by
 obtain⟨h1,e1⟩:=List.getElem?_eq_some_iff.mp a
 obtain⟨h2,e2⟩:=List.getElem?_eq_some_iff.mp b
 exact(List.getElem_inj hN).mp (e1.trans e2.symm)
theorem K1 {M:Model}{A:Around}{E:Value->Shared->Prop}{i:Nat}{x:Str}{v:V}{u:Value}{Q:Unit->Shared->Prop}(I:Inv X pins σ H s) (hN:X.nd) (hi:X.N[i]? =some x) (hx:Loc X.env.scope x) (r:J3 v u)
  (h:∀s',Inv X pins (σ.set i (some v)) H s'->(∃a,Heap.SameBut a s.heap s'.heap/\(a=X.env.locals\/X.env.cells.lookup x=some a))->Q () s') (hf:X.fn x=true\/X.env.scope.names.lookup x=some .local:=by first|exact .inl rfl|exact .inr rfl|assumption):wpAny M A (storeName X.env x u) Q E s:=by
 obtain⟨m,hn,hl⟩:=id I.loc
 have hcls:(X.env.scope.kind==.class||(X.env.scope.kind==.module&&X.env.locals != X.env.globals))=false:=by rw[I.ok.kind];rfl
 have hiσ:i<σ.length:=by rw[I.len];exact(List.getElem?_eq_some_iff.mp hi).1
 have cne:=I.cne
 have tracked:∀{a:Addr}{h':Heap},(∃o,s.heap.get? a=some o/\H a=none)->Heap.SameBut a s.heap h'->HOk X.prog X.w H h':=fun{a h'} ha hs b ob e=>by
  obtain⟨_,_,hfree⟩:=ha
  refine(I.hok b ob e).stay (fun c w' hc q=>(hs.2 c ?_).trans q) (fun _ q=>q) fun _ _ q=>q
  rintro rfl
  rcases hc with rfl|hc
  ·rw[hfree] at e;cases e
  ·rw[hfree] at hc;cases hc
 rcases hx with hk|hk
 ·refine wpAny_storeName_local hk hn (fun h' hn' hs=>?_) hcls
  obtain⟨oL,_,_,hoL,_⟩:=id hn
  refine h _ ⟨I.ok,I.os,I.bare,⟨fun b o e n hb hx=>?_,fun b o e n hb hx=>?_,I.base.free,fun b o e hx=>?_,I.base.tups,I.base.frzs,I.base.tbls⟩,⟨_,hn',fun j y v' e1 e2 e3=>?_⟩,fun y c e=>?_,I.free,I.freeC,fun p hp=>?_,tracked ⟨oL,hoL,I.free⟩ hs,by simpa using I.len,fun f e=>by rw[hN.2] at e;cases e⟩ ⟨_,hs,.inl rfl⟩
  ·exact(hs.2 b (Nat.ne_of_lt (Nat.lt_of_lt_of_le (Heap.lt_size e) I.ok.above))).trans (I.base.keep b o e n hb hx)
  ·obtain⟨sl,e1⟩:=I.base.slot b o e n hb hx
   exact⟨sl,(hs.2 b (Nat.ne_of_lt (Nat.lt_of_lt_of_le (Heap.lt_size e) I.ok.above))).trans e1⟩
  ·obtain⟨o',e1⟩:=I.base.there b o e hx
   exact⟨o',(hs.2 b (Nat.ne_of_lt (Nat.lt_of_lt_of_le (Heap.lt_size e) I.ok.above))).trans e1⟩
  ·by_cases hj:j=i
   ·subst hj
    rw[hi] at e1;cases e1
    rw[List.getElem?_set_self hiσ] at e2
    cases e2
    exact⟨u,r,.inl ⟨hk,by simp⟩⟩
   ·rw[List.getElem?_set_ne (Ne.symm hj)] at e2
    obtain⟨u',r',q⟩:=hl j y v' e1 e2 e3
    refine⟨u',r',?_⟩
    rcases q with⟨k,e⟩|⟨k,c,e,z⟩
    ·refine .inl ⟨k,?_⟩
     have:y≠x:=fun e=>hj (vc hN.1 e1 (e▸hi))
     simp[this,e]
    ·exact .inr ⟨k,c,e,z.sameBut hs (cne y c e)⟩
  ·obtain⟨w',z⟩:=I.cell y c e
   exact⟨w',z.sameBut hs (cne y c e)⟩
  ·obtain⟨e,n,ne,nf,d⟩:=I.pin p hp
   exact⟨(hs.2 p.1 ne).trans e,n,ne,nf,d⟩
 ·have hfn:X.fn x=true:=by
   rcases hf with z|z
   ·exact z
   ·rw[z] at hk;cases hk
  obtain⟨c,hc⟩:=I.ok.has x (.inl hk)
  obtain⟨w',z⟩:=I.cell x c hc
  refine wpAny_storeName_cell I.ok.kind hk hc z (fun h' hc' hs=>?_)
  obtain⟨oc,hoc,hocd⟩:=id z
  refine h { s with heap:=h'} ⟨I.ok,I.os,I.bare,⟨fun b o e n hb hx=>?_,fun b o e n hb hx=>?_,I.base.free,fun b o e hx=>?_,I.base.tups,I.base.frzs,I.base.tbls⟩,⟨m,hn.sameBut hs (Ne.symm (cne x c hc)),fun j y v' e1 e2 e3=>?_⟩,fun y c' e=>?_,I.free,I.freeC,fun p hp=>?_,tracked ⟨oc,hoc,I.freeC x c hc⟩ hs,by simpa using I.len,fun f e=>by rw[hN.2] at e;cases e⟩ ⟨c,hs,.inr hc⟩
  ·exact(hs.2 b (Nat.ne_of_lt (Nat.lt_of_lt_of_le (Heap.lt_size e) (I.ok.cab x c hfn hc)))).trans (I.base.keep b o e n hb hx)
  ·obtain⟨sl,e1⟩:=I.base.slot b o e n hb hx
   exact⟨sl,(hs.2 b (Nat.ne_of_lt (Nat.lt_of_lt_of_le (Heap.lt_size e) (I.ok.cab x c hfn hc)))).trans e1⟩
  ·obtain⟨o',e1⟩:=I.base.there b o e hx
   exact⟨o',(hs.2 b (Nat.ne_of_lt (Nat.lt_of_lt_of_le (Heap.lt_size e) (I.ok.cab x c hfn hc)))).trans e1⟩
  ·by_cases hj:j=i
   ·subst hj
    rw[hi] at e1;cases e1
    rw[List.getElem?_set_self hiσ] at e2
    cases e2
    exact⟨u,r,.inr ⟨.inl hk,c,hc,hc'⟩⟩
   ·rw[List.getElem?_set_ne (Ne.symm hj)] at e2
    obtain⟨u',r',q⟩:=hl j y v' e1 e2 e3
    refine⟨u',r',?_⟩
    rcases q with q|⟨k,c',e,z'⟩
    ·exact .inl q
    ·refine .inr ⟨k,c',e,z'.sameBut hs ?_⟩
     rintro rfl
     exact hj (vc hN.1 e1 (I.ok.inj _ _ _ e hc▸hi))
  ·by_cases hcc:c'=c
   ·subst hcc;exact⟨_,hc'⟩
   ·obtain⟨w2,z2⟩:=I.cell y c' e
    exact⟨w2,z2.sameBut hs hcc⟩
  ·obtain⟨e,n,ne,nf,d⟩:=I.pin p hp
   refine⟨(hs.2 p.1 ?_).trans e,n,ne,nf,d⟩
   intro q
   rw[q,hoc] at e
   have q':oc=p.2:=Option.some.inj e
   exact d w' (by rw[←q'];exact hocd)
theorem x4 {M:Model}{A:Around}{E:Value->Shared->Prop}{i:Nat}{x:Str}{v:V}{u:Value}{Q:Unit->Shared->Prop}(I:Inv X pins σ H s) (hN:X.nd) (hi:X.N[i]? =some x) (hx:Loc X.env.scope x) (r:J3 v u)
  (h:∀s',Inv X pins (σ.set i (some v)) H s'->Q () s') (hf:X.fn x=true\/X.env.scope.names.lookup x=some .local:=by first|exact .inl rfl|exact .inr rfl|assumption):wpAny M A (storeName X.env x u) Q E s :=
 K1 I hN hi hx r (fun s' I' _=>h s' I') hf
theorem Inv.call' {s':Shared}{ch:List Addr}(I:Inv X pins σ H s) (ho:s'.os=s.os) (u:Un (frs X.stack) ch H H' s.heap s'.heap) (hok:HOk X.prog X.w H' s'.heap) (hg:AllBare s'.gens)
  (hch:∀b∈ch,(b∈X.ex\/X.s₀.heap.objs.size<=b)/\b≠X.env.locals/\(∀x c,X.env.cells.lookup x=some c->c≠b)/\∀p∈X.pn++pins,p.1≠b):Inv X pins σ H' s':=by
 obtain⟨h',g',d',t',o'⟩:=s'
 have e:o'=s.os:=ho
 subst e
 exact I.call (g':=g') (t':=t') (d':=d') u hok hg hch
end
noncomputable abbrev XK:=Value->Option Addr->Hp->Prop
noncomputable abbrev St:=List (Option V)
noncomputable abbrev VK:=V->Hp->Prop
noncomputable abbrev TE:=St->Hp->VK->Prop
noncomputable abbrev TT:=St->Hp->(Bool->Hp->Prop)->Prop
noncomputable abbrev TA:=St->Hp->(List V->Hp->Prop)->Prop
structure Ends where
 nx:St->Hp->Prop
 rt:VK
 bk:St->Hp->Prop:=fun _ _=>False
 ct:St->Hp->Prop:=fun _ _=>False
noncomputable abbrev TS:=Ends->St->Hp->Prop
noncomputable def EP (X:Cx) (pins:List (Addr×Obj)) (σ:St) (Q:VK) (u:Value) (s':Shared):Prop:=∃v H',Inv X pins σ H' s'/\J3 v u/\Q v H'
noncomputable def TP (X:Cx) (pins:List (Addr×Obj)) (σ:St) (Q:Bool->Hp->Prop) (b:Bool) (s':Shared):Prop:=∃H',Inv X pins σ H' s'/\Q b H'
noncomputable def AP (X:Cx) (pins:List (Addr×Obj)) (σ:St) (Q:List V->Hp->Prop) (us:List Value) (s':Shared):Prop:=∃vs H',Inv X pins σ H' s'/\J8 vs us/\Q vs H'
noncomputable def SP (X:Cx) (pins:List (Addr×Obj)) (D:Ends) (f:Flow) (s':Shared):Prop :=
 match f with
 |.next=>∃σ' H',Inv X pins σ' H' s'/\D.nx σ' H'
 |.brk=>∃σ' H',Inv X pins σ' H' s'/\D.bk σ' H'
 |.cont=>∃σ' H',Inv X pins σ' H' s'/\D.ct σ' H'
 |.ret u=>∃v σ' H',Inv X pins σ' H' s'/\J3 v u/\D.rt v H'
noncomputable def PE (X:Cx) (e:Expr) (t:TE):Prop :=
 ∀(pins:List (Addr×Obj)) (s:Shared) (σ:St) (H:Hp) (Q:VK),Inv X pins σ H s->t σ H Q->wpAny (model X.prog X.w) X.A (eval e X.env) (EP X pins σ Q) X.xe s
noncomputable def PT (X:Cx) (e:Expr) (t:TT):Prop :=
 ∀(pins:List (Addr×Obj)) (s:Shared) (σ:St) (H:Hp) (Q:Bool->Hp->Prop),Inv X pins σ H s->t σ H Q->wpAny (model X.prog X.w) X.A (isTrue e X.env (eval e X.env)) (TP X pins σ Q) X.xe s
noncomputable def PW (X:Cx) (e:Expr) (t:TT):Prop :=
 ∀(whole:Sem Value) (pins:List (Addr×Obj)) (s:Shared) (σ:St) (H:Hp) (Q:Bool->Hp->Prop),Inv X pins σ H s->t σ H Q->wpAny (model X.prog X.w) X.A (isTrue e X.env whole) (TP X pins σ Q) X.xe s
theorem PW.pt {X:Cx}{e:Expr}{t:TT}(h:PW X e t):PT X e t:=h _
noncomputable def PA (X:Cx) (es:List Expr) (t:TA):Prop :=
 ∀(pos:Pos) (pins:List (Addr×Obj)) (s:Shared) (σ:St) (H:Hp) (Q:List V->Hp->Prop),Inv X pins σ H s->t σ H Q->wpAny (model X.prog X.w) X.A (spliced (backTo pos (starEach es X.env))) (AP X pins σ Q) X.xe s
noncomputable def PS (X:Cx) (st:Stmt) (t:TS):Prop :=
 ∀(pins:List (Addr×Obj)) (s:Shared) (σ:St) (H:Hp) (D:Ends),Inv X pins σ H s->t D σ H->wpAny (model X.prog X.w) X.A (exec st X.env) (SP X pins D) X.xe s
noncomputable def PSs (X:Cx) (st:List Stmt) (t:TS):Prop :=
 ∀(pins:List (Addr×Obj)) (s:Shared) (σ:St) (H:Hp) (D:Ends),Inv X pins σ H s->t D σ H->wpAny (model X.prog X.w) X.A (execs st X.env) (SP X pins D) X.xe s
theorem thn {α:Type}{t:Sem α}{Q Q':α->Shared->Prop}{M:Model}{A:Around}{E:Value->Shared->Prop}{s:Shared}(h:wpAny M A t Q E s) (hQ:∀a s,Q a s->Q' a s):wpAny M A t Q' E s:=wpAny_mono h hQ fun _ _ x=>x
section
variable {X:Cx}
theorem bin {a b:Expr}{ta tb:TE}(ha:PE X a ta) (hb:PE X b tb) {pins:List (Addr×Obj)}{s:Shared}{σ:St}{H:Hp}{R:V->V->Hp->Prop}(I:Inv X pins σ H s) (h:ta σ H fun x H1=>tb σ H1 fun y H2=>R x y H2)
  {α:Type}{Q:α->Shared->Prop}{f:Value->Value->Sem α}
  (hf:∀v u s2 x y H2,Inv X pins σ H2 s2->J3 x v->J3 y u->R x y H2->wpAny (model X.prog X.w) X.A (f v u) Q X.xe s2) :
  wpAny (model X.prog X.w) X.A (eval a X.env) (fun v s₁=>wpAny (model X.prog X.w) X.A (eval b X.env) (fun u s₂=>wpAny (model X.prog X.w) X.A (f v u) Q X.xe s₂) X.xe s₁) X.xe s:=by
 refine thn (ha pins s σ H _ I h) fun v s1 ⟨x,H1,I1,r1,q1⟩=>?_
 refine thn (hb pins s1 σ H1 _ I1 q1) fun u s2 ⟨y,H2,I2,r2,q2⟩=>?_
 exact hf v u s2 x y H2 I2 r1 r2 q2
noncomputable def kx (i:Nat):TE:=fun σ H Q=>∃v,σ[i]? =some (some v)/\Q v H
noncomputable def tC (v:V):TE:=fun _ H Q=>Q v H
theorem G8 {i:Nat}{x:Str}{pos:Pos}(hN:X.N[i]? =some x) (hv:Vis X.env.scope x) (hd:(x==("__debug__":Str))=false:=by decide) (hcd:(x==("__classdict__":Str))=false:=by decide):PE X (.Name x pos) (kx i):=by
 intro pins s σ H Q I h
 obtain⟨v,e,h⟩:=h
 obtain⟨m,hn,hl⟩:=I.loc
 obtain⟨u,r,l⟩:=hl i x v hN e hv
 have fin:EP X pins σ Q u s:=⟨v,H,I,r,h⟩
 rcases l with⟨hk,hm⟩|⟨hk,c,hc,hcell⟩
 ·exact wpAny_Name (wpAny_loadName_local I.ok.kind hk hn hm fin) hd
 ·rcases hk with hk|hk
  ·exact wpAny_Name (wpAny_loadName_cell I.ok.kind hk hc hcell fin) hd
  ·exact wpAny_Name (wpAny_loadName_free I.ok.kind hk hc hcell fin hcd) hd
theorem aq9 {i j pos}:PE X (.Constant (.int i) j pos) (tC (.int i)):=fun _ _ _ H _ I h=>wpAny_Constant_int ⟨.int i,H,I.tok _,⟨_,rfl⟩,h⟩
theorem aq8 {j pos}:PE X (.Constant .none j pos) (tC .non):=fun _ _ _ H _ I h=>Constant_none ⟨.non,H,I,rfl,h⟩
theorem G9 {x j pos}:PE X (.Constant (.str x) j pos) (tC (.str x)):=fun _ _ _ H _ I h=>Calls.Constant_str ⟨.str x,H,I.tok _,⟨_,rfl⟩,h⟩
noncomputable def Gl (X:Cx) (x:Str):Prop:=X.env.kindOf x=some .globalImplicit
theorem y4 {E:Value->Shared->Prop}{pins:List (Addr×Obj)}{s:Shared}{σ:St}{H:Hp}{x:Str}{u:Value}{pos:Pos}{Q:Value->Shared->Prop}(I:Inv X pins σ H s) (hg:Gl X x) (hm:X.mg x=some u) (h:Q u s)
  (hd:(x==("__debug__":Str))=false:=by decide):wpAny (model X.prog X.w) X.A (eval (.Name x pos) X.env) Q E s :=
 Calls.Name_function_global I.ok.kind hg (Calls.loadGlobal_global (by rw[I.ok.glob];exact I.mod.glob.keeps I.bk) hm h) hd
theorem Gc {E:Value->Shared->Prop}{pins:List (Addr×Obj)}{s:Shared}{σ:St}{H:Hp}{x:Str}{u:Value}{pos:Pos}{Q:Value->Shared->Prop}(I:Inv X pins σ H s) (hg:Gl X x) (hm:X.mg x=none) (hv:bootBuiltins x=some u) (h:Q u s)
  (hn:x≠"__name__":=by decide) (hd:(x==("__debug__":Str))=false:=by decide):wpAny (model X.prog X.w) X.A (eval (.Name x pos) X.env) Q E s:=by
 obtain⟨mb,h1,h2⟩:=I.mod.blt
 exact Calls.Name_function_global I.ok.kind hg (Calls.loadGlobal_builtin (by rw[I.ok.glob];exact I.mod.glob.keeps I.bk) hm (by rw[I.ok.blt];exact h1.keeps I.bk) ((h2 x hn).trans hv) h) hd
theorem Cw {x:Str}{v:V}{u:Value}{pos:Pos}(hg:Gl X x) (hm:X.mg x=some u) (r:J3 v u) (hd:(x==("__debug__":Str))=false:=by decide):PE X (.Name x pos) (tC v) :=
 fun _ _ _ H _ I h=>y4 I hg hm ⟨v,H,I,r,h⟩ hd
theorem Cu {x:Str}{v:V}{u:Value}{pos:Pos}(hg:Gl X x) (hm:X.mg x=none) (hv:bootBuiltins x=some u) (r:J3 v u) (hn:x≠"__name__":=by decide) (hd:(x==("__debug__":Str))=false:=by decide):PE X (.Name x pos) (tC v) :=
 fun _ _ _ H _ I h=>Gc I hg hm hv ⟨v,H,I,r,h⟩ hn hd
variable {a b:Expr}{ta tb:TE}{pos:Pos}
noncomputable def PC (X:Cx) (op:CmpOp) (a b:Expr) (t:TE):Prop :=
 ∀(pins:List (Addr×Obj)) (s:Shared) (σ:St) (H:Hp) (Q:VK),Inv X pins σ H s->t σ H Q ->
  wpAny (model X.prog X.w) X.A (eval a X.env) (fun v s₁=>wpAny (model X.prog X.w) X.A (eval b X.env) (fun u s₂=>wpAny (model X.prog X.w) X.A (compareOp op v u) (EP X pins σ Q) X.xe s₂) X.xe s₁) X.xe s
theorem Fb (b:Expr) {op:CmpOp}(h:op≠.In) (h2:op≠.NotIn):behindInMarks op b=false:=by
 have e1:(op==CmpOp.In)=false:=by cases op<;>first|rfl|exact absurd rfl h
 have e2:(op==CmpOp.NotIn)=false:=by cases op<;>first|rfl|exact absurd rfl h2
 cases b<;>simp[behindInMarks,e1,e2]
noncomputable def az6 (ta:TE):TE:=fun σ H Q=>ta σ H fun x H1=>Q (.bl (decide (x=.non))) H1
noncomputable def aj7 (ta:TE):TE:=fun σ H Q=>ta σ H fun x H1=>Q (.bl (!decide (x=.non))) H1
theorem J3.none_iff {x:V}{v:Value}(r:J3 x v):(v==Value.none)=decide (x=.non):=by
 cases x with
 |non=>cases r;rfl
 |bl _=>cases r;rfl
 |int _=>obtain⟨t,rfl⟩:=r;rfl
 |str _=>obtain⟨t,rfl⟩:=r;rfl
 |byt _=>obtain⟨t,rfl⟩:=r;rfl
 |flt _=>obtain⟨t,rfl⟩:=r;rfl
 |ref _=>cases r;rfl
 |ty _=>cases r;rfl
theorem ar4 {j pos'} (ha:PE X a ta):PC X .Is a (.Constant .none j pos') (az6 ta):=by
 intro pins s σ H Q I h
 refine thn (ha pins s σ H _ I h) fun v s1 ⟨x,H1,I1,r1,q1⟩=>?_
 exact Constant_none (is_none_gen ⟨.bl _,H1,I1,by rw[r1.none_iff];rfl,q1⟩)
theorem ac5 {j pos'} (ha:PE X a ta):PC X .IsNot a (.Constant .none j pos') (aj7 ta):=by
 intro pins s σ H Q I h
 refine thn (ha pins s σ H _ I h) fun v s1 ⟨x,H1,I1,r1,q1⟩=>?_
 exact Constant_none (isnot_none_gen ⟨.bl _,H1,I1,by rw[r1.none_iff];rfl,q1⟩)
noncomputable def tB (t:TE):TT:=fun σ H Q=>t σ H fun x H1=>∃c,x=.bl c/\Q c H1
theorem ar1 {op:CmpOp}{t:TE}(h:PC X op a b t) (h1:behindInMarks op b=false:=by first|exact Fb _ (by decide) (by decide)|rfl):PE X (.Compare a [op] [b] pos) t:=fun pins s σ H Q I hw=>wpAny_Compare1 (h pins s σ H Q I hw) h1
theorem vi {op:CmpOp}{t:TE}(h:PC X op a b t) (h1:behindInMarks op b=false:=by first|exact Fb _ (by decide) (by decide)|rfl):PT X (.Compare a [op] [b] pos) (tB t):=by
 intro pins s σ H Q I hw
 refine wpAny_isTrue_Compare1 (thn (h pins s σ H _ I hw) fun v s1 h1=>thn h1 fun u s2 h2=>thn h2 fun c s3 ⟨x,H1,I1,r1,q1⟩=>?_) h1
 obtain⟨d,rfl,q⟩:=q1
 cases r1
 exact wpAny_truthy_bool ⟨H1,I1,q⟩
variable {tA tB':TT}{rest:List Expr}
noncomputable def tAnd (t u:TT):TT:=fun σ H Q=>t σ H fun c H1=>if c=true then u σ H1 Q else Q false H1
noncomputable def tOr (t u:TT):TT:=fun σ H Q=>t σ H fun c H1=>if c=true then Q true H1 else u σ H1 Q
noncomputable def tNot (t:TT):TT:=fun σ H Q=>t σ H fun c H1=>Q (!c) H1
theorem aa9 (ha:PT X a tA):PW X (.BoolOp .And [a] pos) tA:=by
 intro wh pins s σ H Q I h
 refine isTrue_and (thn (ha pins s σ H Q I h) fun c s1 e=>?_)
 cases c with
 |true=>exact isTrue_and_nil e
 |false=>exact e
theorem ap4 (ha:PT X a tA):PW X (.BoolOp .Or [a] pos) tA:=by
 intro wh pins s σ H Q I h
 refine isTrue_or (thn (ha pins s σ H Q I h) fun c s1 e=>?_)
 cases c with
 |false=>exact isTrue_or_nil e
 |true=>exact e
theorem ap5 (ha:PT X a tA) (hb:PW X (.BoolOp .And (b::rest) pos) tB'):PW X (.BoolOp .And (a::b::rest) pos) (tAnd tA tB'):=by
 intro wh pins s σ H Q I h
 refine isTrue_and (thn (ha pins s σ H _ I h) fun c s1 ⟨H1,I1,q1⟩=>?_)
 cases c with
 |true=>exact hb wh pins s1 σ H1 Q I1 q1
 |false=>exact⟨H1,I1,q1⟩
theorem aB3 (ha:PT X a tA) (hb:PW X (.BoolOp .Or (b::rest) pos) tB'):PW X (.BoolOp .Or (a::b::rest) pos) (tOr tA tB'):=by
 intro wh pins s σ H Q I h
 refine isTrue_or (thn (ha pins s σ H _ I h) fun c s1 ⟨H1,I1,q1⟩=>?_)
 cases c with
 |true=>exact⟨H1,I1,q1⟩
 |false=>exact hb wh pins s1 σ H1 Q I1 q1
theorem ap6 (ha:PT X a tA):PT X (.UnaryOp .Not a pos) (tNot tA):=by
 intro pins s σ H Q I h
 exact isTrue_not (ha pins s σ H (fun c H1=>Q (!c) H1) I h)
noncomputable def aA1 (ta tb:TE):TE:=fun σ H Q=>ta σ H fun x H1=>∃c,x=.bl c/\if c=true then tb σ H1 Q else Q (.bl false) H1
noncomputable def az3 (ta:TE):TE:=fun σ H Q=>ta σ H fun x H1=>∃c,x=.bl c/\Q (.bl (!c)) H1
theorem aq6 {op} {t:TE}(h:PE X a t):PE X (.BoolOp op [a] pos) t:=fun pins s σ H Q I hw=>BoolOp_one (h pins s σ H Q I hw)
theorem ar3 (ha:PE X a ta) (hb:PE X (.BoolOp .And (b::rest) pos) tb):PE X (.BoolOp .And (a::b::rest) pos) (aA1 ta tb):=by
 intro pins s σ H Q I h
 refine BoolOp_and (thn (ha pins s σ H _ I h) fun v s1 ⟨x,H1,I1,r1,q1⟩=>?_)
 obtain⟨c,rfl,q1⟩:=q1
 cases r1
 refine wpAny_truthy_bool ?_
 cases c with
 |true=>exact hb pins s1 σ H1 Q I1 q1
 |false=>exact⟨.bl false,H1,I1,rfl,q1⟩
theorem aq7 (ha:PE X a ta):PE X (.UnaryOp .Not a pos) (az3 ta):=by
 intro pins s σ H Q I h
 refine UnaryOp_ (thn (ha pins s σ H _ I h) fun v s1 ⟨x,H1,I1,r1,q1⟩=>?_)
 obtain⟨c,rfl,q1⟩:=q1
 cases r1
 exact not_of (wpAny_truthy_bool ⟨.bl (!c),H1,I1,rfl,q1⟩)
noncomputable def tIf (t:TT) (ta tb:TE):TE:=fun σ H Q=>t σ H fun c H1=>if c=true then ta σ H1 Q else tb σ H1 Q
theorem a13 {c:Expr}(hc:PT X c tA) (ha:PE X a ta) (hb:PE X b tb):PE X (.IfExp c a b pos) (tIf tA ta tb):=by
 intro pins s σ H Q I h
 refine wpAny_IfExp (thn (hc pins s σ H _ I h) fun d s1 ⟨H1,I1,q1⟩=>?_)
 cases d with
 |true=>exact ha pins s1 σ H1 Q I1 q1
 |false=>exact hb pins s1 σ H1 Q I1 q1
end
noncomputable def SqL (K:PySem.W.Frag) (H:Hp) (a:Addr) (xs:List V):Prop :=
 Rd H a (.lst xs) \/
  ∃(o:Obj) (its:Array Value) (n:Nat),K.lookup a=some o/\o.cls=.type "list"/\o.dict=none/\o.data=.seq its n/\its.size<=sizeLine/\J8 xs its.toList
noncomputable def SqT (K:PySem.W.Frag) (H:Hp) (a:Addr) (xs:List V):Prop :=
 Rd H a (.tup xs) \/
  ∃(o:Obj) (its:Array Value) (n:Nat),K.lookup a=some o/\o.cls=.type "tuple"/\o.data=.seq its n/\its.size<=sizeLine/\J8 xs its.toList
noncomputable def absV:Value->Option V
 |.none=>some .non
 |.bool b=>some (.bl b)
 |.int i _=>some (.int i)
 |.str x _=>some (.str x)
 |.bytes b _=>some (.byt b)
 |.float b _=>some (.flt b)
 |.ref a=>some (.ref a)
 |.type n=>some (.ty n)
 |_=>none
theorem J3.abs {x:V}{u:Value}(r:J3 x u):absV u=some x:=by
 cases x with
 |non=>cases r;rfl
 |bl _=>cases r;rfl
 |int _=>obtain⟨t,rfl⟩:=r;rfl
 |str _=>obtain⟨t,rfl⟩:=r;rfl
 |byt _=>obtain⟨t,rfl⟩:=r;rfl
 |flt _=>obtain⟨t,rfl⟩:=r;rfl
 |ref _=>cases r;rfl
 |ty _=>cases r;rfl
theorem J3.inj {x y:V}{u:Value}(r:J3 x u) (q:J3 y u):x=y:=Option.some.inj (r.abs.symm.trans q.abs)
theorem J8.inj:∀{xs ys:List V}{us:List Value},J8 xs us->J8 ys us->xs=ys
 |_,_,_,.nil,.nil=>rfl
 |_,_,_,.cons r t,.cons r' t'=>by rw[r.inj r',J8.inj t t']
section
variable {X:Cx}{pins:List (Addr×Obj)}{σ:St}{H:Hp}{s:Shared}{a:Addr}{xs ys:List V}
theorem SqL.of {K:PySem.W.Frag}(h:H a=some (.lst xs)):SqL K H a xs:=.inl (.inl h)
theorem SqT.of {K:PySem.W.Frag}(h:H a=some (.tup xs)):SqT K H a xs:=.inl (.inl h)
theorem Inv.list (I:Inv X pins σ H s) (h:SqL X.K H a xs):∃its:List Value,J8 xs its/\PlainL s.heap a its.toArray/\xs.length<=sizeLine:=by
 rcases h with h|⟨o,its,n,hk,hc,hd,hs,hz,r⟩
 ·obtain⟨z,its,n,r,e⟩:=h.ok I.hok
  exact⟨its,r,⟨_,n,e,rfl,rfl,rfl⟩,z⟩
 ·refine⟨its.toList,r,⟨o,n,I.kIn a o hk,hc,hd,by simpa using hs⟩,?_⟩
  have e:=r.length
  simp only[Array.length_toList] at e
  omega
theorem Inv.tuple (I:Inv X pins σ H s) (h:SqT X.K H a xs):∃its:List Value,J8 xs its/\IsTup s.heap a its.toArray/\xs.length<=sizeLine:=by
 rcases h with h|⟨o,its,n,hk,hc,hs,hz,r⟩
 ·obtain⟨z,its,r,p⟩:=h.ok I.hok
  exact⟨its,r,p,z⟩
 ·refine⟨its.toList,r,⟨o,I.kIn a o hk,hc,n,by simpa using hs⟩,?_⟩
  have e:=r.length
  simp only[Array.length_toList] at e
  omega
theorem Inv.list_inj (I:Inv X pins σ H s) (h:SqL X.K H a xs) (h':SqL X.K H a ys):xs=ys:=by
 obtain⟨its,r,⟨o,n,e,_,_,d⟩,_⟩:=I.list h
 obtain⟨its',r',⟨o',n',e',_,_,d'⟩,_⟩:=I.list h'
 rw[e] at e';cases e'
 rw[d] at d'
 injection d' with d1 _
 have:its=its':=by simpa using congrArg Array.toList d1
 subst this
 exact r.inj r'
end
noncomputable abbrev Cx.wish (X:Cx) (E:Value->Shared->Prop):Cx:={ X with xe:=E}
noncomputable abbrev Cx.nox (X:Cx):Cx:=X.wish fun _ _=>False
theorem Cx.Ok.wish {X:Cx}(ok:X.Ok) (E:Value->Shared->Prop):(X.wish E).Ok :=
 ⟨ok.mod,ok.kind,ok.glob,ok.blt,ok.above,ok.inj,ok.has,ok.cab,ok.hd,ok.frames,ok.stk,ok.exf,ok.bs,ok.bsz,ok.noex,ok.exfs,ok.funs,ok.frf⟩
theorem Cx.Ok.unwish {X:Cx}{E:Value->Shared->Prop}(ok:(X.wish E).Ok):X.Ok :=
 ⟨ok.mod,ok.kind,ok.glob,ok.blt,ok.above,ok.inj,ok.has,ok.cab,ok.hd,ok.frames,ok.stk,ok.exf,ok.bs,ok.bsz,ok.noex,ok.exfs,ok.funs,ok.frf⟩
section
variable {X:Cx}{pins:List (Addr×Obj)}{σ:St}{H:Hp}{s:Shared}{E:Value->Shared->Prop}
theorem Inv.wish (I:Inv X pins σ H s) (E:Value->Shared->Prop):Inv (X.wish E) pins σ H s:=⟨I.ok.wish E,I.os,I.bare,I.base,I.loc,I.cell,I.free,I.freeC,I.pin,I.hok,I.len,I.fx⟩
theorem Inv.unwish (I:Inv (X.wish E) pins σ H s):Inv X pins σ H s:=⟨I.ok.unwish,I.os,I.bare,I.base,I.loc,I.cell,I.free,I.freeC,I.pin,I.hok,I.len,I.fx⟩
theorem SP.unwish {D:Ends}{f:Flow}{s':Shared}(h:SP (X.wish E) pins D f s'):SP X pins D f s':=by
 cases f with
 |next=>obtain⟨σ',H',I,q⟩:=h;exact⟨σ',H',I.unwish,q⟩
 |brk=>obtain⟨σ',H',I,q⟩:=h;exact⟨σ',H',I.unwish,q⟩
 |cont=>obtain⟨σ',H',I,q⟩:=h;exact⟨σ',H',I.unwish,q⟩
 |ret u=>obtain⟨v,σ',H',I,r,q⟩:=h;exact⟨v,σ',H',I.unwish,r,q⟩
theorem PSs.nox {st:List Stmt}{t:TS}(h:PSs X.nox st t):PSs X st t:=fun pins s σ H D I hw =>
 wpAny_mono (h pins s σ H D (I.wish _) hw) (fun _ _ q=>q.unwish) fun _ _ z=>False.elim z
end
section
variable {X:Cx}{st:Stmt}{rest:List Stmt}{t u:TS}{e:Expr}{te:TE}{pos:Pos}
noncomputable def az4:TS:=fun D σ H=>D.nx σ H
noncomputable def tSeq (t u:TS):TS:=fun D σ H=>t { D with nx:=u D} σ H
theorem ab1:PSs X [] az4:=fun _ _ σ H _ I h=>wpAny_execs_nil ⟨σ,H,I,h⟩
theorem Ff (h1:PS X st t) (h2:PSs X rest u):PSs X (st::rest) (tSeq t u):=by
 intro pins s σ H D I h
 refine wpAny_execs_cons (thn (h1 pins s σ H { D with nx:=u D} I h) fun f s1 q=>?_)
 cases f with
 |next =>
  obtain⟨σ',H',I',q⟩:=q
  exact h2 pins s1 σ' H' D I' q
 |ret v=>exact q
 |brk=>exact q
 |cont=>exact q
theorem C9 (h1:PS X st t):PSs X [st] t:=by
 intro pins s σ H D I h
 refine wpAny_execs_cons (thn (h1 pins s σ H D I h) fun f s1 q=>?_)
 cases f with
 |next=>exact wpAny_execs_nil q
 |ret v=>exact q
 |brk=>exact q
 |cont=>exact q
theorem Inv.quiet {pins:List (Addr×Obj)}{σ:St}{H:Hp}{s:Shared}(I:Inv X pins σ H s):interactive X.env=false:=by simp[interactive,I.ok.kind]
noncomputable def az7 (te:TE):TS:=fun D σ H=>te σ H fun _ H1=>D.nx σ H1
theorem Cz (he:PE X e te) (hs:swapsWith e none pos.line X.env=pure false:=by rfl):PS X (.Expr e pos) (az7 te):=by
 intro pins s σ H D I h
 exact wpAny_Expr_any (thn (he pins s σ H _ I h) fun v s1 ⟨x,H1,I1,r1,q1⟩=>⟨σ,H1,I1,q1⟩) I.quiet hs
noncomputable def tRet (te:TE):TS:=fun D σ H=>te σ H D.rt
theorem ap8 (he:PE X e te):PS X (.Return (some e) pos) (tRet te):=by
 intro pins s σ H D I h
 exact wpAny_Return_some (thn (he pins s σ H _ I h) fun v s1 ⟨x,H1,I1,r1,q1⟩=>⟨x,σ,H1,I1,r1,q1⟩)
noncomputable def tIfS (c:TT) (t u:TS):TS:=fun D σ H=>c σ H fun b H1=>if b=true then t D σ H1 else u D σ H1
theorem aB5 {c:Expr}{a b:List Stmt}{tc:TT}(hc:PT X c tc) (ha:PSs X a t) (hb:PSs X b u):PS X (.If c a b pos) (tIfS tc t u):=by
 intro pins s σ H D I h
 refine wpAny_If (thn (hc pins s σ H _ I h) fun d s1 ⟨H1,I1,q1⟩=>?_)
 cases d with
 |true=>exact ha pins s1 σ H1 D I1 q1
 |false=>exact hb pins s1 σ H1 D I1 q1
end
noncomputable abbrev TG:=V->St->Hp->(St->Hp->Prop)->Prop
noncomputable abbrev TGs:=List V->St->Hp->(St->Hp->Prop)->Prop
noncomputable def PG (X:Cx) (target:Expr) (t:TG):Prop :=
 ∀(pins:List (Addr×Obj)) (s:Shared) (σ:St) (H:Hp) (v:V) (u:Value) (Q:St->Hp->Prop),Inv X pins σ H s->J3 v u->t v σ H Q ->
  wpAny (model X.prog X.w) X.A (assign target X.env u) (fun _ s'=>∃σ' H',Inv X pins σ' H' s'/\Q σ' H') X.xe s
noncomputable def PGs (X:Cx) (ts:List Expr) (t:TGs):Prop :=
 ∀(pins:List (Addr×Obj)) (s:Shared) (σ:St) (H:Hp) (vs:List V) (us:List Value) (Q:St->Hp->Prop),Inv X pins σ H s->J8 vs us->t vs σ H Q ->
  wpAny (model X.prog X.w) X.A (assignInOrder ((assignEach ts X.env).map (·.2)) us) (fun _ s'=>∃σ' H',Inv X pins σ' H' s'/\Q σ' H') X.xe s
noncomputable abbrev TSet:=V->V->V->Hp->(Hp->Prop)->Prop
noncomputable abbrev TIp:=V->V->Hp->VK->Prop
noncomputable def PIp (X:Cx) (op:Operator) (t:TIp):Prop :=
 ∀(pins:List (Addr×Obj)) (s:Shared) (σ:St) (H:Hp) (x y:V) (v u:Value) (Q:VK),Inv X pins σ H s->J3 x v->J3 y u->t x y H Q ->
  wpAny (model X.prog X.w) X.A (inplaceOp op v u) (EP X pins σ Q) X.xe s
section
variable {X:Cx}{pos:Pos}
noncomputable def al8 (i:Nat):TG:=fun v σ H Q=>Q (σ.set i (some v)) H
theorem ab8 {i:Nat}{x:Str}(hN:X.nd) (hi:X.N[i]? =some x) (hx:Loc X.env.scope x) (hf:X.fn x=true\/X.env.scope.names.lookup x=some .local:=by first|exact .inl rfl|exact .inr rfl|assumption):PG X (.Name x pos) (al8 i):=by
 intro pins s σ H v u Q I r h
 exact wpAny_assign_Name (x4 I hN hi hx r (fun s' I'=>⟨_,H,I',h⟩) hf)
noncomputable def aF4:TGs:=fun vs σ H Q=>vs=[]/\Q σ H
noncomputable def aF5 (t:TG) (u:TGs):TGs:=fun vs σ H Q=>∃v r,vs=v::r/\t v σ H fun σ' H'=>u r σ' H' Q
theorem ab7:PGs X [] aF4:=by
 intro pins s σ H vs us Q I r h
 obtain⟨e,h⟩:=h
 subst e
 cases r
 exact assignInOrder_nil ⟨σ,H,I,h⟩
theorem a11 {e:Expr}{es:List Expr}{t:TG}{u:TGs}(h1:PG X e t) (h2:PGs X es u)
  (hs:(assignEach (e::es) X.env).map (·.2)=assign e X.env::(assignEach es X.env).map (·.2):=by rfl):PGs X (e::es) (aF5 t u):=by
 intro pins s σ H vs us Q I r h
 obtain⟨v,vr,e1,h⟩:=h
 subst e1
 cases r with
 |cons r rr =>
  rw[hs]
  refine assignInOrder_cons (thn (h1 pins s σ H _ _ _ I r h) fun _ s1 ⟨σ1,H1,I1,q1⟩=>?_)
  exact h2 pins s1 σ1 H1 _ _ Q I1 rr q1
noncomputable def gTup (K:PySem.W.Frag) (n:Nat) (t:TGs):TG:=fun v σ H Q=>∃a xs,v=.ref a/\SqT K H a xs/\xs.length=n/\t xs σ H Q
theorem aq3 {es:List Expr}{k:Nat}{t:TGs}{n:Nat}(hc:X.calm=true) (h:PGs X es t)
  (hn:(assignEach es X.env).length=n:=by rfl) (hst:(assignEach es X.env).findIdx? (·.1)=none:=by rfl):PG X (.Tuple es k pos) (gTup X.K n t):=by
 intro pins s σ H v u Q I r hw
 obtain⟨a,xs,e1,hq,hl,hw⟩:=hw
 subst e1
 cases r
 obtain⟨its,rv,ht,hz⟩:=I.tuple hq
 refine assign_Tuple_tuple (I.ok.hd hc) ht (by simp[hn,←hl,rv.length]) hst fun h' hx=>?_
 have I1:Inv X pins σ H { s with heap:=h'}:=I.kept (t':=s.toks) fun b o e=>hx b o (Nat.ne_of_lt (Heap.lt_size e)) e
 exact h pins _ σ H xs _ Q I1 (by simpa using rv) hw
noncomputable def wu (to ti:TE) (t:TSet):TG:=fun v σ H Q=>to σ H fun o H1=>ti σ H1 fun i H2=>t o i v H2 fun H3=>Q σ H3
noncomputable def tAsg (te:TE) (g:TG):TS:=fun D σ H=>te σ H fun x H1=>g x σ H1 D.nx
theorem ap7 {i:Nat}{x:Str}{e:Expr}{te:TE}{pos':Pos}(hN:X.nd) (hi:X.N[i]? =some x) (hx:Loc X.env.scope x) (he:PE X e te) (hs:swapsWith e (some (.Name x pos')) pos.line X.env=pure false:=by rfl) (hf:X.fn x=true\/X.env.scope.names.lookup x=some .local:=by first|exact .inl rfl|exact .inr rfl|assumption) :
  PS X (.Assign [.Name x pos'] e pos) (tAsg te (al8 i)):=by
 intro pins s σ H D I h
 refine wpAny_Assign_Name (thn (he pins s σ H _ I h) fun v s1 ⟨y,H1,I1,r1,q1⟩=>?_) hs
 exact x4 I1 hN hi hx r1 (fun s2 I2=>⟨_,H1,I2,q1⟩) hf
noncomputable def tAug (i:Nat) (te:TE) (ti:TIp):TS:=fun D σ H=>∃x,σ[i]? =some (some x)/\te σ H fun y H1=>ti x y H1 fun z H2=>D.nx (σ.set i (some z)) H2
theorem aq1 {i:Nat}{x:Str}{e:Expr}{te:TE}{op:Operator}{ti:TIp}{pos':Pos}(hN:X.nd) (hi:X.N[i]? =some x) (hx:Loc X.env.scope x) (he:PE X e te) (ho:PIp X op ti) (hf:X.fn x=true\/X.env.scope.names.lookup x=some .local:=by first|exact .inl rfl|exact .inr rfl|assumption) :
  PS X (.AugAssign (.Name x pos') op e pos) (tAug i te ti):=by
 intro pins s σ H D I h
 obtain⟨v,e1,h⟩:=h
 obtain⟨m,hn,hl⟩:=I.loc
 have vis:Vis X.env.scope x:=by rcases hx with k|k;exact .inl k;exact .inr (.inl k)
 obtain⟨u,r,l⟩:=hl i x v hi e1 vis
 refine wpAny_AugAssign_Name ?_
 have go:wpAny (model X.prog X.w) X.A (eval e X.env) (fun w s₂=>wpAny (model X.prog X.w) X.A (inplaceOp op u w) (fun r s₃=>wpAny (model X.prog X.w) X.A (storeName X.env x r) (fun _=>SP X pins D .next) X.xe s₃) X.xe s₂) X.xe s:=by
  refine thn (he pins s σ H _ I h) fun w s1 ⟨y,H1,I1,r1,q1⟩=>?_
  refine thn (ho pins s1 σ H1 v y u w _ I1 r r1 q1) fun z s2 ⟨zv,H2,I2,r2,q2⟩=>?_
  exact x4 I2 hN hi hx r2 (fun s3 I3=>⟨_,H2,I3,q2⟩) hf
 rcases l with⟨hk,hm⟩|⟨hk,c,hc,hcell⟩
 ·exact wpAny_loadName_local I.ok.kind hk hn hm go
 ·rcases hk with hk|hk
  ·exact wpAny_loadName_cell I.ok.kind hk hc hcell go
  ·rcases hx with k|k
   ·have:X.env.scope.names.lookup x=some .free:=hk
    rw[k] at this;cases this
   ·have:X.env.scope.names.lookup x=some .free:=hk
    rw[k] at this;cases this
end
section
variable {X:Cx}{pos:Pos}
noncomputable def ao5 (c:TT) (tb:TS):TS:=fun D σ H=>∃W:Nat->St->Hp->Prop,(∃m,W m σ H)/\∀m σ H,W m σ H ->
 c σ H fun b H1=>if b=true then ∃N:St->Hp->Prop,(∀σ' H',N σ' H'->∃m',m'<m/\W m' σ' H')/\tb { D with nx:=N,ct:=N,bk:=D.nx} σ H1 else D.nx σ H1
theorem a07 {c:Expr}{body:List Stmt}{tc:TT}{tb:TS}(hp:PassesOwn (model X.prog X.w) X.A X.env X.xe) (hc:PT X c tc) (hb:PSs X body tb):PS X (.While c body [] pos) (ao5 tc tb):=by
 intro pins s σ H D I h
 obtain⟨W,⟨m0,w0⟩,turn⟩:=h
 refine wpAny_While (codeAny_whileLoop (fun n s'=>∃σ' H',Inv X pins σ' H' s'/\W n σ' H') ?_ m0 ⟨σ,H,I,w0⟩)
 rintro n s1 ⟨σ1,H1,I1,w1⟩
 refine wpAny_passesOwn hp (thn (hc pins s1 σ1 H1 _ I1 (turn n σ1 H1 w1)) fun b s2 ⟨H2,I2,q2⟩=>?_)
 cases b with
 |true =>
  obtain⟨N,hN,q2⟩:=q2
  rw[if_pos rfl]
  refine wpAny_passesOwn hp (thn (hb pins s2 σ1 H2 _ I2 q2) fun f s3 q3=>?_)
  cases f with
  |next =>
   obtain⟨σ3,H3,I3,n3⟩:=q3
   obtain⟨m',hm,w3⟩:=hN σ3 H3 n3
   exact⟨m',hm,σ3,H3,I3,w3⟩
  |cont =>
   obtain⟨σ3,H3,I3,n3⟩:=q3
   obtain⟨m',hm,w3⟩:=hN σ3 H3 n3
   exact⟨m',hm,σ3,H3,I3,w3⟩
  |brk=>exact q3
  |ret v=>exact q3
 |false =>
  rw[if_neg Bool.false_ne_true]
  exact wpAny_execs_nil ⟨σ1,H2,I2,q2⟩
end
structure It where
 go:Nat->Hp->Prop
 yld:Nat->Hp->V->Hp->Prop
 stop:Nat->Hp->Prop
noncomputable def qo (X:Cx) (pins:List (Addr×Obj)) (H:Hp) (b:Addr):Prop :=
 H b=none/\b≠X.env.locals/\b∉X.fs/\(b∈X.ex\/X.s₀.heap.objs.size<=b)/\(∀x c,X.env.cells.lookup x=some c->c≠b)/\∀p∈X.pn++pins,p.1≠b
theorem Inv.fpOk {X:Cx}{pins:List (Addr×Obj)}{σ:St}{H H':Hp}{s:Shared}{b:Addr}(I:Inv X pins σ H s) (hb:s.heap.objs.size<=b) (hn:H' b=none):qo X pins H' b:=by
 refine⟨hn,Nat.ne_of_gt (Nat.lt_of_lt_of_le I.lt hb),I.nofs hb,.inr (Nat.le_trans I.sz hb),fun x c e z=>?_,fun p hp z=>?_⟩
 ·obtain⟨v,q⟩:=I.cell x c e
  exact absurd (Nat.lt_of_lt_of_le q.lt (by rw[z];exact hb)) (Nat.lt_irrefl _)
 ·exact absurd (Nat.lt_of_lt_of_le (Heap.lt_size (I.pin p hp).1) (by rw[z];exact hb)) (Nat.lt_irrefl _)
structure Turn (P:Program) (w:World) (K:PySem.W.Frag) (tg:Expr) (J:It) (fp:List Addr) (it:Addr) (tn:Nat->Heap->Prop):Prop where
 mem:it∈fp
 obj:∀i h,tn i h->∀b∈fp,∃o,h.get? b=some o/\∀v,o.data≠.cell v
 keep:∀i h h',tn i h->(∀b∈fp,∀o,h.get? b=some o->h'.get? b=some o)->tn i h'
 item:∀(X:Cx),X.prog=P->X.w=w->X.K=K->X.calm=true->∀(i:Nat) (pins:List (Addr×Obj)) (s:Shared) (σ:St) (H:Hp) (E:Value->Shared->Prop),Inv X pins σ H s->(∀b∈fp,qo X pins H b)->tn i s.heap->J.go i H ->
  wpAny (model P w) X.A (pyNext (.ref it)) (fun r s1=>∃u,r=some u /\
   wpAny (model P w) X.A (letOwnedTupleGo tg (.ref it) u) (fun _ s2=>∃x H',Inv X pins σ H' s2/\J3 x u/\J.yld i H x H'/\tn (i+1) s2.heap/\∀b∈fp,H' b=none) E s1) E s
 done:∀(X:Cx),X.prog=P->X.w=w->X.K=K->X.calm=true->∀(i:Nat) (pins:List (Addr×Obj)) (s:Shared) (σ:St) (H:Hp) (E:Value->Shared->Prop),Inv X pins σ H s->(∀b∈fp,qo X pins H b)->tn i s.heap->J.stop i H ->
  wpAny (model P w) X.A (pyNext (.ref it)) (fun r s1=>r=none/\Inv X pins σ H s1) E s
 self:∀(A:Around) (i:Nat) (s:Shared) (Q:Value->Shared->Prop) (E:Value->Shared->Prop),tn i s.heap->Q (.ref it) s->wpAny (model P w) A (pyIter (.ref it)) Q E s
noncomputable abbrev TI:=St->Hp->(It->Hp->Prop)->Prop
noncomputable def PIE (X:Cx) (pins:List (Addr×Obj)) (σ:St) (tg:Expr) (R:It->Hp->Prop) (itv:Value) (s2:Shared):Prop :=
 ∃(it:Addr) (fp:List Addr) (tn:Nat->Heap->Prop) (J:It) (H':Hp),itv=.ref it/\Inv X pins σ H' s2/\Turn X.prog X.w X.K tg J fp it tn/\tn 0 s2.heap/\(∀b∈fp,qo X pins H' b)/\R J H'
noncomputable def PI (X:Cx) (tg iter:Expr) (wi:TI):Prop :=
 ∀(pins:List (Addr×Obj)) (s:Shared) (σ:St) (H:Hp) (R:It->Hp->Prop),Inv X pins σ H s->wi σ H R ->
  wpAny (model X.prog X.w) X.A (eval iter X.env) (fun v s1=>wpAny (model X.prog X.w) X.A (pyIter v) (PIE X pins σ tg R) X.xe s1) X.xe s
theorem al4 {M:Model}{A:Around}{E:Value->Shared->Prop}{s:Shared}{tg:Expr}{it:Addr}{u:Value}{o:Obj}{n:String}{vs:Array Value}{Q:Unit->Shared->Prop}(ho:s.heap.get? it=some o) (hc:o.cls=.type n) (hd:o.data=.fields vs)
    (hn:["enumerate","zip","dict_itemiterator","dict_reverseitemiterator","odict_iterator","itertools.zip_longest","itertools.pairwise"].contains n=false) (hQ:Q () s):wpAny M A (letOwnedTupleGo tg (.ref it) u) Q E s:=by
  unfold letOwnedTupleGo
  cases tg<;>first
    |exact wpAny_pure hQ
    | (cases u<;>first
        |exact wpAny_pure hQ
        | (refine wpAny_bind (wpAny_load ho ?_)
           rw[hc,hd]
           show wpAny M A (if(["enumerate","zip","dict_itemiterator","dict_reverseitemiterator","odict_iterator","itertools.zip_longest","itertools.pairwise"].contains n&&vs[0]? == some (rawInt _))=true then _ else _) Q E s
           rw[if_neg (by intro h;rw[hn,Bool.false_and] at h;cases h)]
           exact wpAny_pure hQ))
noncomputable def Itl (K:PySem.W.Frag) (a:Addr):It :=
 ⟨fun i H=>∃xs x,SqL K H a xs/\xs[i]? =some x,fun i H x H'=>H'=H/\∀xs,SqL K H a xs->xs[i]? =some x,fun i H=>∃xs,SqL K H a xs/\xs.length<=i⟩
noncomputable def Itr (lo:Int) (n:Nat):It:=⟨fun i _=>i<n,fun i H x H'=>H'=H/\x=.int (lo+i),fun i _=>n<=i⟩
theorem B9 {P:Program}{w:World}{K:PySem.W.Frag}{tg:Expr}(a it:Addr):Turn P w K tg (Itl K a) [it] it (fun i h=>h.IsListIter it a i) where
 mem:=by simp
 obj:=fun i h st b hb=>by
  have e:b=it:=by simpa using hb
  subst e
  obtain⟨o,e,c,d⟩:=st
  exact⟨o,e,fun v z=>by rw[d] at z;cases z⟩
 keep:=fun i h h' st k=>st.at fun o e=>k it (by simp) o e
 item:=by
  intro X hP hw hK hc i pins s σ H E I hf st hg
  subst hP hw hK
  obtain⟨xs,x,hq,hx⟩:=hg
  obtain⟨its,rv,p,hz⟩:=I.list hq
  obtain⟨u,hu,ru⟩:=rv.get hx
  obtain⟨f0,f1,f2,f3,f4,f5⟩:=hf it (by simp)
  refine wpAny_pyNext_list_item st p.isList (x:=u) (by simpa using hu) fun h' st' sb=>?_
  have I1:Inv X pins σ H { s with heap:=h'}:=I.turned (t':=s.toks) (fun b o hb e=>(sb.2 b hb).trans e) f0 f1 f3 f4 f5
  obtain⟨o,e,c,d⟩:=id st'
  exact⟨u,rfl,al4 (s:={ s with heap:=h'}) e c d (by decide) ⟨x,H,I1,ru,⟨rfl,fun ys hy=>by rw[I.list_inj hy hq];exact hx⟩,st',fun b hb=>(hf b hb).1⟩⟩
 done:=by
  intro X hP hw hK hc i pins s σ H E I hf st hg
  subst hP hw hK
  obtain⟨xs,hq,hx⟩:=hg
  obtain⟨its,rv,p,hz⟩:=I.list hq
  obtain⟨f0,f1,f2,f3,f4,f5⟩:=hf it (by simp)
  have hl:=rv.length
  exact wpAny_pyNext_list_end (I.ok.hd hc) st p.isList (by simp;omega) fun h' eb=>⟨rfl,I.turned (t':=s.toks) (fun b o hb e=>eb b o hb e) f0 f1 f3 f4 f5⟩
 self:=fun _ _ _ _ _ st h=>wpAny_pyIter_listiter st h
theorem D2 {P:Program}{w:World}{K:PySem.W.Frag}{tg:Expr}(it:Addr) (lo:Int) (n:Nat):Turn P w K tg (Itr lo n) [it] it (fun i h=>IsRangeIter h it (lo+(i:Nat)*1) ((n:Int)-(i:Nat)) 1) where
 mem:=by simp
 obj:=fun i h st b hb=>by
  have e:b=it:=by simpa using hb
  subst e
  exact⟨_,st,fun v z=>by
   have z':Data.fields _=Data.cell v:=z
   cases z'⟩
 keep:=fun i h h' st k=>k it (by simp) _ st
 item:=by
  intro X hP hw hK hc i pins s σ H E I hf st hg
  subst hP hw hK
  obtain⟨f0,f1,f2,f3,f4,f5⟩:=hf it (by simp)
  have W:=Walks.range (prog:=X.prog) (w:=X.w) (I.ok.hd hc) it lo 1 n
  refine W.item i s _ _ hg st fun v h' tk hv st' kk=>?_
  obtain⟨t,rfl⟩:=hv
  have I1:Inv X pins σ H { s with heap:=h',toks:=tk}:=I.turned (fun b o hb e=>kk b o (by simpa using hb) e) f0 f1 f3 f4 f5
  refine⟨_,rfl,al4 (s:={ s with heap:=h',toks:=tk}) (n:="range_iterator") st' rfl rfl (by decide) ⟨.int (lo+i),H,I1,⟨t,?_⟩,⟨rfl,rfl⟩,st',fun b hb=>(hf b hb).1⟩⟩
  rw[Int.mul_one]
 done:=by
  intro X hP hw hK hc i pins s σ H E I hf st hg
  subst hP hw hK
  obtain⟨f0,f1,f2,f3,f4,f5⟩:=hf it (by simp)
  exact wpAny_pyNext_range_end (I.ok.hd hc) st (by have:n<=i:=hg;omega) fun h' eb=>⟨rfl,I.turned (t':=s.toks) (fun b o hb e=>eb b o hb e) f0 f1 f3 f4 f5⟩
 self:=fun _ _ _ _ _ st h=>wpAny_pyIter_rangeiter st h
section
variable {X:Cx}{tg:Expr}
noncomputable def aE9 (K:PySem.W.Frag) (tl:TE):TI:=fun σ H R=>tl σ H fun x H1=>∃a,x=.ref a/\(∃xs,SqL K H1 a xs)/\R (Itl K a) H1
theorem ab6 {l:Expr}{tl:TE}(hl:PE X l tl):PI X tg l (aE9 X.K tl):=by
 intro pins s σ H R I h
 refine thn (hl pins s σ H _ I h) fun v s1 ⟨x,H1,I1,r1,q1⟩=>?_
 obtain⟨a,e,⟨xs,hq⟩,q⟩:=q1
 subst e
 cases r1
 obtain⟨its,rv,p,hz⟩:=I1.list hq
 refine wpAny_pyIter_list p.isList ?_
 refine⟨s1.heap.objs.size,[s1.heap.objs.size],_,_,H1,rfl,I1.kept (t':=s1.toks) fun b o e=>Heap.get?_push_of_some _ e,B9 a _,⟨_,Heap.get?_push_size _ rfl,rfl,rfl⟩,fun b hb=>?_,q⟩
 have e:b=s1.heap.objs.size:=by simpa using hb
 subst e
 exact I1.fpOk (Nat.le_refl _) (I1.hok.fresh (Nat.le_refl _))
theorem a03 {pins:List (Addr×Obj)}{σ:St}{H:Hp}{s:Shared}{R:It->Hp->Prop}{E:Value->Shared->Prop}{lo hi:Int}{t u v:Tok}{tk:Nat}(I:Inv X pins σ H s) (h1:-(2 ^ 62)<=lo) (h2:lo<2 ^ 62) (h3:-(2 ^ 62)<=hi) (h4:hi<2 ^ 62)
  (q:R (Itr lo (hi-lo).toNat) H):wpAny (model X.prog X.w) X.A (pyIter (.ref s.heap.objs.size)) (PIE X pins σ tg R) E { s with heap:=s.heap.push { cls:=.type "range",data:=.fields #[.int lo t,.int hi u,.int 1 v]},toks:=tk}:=by
 refine wpAny_pyIter_range (IsRange.new ..) (small_one h1 h2 h3 h4) ?_
 have I1:Inv X pins σ H { s with heap:=s.heap.push { cls:=.type "range",data:=.fields #[.int lo t,.int hi u,.int 1 v]},toks:=tk}:=I.kept fun b o e=>Heap.get?_push_of_some _ e
 refine⟨(s.heap.push { cls:=.type "range",data:=.fields #[.int lo t,.int hi u,.int 1 v]}).objs.size,[(s.heap.push { cls:=.type "range",data:=.fields #[.int lo t,.int hi u,.int 1 v]}).objs.size],_,_,H,rfl,
  I1.kept (t':=tk) fun b o e=>Heap.get?_push_of_some _ e,D2 _ lo (hi-lo).toNat,?_,fun b hb=>?_,q⟩
 ·have e1:lo+((0:Nat):Int)*1=lo:=by simp
  have e2:(((hi-lo).toNat:Nat):Int)-((0:Nat):Int)=Builtin.Range.rangeSize lo hi 1:=by rw[rangeSize_one];split<;>omega
  show IsRangeIter _ _ (lo+((0:Nat):Int)*1) ((((hi-lo).toNat:Nat):Int)-((0:Nat):Int)) 1
  rw[e1,e2]
  exact Heap.get?_push_size _ rfl
 ·have e:b=(s.heap.push { cls:=.type "range",data:=.fields #[.int lo t,.int hi u,.int 1 v]}).objs.size:=by simpa using hb
  subst e
  exact I1.fpOk (Nat.le_refl _) (I1.hok.fresh (Nat.le_refl _))
noncomputable def aE8 (ta:TA):TI:=fun σ H R=>ta σ H fun vs H1=>∃j:Int,vs=[.int j]/\ -(2 ^ 62)<=j/\j<2 ^ 62/\R (Itr 0 j.toNat) H1
theorem Bu {a:Expr}{ta:TA}{p pos:Pos}(hg:Gl X "range") (hm:X.mg "range"=none) (ha:PA X [a] ta) (hs:starEach [a] X.env=[(false,eval a X.env)]:=by rfl):PI X tg (.Call (.Name "range" p) [a] [] pos) (aE8 ta):=by
 intro pins s σ H R I h
 refine Call_ (Gc I hg hm boot_range (PyProof.Rows.callWith_type1 (thn (ha pos pins s σ H _ I h) fun us s1 ⟨vs,H1,I1,r1,q1⟩=>?_) hs rfl))
 obtain⟨j,e,q1,q2,q⟩:=q1
 subst e
 cases r1 with
 |cons r rr =>
  cases rr
  obtain⟨t,rfl⟩:=r
  exact call_range_1 (a03 I1 (by omega) (by omega) q1 q2 (by simpa using q))
noncomputable def tFor (wi:TI) (g:TG) (tb:TS):TS:=fun D σ H=>wi σ H fun J H1=>∃W:Nat->Nat->St->Hp->Prop,(∃m,W 0 m σ H1)/\∀i m σ H,W i m σ H ->
 (J.stop i H/\D.nx σ H)\/(J.go i H/\∃N:St->Hp->Prop,(∀σ' H',N σ' H'->∃m',m'<m/\W (i+1) m' σ' H')/\∀x H',J.yld i H x H'->g x σ H' fun σ2 H2=>tb { D with nx:=N,ct:=N,bk:=D.nx} σ2 H2)
noncomputable def vh (fp:List Addr) (h:Heap):List (Addr×Obj):=fp.filterMap fun b=>(h.get? b).map fun o=>(b,o)
theorem Z5 {fp:List Addr}{h:Heap}{b:Addr}{o:Obj}(hb:b∈fp) (e:h.get? b=some o):(b,o)∈vh fp h:=List.mem_filterMap.mpr ⟨b,hb,by rw[e];rfl⟩
theorem Bk {fp:List Addr}{h:Heap}{p:Addr×Obj}(hp:p∈vh fp h):p.1∈fp/\h.get? p.1=some p.2:=by
 obtain⟨b,hb,e⟩:=List.mem_filterMap.mp hp
 cases q:h.get? b with
 |none=>rw[q] at e;cases e
 |some o =>
  rw[q] at e
  have e':(b,o)=p:=Option.some.inj e
  subst e'
  exact⟨hb,q⟩
theorem Inv.pinned {pins:List (Addr×Obj)}{σ:St}{H:Hp}{s:Shared}{fp:List Addr}(I:Inv X pins σ H s) (hf:∀b∈fp,qo X pins H b) (ho:∀b∈fp,∃o,s.heap.get? b=some o/\∀v,o.data≠.cell v):Inv X (pins++vh fp s.heap) σ H s :=
 I.pins_of fun p hp=>(List.mem_append.mp hp).elim (fun z=>I.pin p (List.mem_append_right _ z)) fun z=>by
  obtain⟨hb,e⟩:=Bk z
  obtain⟨f0,f1,f2,_⟩:=hf p.1 hb
  obtain⟨o,e',d⟩:=ho p.1 hb
  rw[e] at e';cases e'
  exact⟨e,f0,f1,f2,d⟩
theorem Inv.unpinned {pins pl:List (Addr×Obj)}{σ:St}{H:Hp}{s:Shared}(I:Inv X (pins++pl) σ H s):Inv X pins σ H s:=I.pins_of fun p hp=>I.pin p (List.mem_append_right _ (List.mem_append_left _ hp))
theorem ap9 {iter:Expr}{body:List Stmt}{wi:TI}{g:TG}{tb:TS}{pos:Pos}(hp:PassesOwn (model X.prog X.w) X.A X.env X.xe) (hc:X.calm=true) (hi:PI X tg iter wi) (hg:PG X tg g) (hb:PSs X body tb)
  (hs:∀x,foldedSetIterable iter X.env x=pure x:=by intro _;rfl):PS X (.For tg iter body [] pos) (tFor wi g tb):=by
 intro pins s σ H D I h
 refine wpAny_For (thn (hi pins s σ H _ I h) fun v s1 h1=>thn h1 fun itv s2 h2=>?_) hs
 obtain⟨it,fp,tn,J,H2,e,I2,T,st2,f2,W,⟨m0,w0⟩,turn⟩:=h2
 subst e
 have stat:∀{H':Hp},(∀b∈fp,H' b=none)->∀b∈fp,qo X pins H' b:=fun hn b hb=>⟨hn b hb,(f2 b hb).2⟩
 refine codeAny_forLoop_any (fun n s'=>∃i σ' H',Inv X pins σ' H' s'/\tn i s'.heap/\(∀b∈fp,H' b=none)/\W i n σ' H') ?_ m0 ⟨0,σ,H2,I2,st2,fun b hb=>(f2 b hb).1,w0⟩
 rintro n s3 ⟨i,σ3,H3,I3,st3,fr3,w3⟩
 rcases turn i n σ3 H3 w3 with⟨stop,qn⟩|⟨go,N,hN,step⟩
 ·refine wpAny_passesOwn hp (thn (T.done X rfl rfl rfl hc i pins s3 σ3 H3 X.xe I3 (stat fr3) st3 stop) fun r s4 ⟨hr,I4⟩=>?_)
  subst hr
  exact wpAny_execs_nil ⟨σ3,H3,I4,qn⟩
 ·refine wpAny_passesOwn hp (thn (T.item X rfl rfl rfl hc i pins s3 σ3 H3 X.xe I3 (stat fr3) st3 go) fun r s4 ⟨u,hr,h4⟩=>?_)
  subst hr
  refine wpAny_passesOwn hp (thn h4 fun _ s5 ⟨x,H5,I5,r5,y5,st5,fr5⟩=>?_)
  have I5':=I5.pinned (stat fr5) (T.obj _ _ st5)
  refine wpAny_passesOwn hp (thn (hg _ s5 σ3 H5 x u _ I5' r5 (step x H5 y5)) fun _ s6 ⟨σ6,H6,I6,q6⟩=>?_)
  refine wpAny_passesOwn hp (thn (hb _ s6 σ6 H6 _ I6 q6) fun f s7 q7=>?_)
  have again:∀{σ7:St}{H7:Hp},Inv X (pins++vh fp s5.heap) σ7 H7 s7->N σ7 H7->∃m,m<n/\∃i σ' H',Inv X pins σ' H' s7/\tn i s7.heap/\(∀b∈fp,H' b=none)/\W i m σ' H':=fun{σ7 H7} I7 n7=>by
   obtain⟨m',hm,w7⟩:=hN σ7 H7 n7
   refine⟨m',hm,i+1,σ7,H7,I7.unpinned,T.keep _ _ _ st5 fun b hb o e=>(I7.pin (b,o) (List.mem_append_right _ (List.mem_append_right _ (Z5 hb e)))).1,fun b hb=>?_,w7⟩
   obtain⟨o,e,d⟩:=T.obj _ _ st5 b hb
   exact(I7.pin (b,o) (List.mem_append_right _ (List.mem_append_right _ (Z5 hb e)))).2.1
  cases f with
  |next=>obtain⟨σ7,H7,I7,n7⟩:=q7;exact again I7 n7
  |cont=>obtain⟨σ7,H7,I7,n7⟩:=q7;exact again I7 n7
  |brk=>obtain⟨σ7,H7,I7,q7⟩:=q7;exact⟨σ7,H7,I7.unpinned,q7⟩
  |ret v=>obtain⟨x7,σ7,H7,I7,r7,q7⟩:=q7;exact⟨x7,σ7,H7,I7.unpinned,r7,q7⟩
end
noncomputable abbrev R2:=V->V->Hp->VK->Prop
noncomputable def OpR (X:Cx) (f:Value->Value->Sem Value) (r:R2):Prop :=
 ∀(pins:List (Addr×Obj)) (s:Shared) (σ:St) (H:Hp) (x y:V) (v u:Value) (Q:VK),Inv X pins σ H s->J3 x v->J3 y u->r x y H Q ->
  wpAny (model X.prog X.w) X.A (f v u) (EP X pins σ Q) X.xe s
noncomputable def UnR (X:Cx) (f:Value->Sem Value) (r:V->Hp->VK->Prop):Prop :=
 ∀(pins:List (Addr×Obj)) (s:Shared) (σ:St) (H:Hp) (x:V) (v:Value) (Q:VK),Inv X pins σ H s->J3 x v->r x H Q ->
  wpAny (model X.prog X.w) X.A (f v) (EP X pins σ Q) X.xe s
noncomputable def ze (X:Cx) (f:Value) (r:List V->Hp->VK->Prop):Prop :=
 ∀(pins:List (Addr×Obj)) (s:Shared) (σ:St) (H:Hp) (xs:List V) (us:List Value) (Q:VK),Inv X pins σ H s->J8 xs us->r xs H Q ->
  wpAny (model X.prog X.w) X.A (call f us) (EP X pins σ Q) X.xe s
noncomputable def TruR (X:Cx) (r:V->Hp->(Bool->Hp->Prop)->Prop):Prop :=
 ∀(pins:List (Addr×Obj)) (s:Shared) (σ:St) (H:Hp) (x:V) (v:Value) (Q:Bool->Hp->Prop),Inv X pins σ H s->J3 x v->r x H Q ->
  wpAny (model X.prog X.w) X.A (truthy v) (TP X pins σ Q) X.xe s
noncomputable def tOp (r:R2) (ta tb:TE):TE:=fun σ H Q=>ta σ H fun x H1=>tb σ H1 fun y H2=>r x y H2 Q
noncomputable def tUn (r:V->Hp->VK->Prop) (ta:TE):TE:=fun σ H Q=>ta σ H fun x H1=>r x H1 Q
noncomputable def rI (C:Int->Int->Prop) (g:Int->Int->V):R2:=fun x y H Q=>∃i j,x=.int i/\y=.int j/\C i j/\Q (g i j) H
noncomputable def rI0 (g:Int->Int->V):R2:=fun x y H Q=>∃i j,x=.int i/\y=.int j/\Q (g i j) H
noncomputable def rU (g:Int->V):V->Hp->VK->Prop:=fun x H Q=>∃i,x=.int i/\Q (g i) H
section
variable {X:Cx}{a b c:Expr}{ta tb tc:TE}{pos:Pos}
theorem ax1 (ha:PE X a ta) (hb:PE X b tb) {pins:List (Addr×Obj)}{s:Shared}{σ:St}{H:Hp}{R:V->V->Hp->Prop}(I:Inv X pins σ H s)
  (h:ta σ H fun x H1=>tb σ H1 fun y H2=>R x y H2) {Q:Value->Shared->Prop}{f:Value->Value->Sem Value}
  (hf:∀v u s2 x y H2,Inv X pins σ H2 s2->J3 x v->J3 y u->R x y H2->wpAny (model X.prog X.w) X.A (f v u) Q X.xe s2) :
  wpAny (model X.prog X.w) X.A (eval a X.env) (fun v s₁=>wpAny (model X.prog X.w) X.A (eval b X.env) (fun u s₂=>wpAny (model X.prog X.w) X.A (f v u) Q X.xe s₂) X.xe s₁) X.xe s:=by
 refine thn (ha pins s σ H _ I h) fun v s1 ⟨x,H1,I1,r1,q1⟩=>?_
 refine thn (hb pins s1 σ H1 _ I1 q1) fun u s2 ⟨y,H2,I2,r2,q2⟩=>?_
 exact hf v u s2 x y H2 I2 r1 r2 q2
theorem aB8 {op:Operator}{r:R2}(ho:OpR X (binaryOp op) r) (ha:PE X a ta) (hb:PE X b tb):PE X (.BinOp a op b pos) (tOp r ta tb):=by
 intro pins s σ H Q I h
 exact wpAny_BinOp (ax1 ha hb I h fun v u s2 x y H2 I2 rx ry q=>ho pins s2 σ H2 x y v u Q I2 rx ry q)
theorem aB7 {op:UnaryOp}{r:V->Hp->VK->Prop}(ho:UnR X (unaryOp op) r) (ha:PE X a ta):PE X (.UnaryOp op a pos) (tUn r ta):=by
 intro pins s σ H Q I h
 exact UnaryOp_ (thn (ha pins s σ H _ I h) fun v s1 ⟨x,H1,I1,r1,q1⟩=>ho pins s1 σ H1 x v Q I1 r1 q1)
theorem opI {f:Value->Value->Sem Value}{C:Int->Int->Prop}{g:Int->Int->Int}
  (rule:∀(i j:Int) (t u:Tok) (s:Shared) (Q:Value->Shared->Prop) (E:Value->Shared->Prop),C i j->Q (.int (g i j) s.toks) { s with toks:=s.toks+1}->wpAny (model X.prog X.w) X.A (f (.int i t) (.int j u)) Q E s) :
  OpR X f (rI C fun i j=>.int (g i j)):=by
 intro pins s σ H x y v u Q I rx ry h
 obtain⟨i,j,rfl,rfl,hc,q⟩:=h
 obtain⟨t,rfl⟩:=rx
 obtain⟨t',rfl⟩:=ry
 exact rule i j t t' s _ _ hc ⟨.int (g i j),H,I.tok _,⟨_,rfl⟩,q⟩
theorem aC5 {f:Value->Value->Sem Value}{g:Int->Int->Int}
  (rule:∀(i j:Int) (t u:Tok) (s:Shared) (Q:Value->Shared->Prop) (E:Value->Shared->Prop),Q (.int (g i j) s.toks) { s with toks:=s.toks+1}->wpAny (model X.prog X.w) X.A (f (.int i t) (.int j u)) Q E s) :
  OpR X f (rI0 fun i j=>.int (g i j)):=by
 intro pins s σ H x y v u Q I rx ry h
 obtain⟨i,j,rfl,rfl,q⟩:=h
 obtain⟨t,rfl⟩:=rx
 obtain⟨t',rfl⟩:=ry
 exact rule i j t t' s _ _ ⟨.int (g i j),H,I.tok _,⟨_,rfl⟩,q⟩
theorem ad1 {f:Value->Value->Sem Value}{g:Int->Int->Bool}
  (rule:∀(i j:Int) (t u:Tok) (s:Shared) (Q:Value->Shared->Prop) (E:Value->Shared->Prop),Q (.bool (g i j)) s->wpAny (model X.prog X.w) X.A (f (.int i t) (.int j u)) Q E s) :
  OpR X f (rI0 fun i j=>.bl (g i j)):=by
 intro pins s σ H x y v u Q I rx ry h
 obtain⟨i,j,rfl,rfl,q⟩:=h
 obtain⟨t,rfl⟩:=rx
 obtain⟨t',rfl⟩:=ry
 exact rule i j t t' s _ _ ⟨.bl (g i j),H,I,rfl,q⟩
noncomputable def aH8 (i j:Int):Prop:=0<=j/\j<=1000000/\i.natAbs<2 ^ 64
noncomputable def A1 (i j:Int):Prop:=(-(2 ^ 64)<i/\i<2 ^ 64)\/(-(2 ^ 64)<j/\j<2 ^ 64)
theorem A1.ok {i j:Int}(h:A1 i j):IntMulOk i j:=by
 rcases h with⟨h1,h2⟩|⟨h1,h2⟩
 ·exact .of_left (intBits_le_64 h1 h2)
 ·exact .of_right (intBits_le_64 h1 h2)
theorem as6:OpR X (binaryOp .Add) (rI0 fun i j=>.int (i+j)):=aC5 fun _ _ _ _ _ _ _ q=>add_int q
theorem ar7:OpR X (binaryOp .Sub) (rI0 fun i j=>.int (i-j)):=aC5 fun _ _ _ _ _ _ _ q=>sub_int q
theorem ar9:OpR X (binaryOp .Mult) (rI A1 fun i j=>.int (i*j)):=opI fun _ _ _ _ _ _ _ hc q=>mul_int q hc.ok
theorem as0:OpR X (binaryOp .Mod) (rI (fun _ j=>0<j) fun i j=>.int (i % j)):=opI fun i j _ _ _ _ _ hc q=>by
 have h1:(0:Int)<j:=hc
 exact mod_int' (by omega) (by rw[Int.fmod_eq_emod_of_nonneg i (by omega)];exact q)
theorem unI {f:Value->Sem Value}{g:Int->Int}
  (rule:∀(i:Int) (t:Tok) (s:Shared) (Q:Value->Shared->Prop) (E:Value->Shared->Prop),Q (.int (g i) s.toks) { s with toks:=s.toks+1}->wpAny (model X.prog X.w) X.A (f (.int i t)) Q E s) :
  UnR X f (rU fun i=>.int (g i)):=by
 intro pins s σ H x v Q I rx h
 obtain⟨i,rfl,q⟩:=h
 obtain⟨t,rfl⟩:=rx
 exact rule i t s _ _ ⟨.int (g i),H,I.tok _,⟨_,rfl⟩,q⟩
theorem ao2:UnR X (unaryOp .USub) (rU fun i=>.int (-i)):=unI fun _ _ _ _ _ q=>neg_int q
end
section
variable {X:Cx}{a b c:Expr}{ta tb tc:TE}{pos:Pos}
theorem aC0:OpR X (compareOp .Lt) (rI0 fun i j=>.bl (decide (i<j))):=ad1 fun _ _ _ _ _ _ _ q=>lt_int q
theorem aC1:OpR X (compareOp .LtE) (rI0 fun i j=>.bl (decide (i<=j))):=ad1 fun _ _ _ _ _ _ _ q=>le_int q
theorem aC2:OpR X (compareOp .Gt) (rI0 fun i j=>.bl (decide (j<i))):=ad1 fun _ _ _ _ _ _ _ q=>gt_int q
theorem aC3:OpR X (compareOp .GtE) (rI0 fun i j=>.bl (decide (j<=i))):=ad1 fun _ _ _ _ _ _ _ q=>ge_int q
theorem OpR.or {f:Value->Value->Sem Value}{r r':R2}(h:OpR X f r) (h':OpR X f r'):OpR X f (fun x y H Q=>r x y H Q\/r' x y H Q):=by
 intro pins s σ H x y v u Q I rx ry q
 rcases q with q|q
 ·exact h pins s σ H x y v u Q I rx ry q
 ·exact h' pins s σ H x y v u Q I rx ry q
theorem nomark (b:Expr) {op:CmpOp}(h:op≠.In:=by decide) (h2:op≠.NotIn:=by decide):behindInMarks op b=false:=by
 have e1:(op==CmpOp.In)=false:=by cases op<;>first|rfl|exact absurd rfl h
 have e2:(op==CmpOp.NotIn)=false:=by cases op<;>first|rfl|exact absurd rfl h2
 cases b<;>simp[behindInMarks,e1,e2]
theorem ac3 {op:CmpOp}{r:R2}(ho:OpR X (compareOp op) r) (ha:PE X a ta) (hb:PE X b tb) (hm:behindInMarks op b=false):PE X (.Compare a [op] [b] pos) (tOp r ta tb):=by
 intro pins s σ H Q I h
 exact wpAny_Compare1 (ax1 ha hb I h fun v u s2 x y H2 I2 rx ry q=>ho pins s2 σ H2 x y v u Q I2 rx ry q) hm
noncomputable def aj6 (t:TE):TT:=fun σ H Q=>t σ H fun x H'=>∃k,x=.bl k/\Q k H'
theorem ab0 {op:CmpOp}{r:R2}(ho:OpR X (compareOp op) r) (ha:PE X a ta) (hb:PE X b tb) (hm:behindInMarks op b=false):PT X (.Compare a [op] [b] pos) (aj6 (tOp r ta tb)):=by
 intro pins s σ H Q I h
 refine wpAny_isTrue_Compare1 (thn (ha pins s σ H _ I h) fun v s1 ⟨x,H1,I1,r1,q1⟩=>thn (hb pins s1 σ H1 _ I1 q1) fun u s2 ⟨y,H2,I2,r2,q2⟩ =>
  thn (ho pins s2 σ H2 x y v u _ I2 r1 r2 q2) fun c s3 ⟨z,H3,I3,r3,k,e,q3⟩=>?_) hm
 subst e
 cases r3
 exact wpAny_truthy_bool ⟨H3,I3,q3⟩
noncomputable def D4 (r r':R2) (ta tb tc:TE):TE:=fun σ H Q=>ta σ H fun x H1=>tb σ H1 fun y H2=>r x y H2 fun z H3=>∃k,z=.bl k /\
 (if k=true then tc σ H3 fun w' H4=>r' y w' H4 Q else Q (.bl false) H3)
theorem a15 {op op':CmpOp}{r r':R2}(ho:OpR X (compareOp op) r) (ho':OpR X (compareOp op') r') (ha:PE X a ta) (hb:PE X b tb) (hc:PE X c tc)
  (hm:lastMarks [op,op'] [b,c]=false:=by with_unfolding_all rfl):PE X (.Compare a [op,op'] [b,c] pos) (D4 r r' ta tb tc):=by
 intro pins s σ H Q I h
 refine Compare_chain (thn (ha pins s σ H _ I h) fun v s1 ⟨x,H1,I1,r1,q1⟩=>chain_link (thn (hb pins s1 σ H1 _ I1 q1) fun u s2 ⟨y,H2,I2,r2,q2⟩ =>
  thn (ho pins s2 σ H2 x y v u _ I2 r1 r2 q2) fun d s3 ⟨z,H3,I3,r3,k,e,q3⟩=>?_)) hm
 subst e
 cases r3
 refine wpAny_truthy_bool ?_
 cases k with
 |false=>exact ite_ff ⟨.bl false,H3,I3,rfl,q3⟩
 |true=>exact ite_tt (chain_last (thn (hc pins s3 σ H3 _ I3 q3) fun w' s4 ⟨z',H4,I4,r4,q4⟩=>ho' pins s4 σ H4 y z' u w' Q I4 r2 r4 q4))
theorem a06 {op op':CmpOp}{r r':R2}(ho:OpR X (compareOp op) r) (ho':OpR X (compareOp op') r') (ha:PE X a ta) (hb:PE X b tb) (hc:PE X c tc)
  (hm:lastMarks [op,op'] [b,c]=false:=by with_unfolding_all rfl):PT X (.Compare a [op,op'] [b,c] pos) (aj6 (D4 r r' ta tb tc)):=by
 intro pins s σ H Q I h
 refine isTrue_chain (thn (ha pins s σ H _ I h) fun v s1 ⟨x,H1,I1,r1,q1⟩=>test_link (thn (hb pins s1 σ H1 _ I1 q1) fun u s2 ⟨y,H2,I2,r2,q2⟩ =>
  thn (ho pins s2 σ H2 x y v u _ I2 r1 r2 q2) fun d s3 ⟨z,H3,I3,r3,k,e,q3⟩=>?_)) hm
 subst e
 cases r3
 refine wpAny_truthy_bool ?_
 cases k with
 |false =>
  obtain⟨k',e',q'⟩:=q3
  cases e'
  exact ite_ff ⟨H3,I3,q'⟩
 |true =>
  refine ite_tt (test_last (thn (hc pins s3 σ H3 _ I3 q3) fun w' s4 ⟨z',H4,I4,r4,q4⟩=>thn (ho' pins s4 σ H4 y z' u w' _ I4 r2 r4 q4) fun d' s5 ⟨z2,H5,I5,r5,k2,e2,q5⟩=>?_))
  subst e2
  cases r5
  exact wpAny_truthy_bool ⟨H5,I5,q5⟩
noncomputable def ai6 (K:PySem.W.Frag) (x:V) (H:Hp) (k:Bool):Prop :=
 match x with
 |.non=>k=false
 |.bl b=>k=b
 |.int i=>k=(i != 0)
 |.str y=>y.length<=sizeLine/\k=((y.length:Int) != 0)
 |.byt y=>y.size<=sizeLine/\k=((y.size:Int) != 0)
 |.ref p=>(∃xs,SqL K H p xs/\k= !xs.isEmpty)\/(∃xs,SqT K H p xs/\k= !xs.isEmpty)\/∃kvs,H p=some (.dK kvs)/\k= !kvs.isEmpty
 |_=>False
theorem Dd {κ:Type}{kvs:List (κ×V)}{vs:List (κ×Value)}(r:KV kvs vs):(!vs.isEmpty)= !kvs.isEmpty:=by
 cases r<;>rfl
theorem Vw {xs:List V}{its:List Value}(r:J8 xs its):(!its.toArray.isEmpty)= !xs.isEmpty:=by
 cases r<;>simp
theorem V9:(sizeLine:Nat)<2 ^ 63:=by rw[sizeLine_eq];decide
theorem Aq:TruR X (fun x H Q=>∃k,ai6 X.K x H k/\Q k H):=by
 intro pins s σ H x v Q I rx h
 obtain⟨k,e,q⟩:=h
 have hl:=V9
 have hs:sizeLine=16777216:=sizeLine_eq
 cases x with
 |non =>
  cases rx
  have e':k=false:=e
  subst e'
  exact truthy_none ⟨H,I,q⟩
 |bl b =>
  cases rx
  have e':k=b:=e
  subst e'
  exact wpAny_truthy_bool ⟨H,I,q⟩
 |int i =>
  obtain⟨t,rfl⟩:=rx
  have e':k=(i != 0):=e
  subst e'
  exact PySem.P.truthy_int ⟨H,I,q⟩
 |str y =>
  obtain⟨t,rfl⟩:=rx
  obtain⟨hy,e'⟩:y.length<=sizeLine/\k=((y.length:Int) != 0):=e
  subst e'
  exact PySem.P.truthy_str (by omega) ⟨H,I.tok _,q⟩
 |byt y =>
  obtain⟨t,rfl⟩:=rx
  obtain⟨hy,e'⟩:y.size<=sizeLine/\k=((y.size:Int) != 0):=e
  subst e'
  exact PySem.W.truthy_bytes (by omega) ⟨H,I.tok _,q⟩
 |ref p =>
  cases rx
  have e':(∃xs,SqL X.K H p xs/\k= !xs.isEmpty)\/(∃xs,SqT X.K H p xs/\k= !xs.isEmpty)\/∃kvs,H p=some (.dK kvs)/\k= !kvs.isEmpty:=e
  rcases e' with⟨xs,hx,e'⟩|⟨xs,hx,e'⟩|⟨kvs,hx,e'⟩
  ·subst e'
   obtain⟨its,r,pl,hz⟩:=I.list hx
   have hlen:=r.length
   exact wpAny_truthy_list pl.isList (by simp only[List.size_toArray];omega) ⟨H,I.tok _,by rw[Vw r];exact q⟩
  ·subst e'
   obtain⟨its,r,pl,hz⟩:=I.tuple hx
   have hlen:=r.length
   exact truthy_tuple pl (by simp only[List.size_toArray];omega) ⟨H,I.tok _,by rw[Vw r];exact q⟩
  ·subst e'
   obtain⟨hz,hS,vs,r,m⟩:kvs.length<=sizeLine/\(p==sysModules)=false/\∃vs,KV kvs vs/\s.heap.DictOf (J0 X.prog X.w) p vs:=I.hok p _ hx
   have hlen:kvs.length=vs.length:=Paired.length r
   exact wpAny_truthy_dict hS m (by omega) ⟨H,I.tok _,by rw[Dd r];exact q⟩
 |_=>exact(show False from e).elim
theorem a05 (ha:PE X a ta) (he:∀whole,isTrue a X.env whole=(do let v ←whole;standAt a.pos;holding [v] (truthy v))) :
  PT X a (fun σ H Q=>ta σ H fun x H'=>∃k,ai6 X.K x H' k/\Q k H'):=by
 intro pins s σ H Q I h
 exact isTrue_plain (thn (ha pins s σ H _ I h) fun v s1 ⟨x,H1,I1,r1,q1⟩=>Aq pins s1 σ H1 x v Q I1 r1 q1) (he _)
theorem Du:OpR X (binaryOp .Add) (fun x y H Q=>∃i j,x=.str i/\y=.str j/\i.length+j.length<=sizeLine/\Q (.str (i++j)) H):=by
 intro pins s σ H x y v u Q I rx ry h
 obtain⟨i,j,rfl,rfl,hz,q⟩:=h
 obtain⟨t,rfl⟩:=rx
 obtain⟨t',rfl⟩:=ry
 exact add_str (fun t' tk=>⟨.str (i++j),H,I.tok _,⟨_,rfl⟩,q⟩) hz
theorem we {x:V}{us:List Value}(r:J8 [x] us):∃u,us=[u]/\J3 x u:=by
 cases r with
 |cons r1 r2=>cases r2;exact⟨_,rfl,r1⟩
theorem cm {x y:V}{us:List Value}(r:J8 [x,y] us):∃u w',us=[u,w']/\J3 x u/\J3 y w':=by
 cases r with
 |cons r1 r2 =>
  cases r2 with
  |cons r3 r4=>cases r4;exact⟨_,_,rfl,r1,r3⟩
theorem af:ze X (.type "int") (fun xs H Q=>(∃i,xs=[.int i]/\Q (.int i) H)\/∃k,xs=[.bl k]/\Q (.int (if k then 1 else 0)) H):=by
 intro pins s σ H xs us Q I r h
 rcases h with⟨i,rfl,q⟩|⟨k,rfl,q⟩
 ·obtain⟨u,rfl,t,rfl⟩:=we r
  exact call_int_int ⟨.int i,H,I,⟨_,rfl⟩,q⟩
 ·obtain⟨u,rfl,r1⟩:=we r
  cases r1
  exact call_int_bool ⟨.int (if k then 1 else 0),H,I.tok _,⟨_,rfl⟩,q⟩
theorem F7:ze X (.type "str") (fun xs H Q=>∃i,xs=[.int i]/\i.natAbs.log2<1920/\Q (.str (toString i)) H):=by
 intro pins s σ H xs us Q I r h
 obtain⟨i,rfl,hz,q⟩:=h
 obtain⟨u,rfl,t,rfl⟩:=we r
 exact PySem.P.str_of_int hz ⟨.str _,H,I.tok _,⟨_,rfl⟩,q⟩
noncomputable def LenV (K:PySem.W.Frag) (x:V) (H:Hp) (n:Nat):Prop :=
 match x with
 |.str y=>y.length<=sizeLine/\n=y.length
 |.byt y=>y.size<=sizeLine/\n=y.size
 |.ref p=>(∃xs,SqL K H p xs/\n=xs.length)\/∃xs,SqT K H p xs/\n=xs.length
 |_=>False
theorem a82:ze X (.builtin "len") (fun xs H Q=>∃x n,xs=[x]/\LenV X.K x H n/\Q (.int n) H):=by
 intro pins s σ H xs us Q I r h
 obtain⟨x,n,rfl,e,q⟩:=h
 obtain⟨u,rfl,rx⟩:=we r
 have hl:=V9
 have hs:sizeLine=16777216:=sizeLine_eq
 cases x with
 |str y =>
  obtain⟨t,rfl⟩:=rx
  obtain⟨hy,e'⟩:y.length<=sizeLine/\n=y.length:=e
  subst e'
  exact len_str (by omega) ⟨.int _,H,I.tok _,⟨_,rfl⟩,q⟩
 |byt y =>
  obtain⟨t,rfl⟩:=rx
  obtain⟨hy,e'⟩:y.size<=sizeLine/\n=y.size:=e
  subst e'
  exact PySem.W.len_bytes (by omega) ⟨.int _,H,I.tok _,⟨_,rfl⟩,q⟩
 |ref p =>
  cases rx
  have e':(∃xs,SqL X.K H p xs/\n=xs.length)\/∃xs,SqT X.K H p xs/\n=xs.length:=e
  rcases e' with⟨xs,hx,e'⟩|⟨xs,hx,e'⟩
  ·subst e'
   obtain⟨its,r',pl,hz⟩:=I.list hx
   have hlen:=r'.length
   exact Calls.call_len_list pl.isList (by simp only[List.size_toArray];omega) ⟨.int xs.length,H,I.tok _,⟨_,by simp only[List.size_toArray];rw[hlen]⟩,q⟩
  ·subst e'
   obtain⟨its,r',pl,hz⟩:=I.tuple hx
   have hlen:=r'.length
   exact len_tuple pl (by simp only[List.size_toArray];omega) ⟨.int xs.length,H,I.tok _,⟨_,by simp only[List.size_toArray];rw[hlen]⟩,q⟩
 |_=>exact(show False from e).elim
end
structure ObjM (h:Heap) (x dx C:Addr) (mA:Str->Option Value):Prop where
 obj:h.get? x=some (PySem.W.instObj C dx)
 ns:h.Ns1 dx mA
 ne:dx≠x
theorem Kv {h:Heap}{dx:Addr}{mA:Str->Option Value}(n:h.Ns1 dx mA):∃od,h.get? dx=some od/\∀name,PySem.W.lookIn name od=some (mA name):=by
 obtain⟨o,es,ep,ho,hd,hk,_,hm⟩:=n
 refine⟨o,ho,fun name=>?_⟩
 have e:=hm name
 unfold nsFind findBy at e
 rw[←Array.find?_toList] at e
 unfold PySem.W.lookIn
 rw[hd]
 dsimp only
 split
 ·rename_i y q
  rw[q] at e
  exact congrArg some e
 ·rename_i q
  rw[q] at e
  have a:es.toList.any (·.refKey)=false:=by
   rw[List.any_eq_false]
   intro y hy
   obtain⟨z,t,hkey⟩:=hk y (Array.mem_toList_iff.mp hy)
   simp[DictEntry.refKey,hkey]
  have a':¬es.toList.any (·.refKey)=true:=by rw[a];exact Bool.false_ne_true
  rw[if_neg a']
  exact congrArg some e
theorem ObjM.look {h:Heap}{x dx C:Addr}{mA:Str->Option Value}(I:ObjM h x dx C mA):∃od,PySem.W.InstAt h x (PySem.W.instObj C dx) C (some od)/\∀name,PySem.W.lookIn name od=some (mA name) :=
 let⟨od,ho,hl⟩:=Kv I.ns
 ⟨od,⟨I.obj,rfl,rfl,ho⟩,hl⟩
section
variable {prog:Program}{w:World}{A:Around}{E:Value->Shared->Prop}{s:Shared}{K:PySem.W.Frag}{x dx C f:Addr}{mA:Str->Option Value}{name:Str}{v:Value}
theorem ag8 {expr:Bool}{Q:Value->Shared->Prop}(X:K.In s.heap) (I:ObjM s.heap x dx C mA) (hg:PySem.W.plainGet K C name=true) (hh:PySem.W.hasDictIn K C=true)
  (ha:PySem.W.findIn K (.ref C) name=some none) (hv:mA name=some v) (hv':PySem.W.handedIn v=true) (h:Q v { s with toks:=s.toks+1}) :
  wpAny (model prog w) A (getAttr (.ref x) name expr) Q E s:=by
 obtain⟨od,J,hl⟩:=I.look
 exact PySem.W.get_value X J (PySem.W.plainGet_of hg).1 (PySem.W.findObj_own hh ha rfl (by rw[hl,hv])) hv' h
theorem a64 {pl:Sem Bool}{Q:Value×List Value->Shared->Prop}(X:K.In s.heap) (I:ObjM s.heap x dx C mA) (hg:PySem.W.plainGet K C name=true)
  (hf:PySem.W.findIn K (.ref C) name=some (some (.ref f))) (ht:PySem.W.isFn K (.ref f)=true) (hv:mA name=none) (h:Q (.ref f,[.ref x]) s) :
  wpAny (model prog w) A (getMethod (.ref x) name pl) Q E s:=by
 obtain⟨od,J,hl⟩:=I.look
 exact PySem.W.method_fn X J (PySem.W.plainGet_of hg).1 (PySem.W.plainGet_of hg).2 hf (beq_iff_eq.mp ht) (by show(PySem.W.lookIn name od).map (·.isSome)=some false;rw[hl,hv];rfl) h
theorem aa2 {ns:List Str}{Q:Unit->Shared->Prop}(X:K.In s.heap) (I:ObjM s.heap x dx C mA)
  (hs:PySem.W.findIn K (.ref C) "__setattr__"=some (some (.builtin "object.__setattr__"))) (hp:PySem.W.plainOver K C=true) (ht:PySem.W.takerIn K C name=some none) (hh:PySem.W.hasDictIn K C=true)
  (hw:PySem.Within mA ns) (hsz:ns.length<=sizeLine)
  (h:∀h',ObjM h' x dx C (fun y=>if y=name then some v else mA y)->Heap.SameBut dx s.heap h'->Q () { s with heap:=h',toks:=s.toks+2}) :
  wpAny (model prog w) A (setAttr (.ref x) name v) Q E s:=by
 obtain⟨od,J,hl⟩:=I.look
 refine PySem.W.set_plain X J hs (PySem.W.osa_open (s:={ s with toks:=s.toks+1}) (r:=none) X J hp ht fun b=>?_)
 obtain⟨cd,hc,hd'⟩:=PySem.W.any_some hh
 have hx:s.heap.get? x=some ⟨.ref C,some dx,.plain,#[]⟩:=I.obj
 refine wpAny_bind (wpAny_pure (wpAny_bind (wpAny_bind (wpAny_loadPart hx (wpAny_bind (PySem.W.Looks.here (s:={ s with toks:=s.toks+1}) (PySem.W.looks_clsIn X hc) ?_))))))
 rw[hd']
 refine wpAny_pure (a:=some dx) (wpAny_bind (wpAny_pure (wpAny_bind ?_)))
 refine wpAny_nsSet1 (s:={ s with toks:=s.toks+1}) I.ns fun h' hn2 hs2=>?_
 obtain⟨oD,esD,epD,hoD,hdD,hcD⟩:=hn2.count (PySem.Within.cons name v hw)
 refine wpAny_bind (wpAny_lookBehind hoD (by rw[hdD];exact pastItsLine_dict (Nat.le_trans hcD (by rw[List.length_cons];omega))) ?_)
 exact wpAny_pure (h _ ⟨(hs2.2 _ (Ne.symm I.ne)).trans I.obj,hn2,I.ne⟩ hs2)
theorem a44 {R:Result->Shared->Prop}{vs:List Value}{kw:List (Str×Value)}(X:K.In s.heap) (hm:PySem.W.makesIn K C=true)
  (hi:PySem.W.findIn K (.ref C) "__init__"=some (some (.ref f))) (hf:PySem.W.typeIn K (.ref f)=some (.type "function"))
  (h:codeAny (model prog w) (A.under (.builtin "type.__call__" ⟨.ref C::vs,kw⟩)) (.call (.ref f) ⟨.ref (s.heap.objs.size+1)::vs,kw⟩) (PySem.W.InitBack (s.heap.objs.size+1) R)
   { s with heap:=(s.heap.push PySem.W.emptyDict).push (PySem.W.instObj C s.heap.objs.size)}) :
  codeAny (model prog w) A (.call (.ref C) ⟨vs,kw⟩) R s:=by
 obtain⟨hh,g,d,t,os⟩:=s
 exact PySem.W.make_core (PySem.W.makes_of X hm) (PySem.W.looks_findIn X hi) (fun self=>PySem.W.bind_fn X self hf) (.inl rfl) h
end
noncomputable def zm (f:Str) (v:V):List (Str×V)->List (Str×V)
 |[]=>[(f,v)]
 |(g,x)::r=>if g=f then(g,v)::r else(g,x)::zm f v r
theorem W3 (f g:Str) (v:V):∀fs:List (Str×V),(zm f v fs).lookup g=if g=f then some v else fs.lookup g
 |[]=>by
  show List.lookup g [(f,v)]=_
  by_cases h:g=f
  ·have hb:(g==f)=true:=beq_iff_eq.mpr h
   simp only[List.lookup,hb,if_pos h]
  ·have hb:(g==f)=false:=beq_eq_false_iff_ne.mpr h
   simp only[List.lookup,hb,if_neg h]
 |(k,x)::r=>by
  have ih:=W3 f g v r
  rw[show zm f v ((k,x)::r)=(if k=f then(k,v)::r else(k,x)::zm f v r) from rfl]
  by_cases hk:k=f
  ·rw[if_pos hk]
   by_cases h:g=k
   ·have hb:(g==k)=true:=beq_iff_eq.mpr h
    simp only[List.lookup,hb,if_pos (h.trans hk)]
   ·have hb:(g==k)=false:=beq_eq_false_iff_ne.mpr h
    simp only[List.lookup,hb,if_neg (fun e:g=f=>h (e.trans hk.symm))]
  ·rw[if_neg hk]
   by_cases h:g=k
   ·have hb:(g==k)=true:=beq_iff_eq.mpr h
    simp only[List.lookup,hb,if_neg (fun e:g=f=>hk (h.symm.trans e))]
   ·have hb:(g==k)=false:=beq_eq_false_iff_ne.mpr h
    simp only[List.lookup,hb]
    exact ih
theorem wx (f:Str) (v:V):∀fs:List (Str×V),f∈(zm f v fs).map (·.1)/\∀g,g∈fs.map (·.1)->g∈(zm f v fs).map (·.1)
 |[]=>⟨by simp[zm],fun g h=>by simp at h⟩
 |(k,x)::r=>by
  obtain⟨i1,i2⟩:=wx f v r
  rw[show zm f v ((k,x)::r)=(if k=f then(k,v)::r else(k,x)::zm f v r) from rfl]
  by_cases hk:k=f
  ·rw[if_pos hk]
   subst hk
   exact⟨by simp,fun g h=>by simpa using h⟩
  ·rw[if_neg hk]
   refine⟨?_,fun g h=>?_⟩
   ·rw[List.map_cons]
    exact List.mem_cons_of_mem _ i1
   ·rw[List.map_cons] at h ⊢
    rcases List.mem_cons.mp h with e|e
    ·exact List.mem_cons.mpr (.inl e)
    ·exact List.mem_cons_of_mem _ (i2 g e)
theorem W4 (f:Str) (v:V):∀fs:List (Str×V),(zm f v fs).length<=fs.length+1
 |[]=>by simp[zm]
 |(k,x)::r=>by
  have ih:=W4 f v r
  rw[show zm f v ((k,x)::r)=(if k=f then(k,v)::r else(k,x)::zm f v r) from rfl]
  by_cases hk:k=f
  ·rw[if_pos hk,List.length_cons,List.length_cons];omega
  ·rw[if_neg hk,List.length_cons,List.length_cons];omega
theorem Zi.some_of {v:V}{o:Option Value}(r:Zi (some v) o):∃u,o=some u/\J3 v u:=by
 cases o with
 |none=>exact(show False from r).elim
 |some u=>exact⟨u,rfl,r⟩
theorem Zi.none_of {o:Option Value}(r:Zi none o):o=none:=by
 cases o with
 |none=>rfl
 |some u=>exact(show False from r).elim
theorem Kq {v:V}{u:Value}(r:J3 v u):PySem.W.handedIn u=true:=by
 cases v with
 |non=>cases(show u=Value.none from r);rfl
 |bl b=>cases(show u=Value.bool b from r);rfl
 |int i=>obtain⟨t,e⟩:=(show ∃t,u=Value.int i t from r);cases e;rfl
 |str x=>obtain⟨t,e⟩:=(show ∃t,u=Value.str x t from r);cases e;rfl
 |byt b=>obtain⟨t,e⟩:=(show ∃t,u=Value.bytes b t from r);cases e;rfl
 |flt b=>obtain⟨t,e⟩:=(show ∃t,u=Value.float b t from r);cases e;rfl
 |ref a=>cases(show u=Value.ref a from r);rfl
 |ty n=>cases(show u=Value.type n from r);rfl
section
variable {P:Program}{w:World}{H H':Hp}{h h':Heap}{a C dx:Addr}{fs fs':List (Str×V)}
theorem Wl (hok:HOk P w H h) (e:H a=some (.ins C dx fs)):∃mA,ObjM h a dx C mA/\(∀f,Zi (fs.lookup f) (mA f))/\PySem.Within mA (fs.map (·.1))/\fs.length<=1000/\H dx=some (.own a):=by
 obtain⟨d,z,ne,ob,mA,n,r,q⟩:=(show uw P w H h a (.ins C dx fs) from hok a _ e)
 exact⟨mA,⟨ob,n,ne⟩,r,q,z,d⟩
end
structure Cls (K:PySem.W.Frag) (C:Addr):Prop where
 pg:PySem.W.plainGet K C Str.empty=true
 hd:PySem.W.hasDictIn K C=true
 po:PySem.W.plainOver K C=true
 sa:PySem.W.findIn K (.ref C) "__setattr__"=some (some (.builtin "object.__setattr__"))
theorem Cls.get {K:PySem.W.Frag}{C:Addr}(c:Cls K C) (f:Str):PySem.W.plainGet K C f=true:=c.pg
noncomputable def zp (K:PySem.W.Frag) (C:Addr) (f:Str):Prop:=PySem.W.findIn K (.ref C) f=some none
theorem zp.taker {K:PySem.W.Frag}{C:Addr}{f:Str}(n:zp K C f):PySem.W.takerIn K C f=some none:=by
 unfold PySem.W.takerIn
 rw[show PySem.W.findIn K (.ref C) f=some none from n]
 rfl
structure Meth (K:PySem.W.Frag) (C:Addr) (m:Str) (f:Addr):Prop where
 at_:PySem.W.findIn K (.ref C) m=some (some (.ref f))
 fn:PySem.W.isFn K (.ref f)=true
 kp:PySem.W.keepIn K (.ref f)=true
section
variable {X:Cx}{pins:List (Addr×Obj)}{σ:St}{H:Hp}{s:Shared}{a C dx:Addr}{fs:List (Str×V)}{f:Str}{v:V}{A:Around}{E:Value->Shared->Prop}
theorem Vm {b:Bool}{Q:Value->Shared->Prop}(I:Inv X pins σ H s) (e:H a=some (.ins C dx fs)) (c:Cls X.K C) (n:zp X.K C f) (l:fs.lookup f=some v)
  (h:∀u s',Inv X pins σ H s'->J3 v u->Q u s'):wpAny (model X.prog X.w) A (getAttr (.ref a) f b) Q E s:=by
 obtain⟨mA,O,r,_,_,_⟩:=Wl I.hok e
 obtain⟨u,hu,ru⟩:=Zi.some_of (v:=v) (o:=mA f) (by rw[←l];exact r f)
 exact ag8 I.kIn O (c.get f) c.hd n hu (Kq ru) (h u _ (I.tok _) ru)
theorem Qk {m:Str}{g:Addr}{pl:Sem Bool}{Q:Value×List Value->Shared->Prop}(I:Inv X pins σ H s) (e:H a=some (.ins C dx fs)) (c:Cls X.K C) (k:Meth X.K C m g) (l:fs.lookup m=none)
  (h:Q (.ref g,[.ref a]) s):wpAny (model X.prog X.w) A (getMethod (.ref a) m pl) Q E s:=by
 obtain⟨mA,O,r,_,_,_⟩:=Wl I.hok e
 have hn:mA m=none:=Zi.none_of (by rw[←l];exact r m)
 exact a64 I.kIn O (c.get m) k.at_ k.fn hn h
theorem v9 {y:V}{u:Value}{Q:Unit->Shared->Prop}(I:Inv X pins σ H s) (e:H a=some (.ins C dx fs)) (c:Cls X.K C) (n:zp X.K C f) (hl:fs.length<1000) (ry:J3 y u)
  (h:∀s',Inv X pins σ (upd H a (.ins C dx (zm f y fs))) s'->Q () s'):wpAny (model X.prog X.w) A (setAttr (.ref a) f u) Q E s:=by
 obtain⟨mA,O,r,wi,_,ho⟩:=Wl I.hok e
 have hz:(fs.map (·.1)).length<=sizeLine:=by rw[List.length_map,sizeLine_eq];omega
 refine aa2 I.kIn O c.sa c.po n.taker c.hd wi hz fun h' O' sb=>h _ ?_
 have hd:∃o,h'.get? dx=some o:=let⟨o,_,_,e',_⟩:=O'.ns;⟨o,e'⟩
 refine I.write (x:=a) (e:=dx) (by rw[e];exact True.intro) (.inr ho) (fun b q hb z=>(sb.2 b hb).trans z) hd ?_
 refine⟨by rw[jz O.ne];exact ho,?_,O.ne,O'.obj,_,O'.ns,fun g=>?_,fun g hg=>?_⟩
 ·have:=W4 f y fs;omega
 ·show Zi ((zm f y fs).lookup g) (if g=f then some u else mA g)
  rw[W3]
  by_cases q:g=f
  ·rw[if_pos q,if_pos q];exact ry
  ·rw[if_neg q,if_neg q];exact r g
 ·by_cases q:g=f
  ·rw[q];exact(wx f y fs).1
  ·refine(wx f y fs).2 g (wi g fun z=>hg ?_)
   show(if g=f then some u else mA g)=none
   rw[if_neg q];exact z
theorem Inv.made (I:Inv X pins σ H s):Inv X pins σ (upd (upd H s.heap.objs.size (.own (s.heap.objs.size+1))) (s.heap.objs.size+1) (.ins C s.heap.objs.size []))
  { s with heap:=(s.heap.push PySem.W.emptyDict).push (PySem.W.instObj C s.heap.objs.size)}:=by
 have e1:(s.heap.push PySem.W.emptyDict).get? s.heap.objs.size=some PySem.W.emptyDict:=Heap.get?_push_size s.heap rfl
 have e2:((s.heap.push PySem.W.emptyDict).push (PySem.W.instObj C s.heap.objs.size)).get? (s.heap.objs.size+1)=some (PySem.W.instObj C s.heap.objs.size):=by
  have:=Heap.get?_push_size (s.heap.push PySem.W.emptyDict) (o:=PySem.W.instObj C s.heap.objs.size) rfl
  rwa [Heap.size_push] at this
 have e3:(s.heap.push PySem.W.emptyDict).Ns s.heap.objs.size (fun _=>none):=⟨PySem.W.emptyDict,#[],_,e1,rfl,(fun e he=>absurd he (by simp)),fun _=>rfl⟩
 have I1:=I.laid (a:=s.heap.objs.size) (o:=.own (s.heap.objs.size+1)) (h':=s.heap.push PySem.W.emptyDict) (t':=s.toks) (fun b u q=>Heap.get?_push_of_some _ q) (Nat.le_refl _) ⟨_,e1⟩
 refine I1.laid (a:=s.heap.objs.size+1) (o:=.ins C s.heap.objs.size []) (t':=s.toks) (fun b u q=>Heap.get?_push_of_some _ q) (Nat.le_of_eq (Heap.size_push _ _)) ?_
 have ne:s.heap.objs.size≠s.heap.objs.size+1:=Nat.ne_of_lt (Nat.lt_succ_self _)
 refine⟨by rw[jz ne,jt],Nat.zero_le _,ne,e2,fun _=>none,(Heap.Ns1.of_empty e3).at fun o q=>Heap.get?_push_of_some _ q,fun _=>True.intro,fun y hy=>absurd rfl hy⟩
theorem ba {prog:Program}{w:World}{env:Env}{e:Expr}{f:Str}{pos:Pos}{s:Shared}{Q:Value->Shared->Prop}(hb:attributeBase e f env (eval e env)=eval e env)
  (h:wpAny (model prog w) A (eval e env) (fun o s₁=>wpAny (model prog w) A (getAttr o f true) Q E s₁) E s):wpAny (model prog w) A (eval (.Attribute e f pos) env) Q E s :=
 Attribute_any_ h (by rw[arm_eval_Attribute,hb])
end
noncomputable def tFld (K:PySem.W.Frag) (ta:TE) (f:Str):TE:=fun σ H Q=>ta σ H fun x H1=>∃a C dx fs v,x=.ref a/\H1 a=some (.ins C dx fs)/\Cls K C/\zp K C f/\fs.lookup f=some v/\Q v H1
noncomputable def sFld (K:PySem.W.Frag) (ta tv:TE) (f:Str):TS:=fun D σ H=>tv σ H fun y H1=>ta σ H1 fun x H2=>∃a C dx fs,x=.ref a/\H2 a=some (.ins C dx fs)/\Cls K C/\zp K C f/\fs.length<1000 /\
 D.nx σ (upd H2 a (.ins C dx (zm f y fs)))
noncomputable def aH6 (X:Cx) (op:Operator) (rd:V->V->Hp->VK->Prop):Prop :=
 ∀(pins:List (Addr×Obj)) (s:Shared) (σ:St) (H:Hp) (x y:V) (u v:Value) (Q:VK),Inv X pins σ H s->J3 x u->J3 y v->rd x y H Q->wpAny (model X.prog X.w) X.A (inplaceOp op u v) (EP X pins σ Q) X.xe s
noncomputable def aa3 (K:PySem.W.Frag) (ta tv:TE) (rd:V->V->Hp->VK->Prop) (f:Str):TS:=fun D σ H=>ta σ H fun x H1=>∃a C dx fs v,x=.ref a/\H1 a=some (.ins C dx fs)/\Cls K C/\zp K C f/\fs.lookup f=some v /\
 tv σ H1 fun y H2=>rd v y H2 fun z H3=>∃dx' fs',H3 a=some (.ins C dx' fs')/\fs'.length<1000/\D.nx σ (upd H3 a (.ins C dx' (zm f z fs')))
section
variable {X:Cx}{o e value:Expr}{f:Str}{pos pos' tpos:Pos}{ta tv:TE}
theorem ar0 (he:PE X e ta) (hb:attributeBase e f X.env (eval e X.env)=eval e X.env):PE X (.Attribute e f pos) (tFld X.K ta f):=by
 intro pins s σ H Q I h
 refine ba hb (thn (he pins s σ H _ I h) fun u s1 ⟨x,H1,I1,rx,a,C,dx,fs,v,ex,ea,c,n,l,q⟩=>?_)
 subst ex
 obtain rfl:u=Value.ref a:=rx
 exact Vm I1 ea c n l fun u' s2 I2 ru=>⟨v,H1,I2,ru,q⟩
theorem aq0 (ha:PE X o ta) (hv:PE X value tv) (hs:swapsWith value (some (.Attribute o f pos')) pos.line X.env=pure false):PS X (.Assign [.Attribute o f pos'] value pos) (sFld X.K ta tv f):=by
 intro pins s σ H D I h
 refine plainObj_wpAny_Assign_Attribute (thn (hv pins s σ H _ I h) fun u s1 ⟨y,H1,I1,ry,q⟩=>thn (ha pins s1 σ H1 _ I1 q) fun ov s2 ⟨x,H2,I2,rx,a,C,dx,fs,ex,ea,c,n,l,q2⟩=>?_) hs
 subst ex
 obtain rfl:ov=Value.ref a:=rx
 exact v9 I2 ea c n l ry fun s3 I3=>⟨σ,_,I3,q2⟩
theorem Bw {op:Operator}{rd:V->V->Hp->VK->Prop}(ha:PE X o ta) (hv:PE X value tv) (hop:aH6 X op rd):PS X (.AugAssign (.Attribute o f tpos) op value pos) (aa3 X.K ta tv rd f):=by
 intro pins s σ H D I h
 refine wpAny_AugAssign_AttributeAny (thn (ha pins s σ H _ I h) fun ov s1 ⟨x,H1,I1,rx,a,C,dx,fs,v,ex,ea,c,n,l,q⟩=>?_)
 subst ex
 obtain rfl:ov=Value.ref a:=rx
 refine Vm I1 ea c n l fun u s2 I2 ru=>thn (hv pins s2 σ H1 _ I2 q) fun w3 s3 ⟨y,H2,I3,ry,q3⟩=>thn (hop pins s3 σ H2 v y u w3 _ I3 ru ry q3) fun w4 s4 ⟨z,H3,I4,rz,dx',fs',ea',l',q4⟩=>?_
 exact v9 I4 ea' c n l' rz fun s5 I5=>⟨σ,_,I5,q4⟩
noncomputable def rAdd:V->V->Hp->VK->Prop:=fun x y H Q=>∃i j,x=.int i/\y=.int j/\Q (.int (i+j)) H
theorem a59:aH6 X .Add rAdd:=by
 rintro pins s σ H x y u v Q I rx ry ⟨i,j,rfl,rfl,q⟩
 obtain⟨t,rfl⟩:=(show ∃t,u=Value.int i t from rx)
 obtain⟨t',rfl⟩:=(show ∃t',v=Value.int j t' from ry)
 exact PyProof.Rows.iadd_int ⟨.int (i+j),H,I.tok _,⟨_,rfl⟩,q⟩
theorem ak9 {pl:Sem Bool}{m:Str}{apos:Pos}{args:List Expr}{pins:List (Addr×Obj)}{s:Shared}{σ:St}{H:Hp}{Q:Value->Shared->Prop}{te:TE}(he:PE X e te) (I:Inv X pins σ H s)
  (h:te σ H fun x H1=>∃a C dx fs g,x=.ref a/\H1 a=some (.ins C dx fs)/\Cls X.K C/\Meth X.K C m g/\fs.lookup m=none /\
   ∀s1,Inv X pins σ H1 s1->wpAny (model X.prog X.w) X.A (callWith pos (.ref g) [.ref a] (backTo pos (starEach args X.env)) (backToKw pos (keywordEach [] X.env))) Q X.xe s1)
  (ht:eval (.Call (.Attribute e m apos) args [] pos) X.env=(do
   let ov ←eval e X.env
   standAt apos.atName
   let(f,first) ←holding [ov] (getMethod ov m pl)
   callWith pos f first (backTo pos (starEach args X.env)) (backToKw pos (keywordEach [] X.env)))) :
  wpAny (model X.prog X.w) X.A (eval (.Call (.Attribute e m apos) args [] pos) X.env) Q X.xe s:=by
 refine PySem.W.methodCall_KW (pl:=pl) (thn (he pins s σ H _ I h) fun u s1 ⟨x,H1,I1,rx,a,C,dx,fs,g,ex,ea,c,k,l,q⟩=>?_) ht
 subst ex
 obtain rfl:u=Value.ref a:=rx
 exact Qk I1 ea c k l (q s1 I1)
end
section
variable {X:Cx}{pins:List (Addr×Obj)}{σ:St}{H:Hp}{s:Shared}{A:Around}{E:Value->Shared->Prop}{Q:Value->Shared->Prop}{c:Value}{b:Bool}
inductive TyOf (K:PySem.W.Frag) (H:Hp):V->Value->Prop where
 |non:TyOf K H .non (.type "NoneType")
 |bl (x:Bool):TyOf K H (.bl x) (.type "bool")
 |int (i:Int):TyOf K H (.int i) (.type "int")
 |str (x:Str):TyOf K H (.str x) (.type "str")
 |flt (x:UInt64):TyOf K H (.flt x) (.type "float")
 |lst {a:Addr}{xs:List V}(e:H a=some (.lst xs)):TyOf K H (.ref a) (.type "list")
 |frz {a:Addr}{o:Obj}{xs:List V}(e:H a=some (.frz o (.lst xs))):TyOf K H (.ref a) (.type "list")
 |tup {a:Addr}{xs:List V}(e:H a=some (.tup xs)):TyOf K H (.ref a) (.type "tuple")
 |dK {a:Addr}{kvs:List (Key×V)}(e:H a=some (.dK kvs)):TyOf K H (.ref a) (.type "dict")
 |dT {a:Addr}{kvs:List (List Key×V)}(e:H a=some (.dT kvs)):TyOf K H (.ref a) (.type "dict")
 |ins {a C dx:Addr}{fs:List (Str×V)}(e:H a=some (.ins C dx fs)) (cl:Cls K C) (ha:PySem.W.findIn K (.ref C) "__class__"=some (some (.builtin "object.__class__")))
   (hn:PySem.W.specialIn K (.builtin "object.__class__") "__get__"=some (some (.builtin "getset_descriptor.__get__"))) (htk:PySem.W.takesIn K (.builtin "object.__class__")=some true)
   (hm:PySem.W.mroIn K C (.type "object")=some true):TyOf K H (.ref a) (.ref C)
theorem zk {x:V}{u t:Value}(I:Inv X pins σ H s) (rx:J3 x u) (ty:TyOf X.K H x t) (e:PySem.W.kitOne X.K t c=some b) (h:∀tk,Q (.bool b) { s with toks:=tk}) :
  wpAny (model X.prog X.w) A (call (.builtin "isinstance") [u,c]) Q E s:=by
 cases ty with
 |non=>cases(show u=Value.none from rx);exact PySem.W.kia_one PySem.W.kitx_none I.kIn True.intro e (fun z=>nomatch z) h
 |bl y=>cases(show u=Value.bool y from rx);exact PySem.W.kia_one PySem.W.kitx_bool I.kIn True.intro e (fun z=>nomatch z) h
 |int i=>obtain⟨t,q⟩:=(show ∃t,u=Value.int i t from rx);cases q;exact PySem.W.kia_one PySem.W.kitx_int I.kIn True.intro e (fun z=>nomatch z) h
 |str y=>obtain⟨t,q⟩:=(show ∃t,u=Value.str y t from rx);cases q;exact PySem.W.kia_one PySem.W.kitx_str I.kIn True.intro e (fun z=>nomatch z) h
 |flt y=>obtain⟨t,q⟩:=(show ∃t,u=Value.float y t from rx);cases q;exact PySem.W.kia_one PySem.W.kitx_float I.kIn True.intro e (fun z=>nomatch z) h
 | @lst a xs ea =>
  cases(show u=Value.ref a from rx)
  obtain⟨_,_,n,_,h1⟩:=(show uw X.prog X.w H s.heap a (.lst xs) from I.hok a _ ea)
  exact PySem.W.kia_one PySem.W.kitx_list I.kIn ⟨_,h1,rfl⟩ e (fun z=>nomatch z) h
 | @frz a ob xs ea =>
  cases(show u=Value.ref a from rx)
  obtain⟨_,_,_,n,_,h1⟩:=(show uw X.prog X.w H s.heap a (.frz ob (.lst xs)) from I.hok a _ ea)
  exact PySem.W.kia_one PySem.W.kitx_list I.kIn ⟨_,h1,rfl⟩ e (fun z=>nomatch z) h
 | @tup a xs ea =>
  cases(show u=Value.ref a from rx)
  obtain⟨_,_,_,p⟩:=(show uw X.prog X.w H s.heap a (.tup xs) from I.hok a _ ea)
  obtain⟨o,h1,h2,_⟩:=p
  exact PySem.W.kia_one PySem.W.kitx_tuple I.kIn ⟨o,h1,h2⟩ e (fun z=>nomatch z) h
 | @dK a kvs ea =>
  cases(show u=Value.ref a from rx)
  obtain⟨_,_,vs,_,p⟩:=(show uw X.prog X.w H s.heap a (.dK kvs) from I.hok a _ ea)
  obtain⟨o,es,ep,h1,h2,_⟩:=p
  exact PySem.W.kia_one PySem.W.kitx_dict I.kIn ⟨o,h1,h2.1⟩ e (fun z=>nomatch z) h
 | @dT a kvs ea =>
  cases(show u=Value.ref a from rx)
  obtain⟨_,_,xs,_,o,es,ep,h1,h2,_⟩:=(show uw X.prog X.w H s.heap a (.dT kvs) from I.hok a _ ea)
  exact PySem.W.kia_one PySem.W.kitx_dict I.kIn ⟨o,h1,h2.1⟩ e (fun z=>nomatch z) h
 | @ins a C dx fs ea cl ha hn htk hm =>
  cases(show u=Value.ref a from rx)
  obtain⟨mA,O,_⟩:=Wl I.hok ea
  obtain⟨od,J,_⟩:=O.look
  exact PySem.W.kia_one (PySem.W.kitx_own (cl.get _) cl.hd ha hn htk hm) I.kIn J e (fun z=>nomatch z) h
end
structure Room (k:Nat) (A:Around):Prop where
 hd:A.handled=none
 dp:A.depth+3*k+5<recursionLimit
 un:A.units+16*k+200<cLine
theorem Room.mono {j k:Nat}{A:Around}(r:Room k A) (h:j<=k):Room j A:=⟨r.hd,by have:=r.dp;omega,by have:=r.un;omega⟩
theorem Room.deeper {k:Nat}{A:Around}(r:Room (k+1) A) (env:Env):Room k (A.deeper env) :=
 ⟨r.hd,by have:=r.dp;show A.depth+1+3*k+5<_;omega,by have:=r.un;show A.units+3+16*k+200<_;omega⟩
theorem De {A:Around}{C:Addr}{us:List Value}{kw:List (Str×Value)}:(A.under (.builtin "type.__call__" ⟨.ref C::us,kw⟩)).depth=A.depth+1:=by
 first|rfl|simp[Around.under,Code.weight,Code.isCreation,Code.isGuard,Code.isCaller,Code.frames,Code.isFrame,guardIds]
theorem Df {A:Around}{C:Addr}{us:List Value}{kw:List (Str×Value)}:(A.under (.builtin "type.__call__" ⟨.ref C::us,kw⟩)).units=A.units+1:=by
 first|rfl|simp[Around.under,Code.cUnits,Code.frames,Code.isFrame]
theorem Room.make {k:Nat}{A:Around}(r:Room (k+1) A) (C:Addr) (us:List Value) (kw:List (Str×Value)):Room k (A.under (.builtin "type.__call__" ⟨.ref C::us,kw⟩)) :=
 ⟨r.hd,by have:=r.dp;rw[De];omega,by have:=r.un;rw[Df];omega⟩
theorem Room.depth {k:Nat}{A:Around}(r:Room k A):A.depth<recursionLimit:=by have:=r.dp;omega
noncomputable def ao6:TA:=fun _ H Q=>Q [] H
noncomputable def aA0 (ta:TE) (tr:TA):TA:=fun σ H Q=>ta σ H fun x H1=>tr σ H1 fun xs H2=>Q (x::xs) H2
section
variable {X:Cx}{e:Expr}{es:List Expr}{te:TE}{t:TA}{pos:Pos}
theorem Qw:PA X [] ao6:=fun _ _ _ _ H Q I h=>Calls.spliced_nil ⟨[],H,I,.nil,h⟩
theorem Ua (ha:PE X e te) (hr:PA X es t) (hs:starEach (e::es) X.env=(false,eval e X.env)::starEach es X.env:=by rfl):PA X (e::es) (aA0 te t):=by
 intro pos pins s σ H Q I h
 rw[hs]
 show wpAny _ _ (spliced ((false,eval e X.env)::backTo pos (starEach es X.env))) _ _ s
 refine Calls.spliced_cons (thn (ha pins s σ H _ I h) fun u s1 ⟨x,H1,I1,r1,q1⟩=>?_)
 exact thn (hr pos pins s1 σ H1 _ I1 q1) fun us s2 ⟨xs,H2,I2,r2,q2⟩=>⟨x::xs,H2,I2,.cons r1 r2,q2⟩
noncomputable def tTup (t:TA):TE:=fun σ H Q=>t σ H fun xs H1=>xs.length<=sizeLine/\∀p,H1 p=none->Q (.ref p) (upd H1 p (.tup xs))
noncomputable def tLst (t:TA):TE:=fun σ H Q=>t σ H fun xs H1=>xs.length<=sizeLine/\∀p,H1 p=none->Q (.ref p) (upd H1 p (.lst xs))
theorem aq4 {x1} (h:PA X es t):PE X (.Tuple es x1 pos) (tTup t):=by
 intro pins s σ H Q I hq
 refine wpAny_Tuple_spliced (thn (h pos pins s σ H _ I hq) fun us s1 ⟨xs,H1,I1,r,z,q⟩=>⟨by rw[←r.length];exact z,?_⟩)
 have hf:H1 s1.heap.objs.size=none:=I1.hok.fresh (Nat.le_refl _)
 refine⟨.ref s1.heap.objs.size,upd H1 s1.heap.objs.size (.tup xs),I1.laid (t':=s1.toks) (fun b u e=>Heap.get?_push_of_some _ e) (Nat.le_refl _) ?_,rfl,q _ hf⟩
 exact⟨z,us,r,⟨_,Heap.get?_push_size _ rfl,rfl,_,rfl⟩⟩
theorem a12 (h:PA X es t):PE X (.List es pos) (tLst t):=by
 intro pins s σ H Q I hq
 refine wpAny_List_spliced (thn (h pos pins s σ H _ I hq) fun us s1 ⟨xs,H1,I1,r,z,q⟩=>⟨by rw[←r.length];exact z,?_⟩)
 have hf:H1 s1.heap.objs.size=none:=I1.hok.fresh (Nat.le_refl _)
 refine⟨.ref s1.heap.objs.size,upd H1 s1.heap.objs.size (.lst xs),I1.laid (t':=s1.toks) (fun b u e=>Heap.get?_push_of_some _ e) (Nat.le_refl _) ?_,rfl,q _ hf⟩
 exact⟨z,us,0,r,Heap.get?_push_size _ rfl⟩
end
noncomputable abbrev Sp:=List V->Hp->VK->XK->Prop
noncomputable abbrev CXT:=List Env->Hp->Shared->XK->Value->Shared->Prop
structure Env0 (P:Program) (w:World) (K:PySem.W.Frag) (mg:Str->Option Value) (base:Heap) (A:Around) (outer:List Env) (s:Shared) (H:Hp):Prop where
 frames:A.frames=some outer
 mod:Mod K mg base
 bs:∀b o,base.get? b=some o->s.heap.get? b=some o/\H b=none
 bsz:base.objs.size<=s.heap.objs.size
 funs:s.heap.FunFrames base outer
 frf:∀b∈frs outer,H b=none
 hok:HOk P w H s.heap
 bare:AllBare s.gens
noncomputable def CE (outer:List Env) (P:Program) (w:World) (H:Hp) (s:Shared) (Q:VK) (u:Value) (s':Shared):Prop :=
 ∃v H',s'.os=s.os/\AllBare s'.gens/\Un (frs outer) [] H H' s.heap s'.heap/\HOk P w H' s'.heap/\J3 v u/\Q v H'
noncomputable def CR (CX:CXT) (outer:List Env) (P:Program) (w:World) (H:Hp) (s:Shared) (Q:VK) (E:XK) (r:Result) (s':Shared):Prop :=
 match r with
 |.ok (.ret u)=>CE outer P w H s Q u s'
 |.ok _=>False
 |.error e=>CX outer H s E e s'
structure FnOk (P:Program) (w:World) (K:PySem.W.Frag) (mg:Str->Option Value) (base:Heap) (CX:CXT) (k:Nat) (f:Addr) (fd:FuncData) (ps:List Str) (sp:Sp):Prop where
 len:∀vs H Q E,sp vs H Q E->vs.length=ps.length
 run:∀(A:Around) (outer:List Env) (s:Shared) (H:Hp) (args:Args) (us:List Value) (vs:List V) (Q:VK) (E:XK),Room k A->Env0 P w K mg base A outer s H->BindsTo s fd args (ps.zip us)->J8 vs us->sp vs H Q E ->
  codeAny (model P w) A (.call (.ref f) args) (CR CX outer P w H s Q E) s
theorem Env0.make {P:Program}{w:World}{K:PySem.W.Frag}{mg:Str->Option Value}{base:Heap}{A:Around}{outer:List Env}{s:Shared}{H:Hp}(e:Env0 P w K mg base A outer s H) (C:Addr) (us:List Value) (kw:List (Str×Value)) :
  Env0 P w K mg base (A.under (.builtin "type.__call__" ⟨.ref C::us,kw⟩)) outer s H:=⟨by first|exact e.frames|(simpa[Around.under,Code.envs,Code.isFrame,pushEnvs] using e.frames),e.mod,e.bs,e.bsz,e.funs,e.frf,e.hok,e.bare⟩
section
variable {X:Cx}{pins:List (Addr×Obj)}{σ:St}{H:Hp}{s s':Shared}
theorem Inv.env0 (I:Inv X pins σ H s):Env0 X.prog X.w X.K X.mg X.base X.A X.stack s H :=
 ⟨I.ok.frames,I.ok.mod,I.bs,Nat.le_trans I.ok.bsz I.sz,I.stack,I.stkFree,I.hok,I.bare⟩
theorem Inv.after {Q:VK}{u:Value}(I:Inv X pins σ H s) (h:CE X.stack X.prog X.w H s Q u s'):EP X pins σ Q u s':=by
 obtain⟨v,H',os,bare,un,hok,r,q⟩:=h
 obtain⟨hh,g,d,t,os'⟩:=s'
 obtain rfl:os'=s.os:=os
 exact⟨v,H',I.call (h':=hh) (g':=g) (d':=d) (t':=t) (ch:=[]) un hok bare (fun b z=>absurd z (by simp)),r,q⟩
end
noncomputable def aj9 (sp:Sp) (dvs:List V) (E:XK) (t:TA):TE:=fun σ H Q=>t σ H fun vs H1=>sp (vs++dvs) H1 Q E
noncomputable def aj8 (C:Addr) (m:Str) (sp:Sp) (dvs:List V) (E:XK) (ta:TE) (t:TA):TE:=fun σ H Q=>ta σ H fun x H1=>∃a dx fs,x=.ref a/\H1 a=some (.ins C dx fs)/\fs.lookup m=none /\
 t σ H1 fun vs H2=>sp (x::(vs++dvs)) H2 Q E
noncomputable def az5 (C:Addr) (sp:Sp) (dvs:List V) (E:XK) (t:TA):TE:=fun σ H Q=>t σ H fun vs H1=>∀x dx,H1 x=none->H1 dx=none->dx≠x ->
 sp (.ref x::(vs++dvs)) (upd (upd H1 dx (.own x)) x (.ins C dx [])) (fun v H2=>v=.non/\Q (.ref x) H2) E
noncomputable def z8 (K:PySem.W.Frag) (fd:FuncData) (ps:List Str) (ds:List Value):Prop :=
 ∀(s:Shared) (us:List Value),K.In s.heap->(us++ds).length=ps.length->BindsTo s fd ⟨us,[]⟩ (ps.zip (us++ds))
theorem z8.all {K:PySem.W.Frag}{fd:FuncData}{ps:List Str}(h:∀us:List Value,us.length=ps.length->bindArgs fd ⟨us,[]⟩=pure (ps.zip us)):z8 K fd ps []:=fun s us _ hl=>by
 rw[List.append_nil] at hl ⊢
 exact .of_eq (h us hl)
noncomputable def Uy (CX:CXT) (X:Cx) (E:XK):Prop:=∀(pins:List (Addr×Obj)) (σ:St) (H:Hp) (s:Shared) (e:Value) (s':Shared),Inv X pins σ H s->CX X.stack H s E e s'->X.xe e s'
section
variable {X:Cx}{CX:CXT}{k:Nat}{f C:Addr}{fd:FuncData}{ps:List Str}{sp:Sp}{dvs:List V}{ds:List Value}{E:XK}{x m:Str}{p pos apos:Pos}{e o:Expr}{es:List Expr}{ta:TE}{t:TA}
theorem G0 {pins:List (Addr×Obj)}{σ:St}{H:Hp}{s:Shared}{Q:VK}{us:List Value}{vs:List V}(F:FnOk X.prog X.w X.K X.mg X.base CX k f fd ps sp) (hr:Room k X.A) (hb:z8 X.K fd ps ds) (hd:J8 dvs ds) (hx:Uy CX X E)
  (I:Inv X pins σ H s) (r:J8 vs us) (h:sp (vs++dvs) H Q E):wpAny (model X.prog X.w) X.A (call (.ref f) us) (EP X pins σ Q) X.xe s:=by
 have r2:J8 (vs++dvs) (us++ds):=r.append hd
 have hl:(us++ds).length=ps.length:=by rw[←r2.length];exact F.len _ _ _ _ h
 refine wpAny_call (codeAny_mono (F.run X.A X.stack s H ⟨us,[]⟩ (us++ds) (vs++dvs) Q E hr I.env0 (hb s us I.kIn hl) r2 h) fun r s' hq=>?_)
 cases r with
 |error e=>exact hx pins σ H s e s' I hq
 |ok fl =>
  cases fl with
  |ret u=>exact I.after hq
  |next=>exact False.elim hq
  |brk=>exact False.elim hq
  |cont=>exact False.elim hq
theorem Cv (F:FnOk X.prog X.w X.K X.mg X.base CX k f fd ps sp) (hr:Room k X.A) (hg:Gl X x) (hm:X.mg x=some (.ref f)) (hk:PySem.W.keepIn X.K (.ref f)=true) (hb:z8 X.K fd ps ds) (hd:J8 dvs ds) (hx:Uy CX X E)
  (ha:PA X (e::es) t) (hdb:(x==("__debug__":Str))=false:=by decide) (he:starEach (e::es) X.env=(false,eval e X.env)::starEach es X.env:=by rfl) (hpl:(backTo pos (starEach es X.env)).any (·.1)=false:=by rfl) :
  PE X (.Call (.Name x p) (e::es) [] pos) (aj9 sp dvs E t):=by
 intro pins s σ H Q I h
 refine wpAny_Call_Name_kw (y4 I hg hm ?_ hdb)
 refine PySem.W.callWith_K (h₀:=X.base) I.ok.mod.kin hk (thn (ha pos pins s σ H _ I h) fun us s1 ⟨vs,H1,I1,r,q⟩=>⟨I1.kIn,?_⟩) he hpl
 exact G0 F hr hb hd hx I1 r q
theorem a16 (F:FnOk X.prog X.w X.K X.mg X.base CX k f fd ps sp) (hr:Room k X.A) (hg:Gl X x) (hm:X.mg x=some (.ref f)) (hk:PySem.W.keepIn X.K (.ref f)=true) (hb:z8 X.K fd ps ds) (hd:J8 dvs ds) (hx:Uy CX X E)
  (hdb:(x==("__debug__":Str))=false:=by decide):PE X (.Call (.Name x p) [] [] pos) (aj9 sp dvs E ao6):=by
 intro pins s σ H Q I h
 refine wpAny_Call_Name_kw (y4 I hg hm ?_ hdb)
 exact PySem.W.callWith_K0 I.kIn hk (G0 (us:=[]) F hr hb hd hx I .nil h)
theorem Cy {pl:Sem Bool}(he:PE X o ta) (c:Cls X.K C) (hm:Meth X.K C m f) (F:FnOk X.prog X.w X.K X.mg X.base CX k f fd ps sp) (hr:Room k X.A) (hb:z8 X.K fd ps ds) (hd:J8 dvs ds) (hx:Uy CX X E) (ha:PA X (e::es) t)
  (hst:starEach (e::es) X.env=(false,eval e X.env)::starEach es X.env:=by rfl) (hpl:(backTo pos (starEach es X.env)).any (·.1)=false:=by rfl)
  (ht:eval (.Call (.Attribute o m apos) (e::es) [] pos) X.env=(do
   let ov ←eval o X.env
   standAt apos.atName
   let(f,first) ←holding [ov] (getMethod ov m pl)
   callWith pos f first (backTo pos (starEach (e::es) X.env)) (backToKw pos (keywordEach [] X.env))):=by rfl) :
  PE X (.Call (.Attribute o m apos) (e::es) [] pos) (aj8 C m sp dvs E ta t):=by
 intro pins s σ H Q I h
 refine PySem.W.methodCall_KW (pl:=pl) (thn (he pins s σ H _ I h) fun u s1 ⟨x,H1,I1,rx,a,dx,fs,ex,ea,l,q⟩=>?_) ht
 subst ex
 obtain rfl:u=Value.ref a:=rx
 refine Qk I1 ea c hm l ?_
 refine PySem.W.callWith_K (first:=[.ref a]) (h₀:=X.base) I.ok.mod.kin hm.kp (thn (ha pos pins s1 σ H1 _ I1 q) fun us s2 ⟨vs,H2,I2,r,q2⟩=>⟨I2.kIn,?_⟩) hst hpl
 exact G0 (us:=.ref a::us) (vs:=.ref a::vs) F hr hb hd hx I2 (.cons rfl r) q2
theorem Fd {pl:Sem Bool}(he:PE X o ta) (c:Cls X.K C) (hm:Meth X.K C m f) (F:FnOk X.prog X.w X.K X.mg X.base CX k f fd ps sp) (hr:Room k X.A) (hb:z8 X.K fd ps ds) (hd:J8 dvs ds) (hx:Uy CX X E)
  (ht:eval (.Call (.Attribute o m apos) [] [] pos) X.env=(do
   let ov ←eval o X.env
   standAt apos.atName
   let(f,first) ←holding [ov] (getMethod ov m pl)
   callWith pos f first (backTo pos (starEach [] X.env)) (backToKw pos (keywordEach [] X.env))):=by rfl) :
  PE X (.Call (.Attribute o m apos) [] [] pos) (aj8 C m sp dvs E ta ao6):=by
 intro pins s σ H Q I h
 refine PySem.W.methodCall_KW (pl:=pl) (thn (he pins s σ H _ I h) fun u s1 ⟨x,H1,I1,rx,a,dx,fs,ex,ea,l,q⟩=>?_) ht
 subst ex
 obtain rfl:u=Value.ref a:=rx
 refine Qk I1 ea c hm l ?_
 exact PySem.W.callWith_K0 (first:=[.ref a]) I1.kIn hm.kp (G0 (us:=[.ref a]) (vs:=[.ref a]) F hr hb hd hx I1 (.cons rfl .nil) q)
structure Mk (K:PySem.W.Frag) (C f:Addr):Prop where
 makes:PySem.W.makesIn K C=true
 init:PySem.W.findIn K (.ref C) "__init__"=some (some (.ref f))
 fn:PySem.W.isFn K (.ref f)=true
 kp:PySem.W.keepIn K (.ref C)=true
theorem a01 {pins:List (Addr×Obj)}{σ:St}{H:Hp}{s:Shared}{Q:VK}{us:List Value}{vs:List V}(M:Mk X.K C f) (F:FnOk X.prog X.w X.K X.mg X.base CX k f fd ps sp) (hr:Room (k+1) X.A) (hb:z8 X.K fd ps ds) (hd:J8 dvs ds)
  (hx:Uy CX X E) (I:Inv X pins σ H s) (r:J8 vs us)
  (h:∀x dx,H x=none->H dx=none->dx≠x->sp (.ref x::(vs++dvs)) (upd (upd H dx (.own x)) x (.ins C dx [])) (fun v H2=>v=.non/\Q (.ref x) H2) E) :
  wpAny (model X.prog X.w) X.A (call (.ref C) us) (EP X pins σ Q) X.xe s:=by
 have hq:=h (s.heap.objs.size+1) s.heap.objs.size (I.hok.fresh (Nat.le_succ _)) (I.hok.fresh (Nat.le_refl _)) (Nat.ne_of_lt (Nat.lt_succ_self _))
 have I2:=Inv.made (C:=C) I
 have r2:J8 (V.ref (s.heap.objs.size+1)::(vs++dvs)) (Value.ref (s.heap.objs.size+1)::(us++ds)):=.cons rfl (r.append hd)
 have hl:(Value.ref (s.heap.objs.size+1)::us++ds).length=ps.length:=by
  have e:=r2.length
  rw[F.len _ _ _ _ hq] at e
  exact e.symm
 refine wpAny_call (a44 (f:=f) I.kIn M.makes M.init (beq_iff_eq.mp M.fn) (codeAny_mono (F.run _ X.stack _ _ ⟨Value.ref (s.heap.objs.size+1)::us,[]⟩ (Value.ref (s.heap.objs.size+1)::(us++ds)) _ _ E (hr.make C us [])
  (I2.env0.make C us []) (hb _ (Value.ref (s.heap.objs.size+1)::us) I2.kIn hl) r2 hq) fun r s' hq'=>?_))
 cases r with
 |error e=>exact hx pins σ _ _ e s' I2 hq'
 |ok fl =>
  cases fl with
  |ret u =>
   obtain⟨v,H',I3,rv,ev,q3⟩:=I2.after hq'
   subst ev
   exact⟨rv,⟨V.ref (s.heap.objs.size+1),H',I3,rfl,q3⟩⟩
  |next=>exact False.elim hq'
  |brk=>exact False.elim hq'
  |cont=>exact False.elim hq'
theorem ab9 (M:Mk X.K C f) (F:FnOk X.prog X.w X.K X.mg X.base CX k f fd ps sp) (hr:Room (k+1) X.A) (hg:Gl X x) (hm:X.mg x=some (.ref C)) (hb:z8 X.K fd ps ds) (hd:J8 dvs ds) (hx:Uy CX X E)
  (ha:PA X (e::es) t) (hdb:(x==("__debug__":Str))=false:=by decide) (he:starEach (e::es) X.env=(false,eval e X.env)::starEach es X.env:=by rfl) (hpl:(backTo pos (starEach es X.env)).any (·.1)=false:=by rfl) :
  PE X (.Call (.Name x p) (e::es) [] pos) (az5 C sp dvs E t):=by
 intro pins s σ H Q I h
 refine wpAny_Call_Name_kw (y4 I hg hm ?_ hdb)
 refine PySem.W.callWith_K (h₀:=X.base) I.ok.mod.kin M.kp (thn (ha pos pins s σ H _ I h) fun us s1 ⟨vs,H1,I1,r,q⟩=>⟨I1.kIn,?_⟩) he hpl
 exact a01 M F hr hb hd hx I1 r q
end
section
variable {X:Cx}{CX:CXT}{k:Nat}{f C:Addr}{fd:FuncData}{ps ks:List Str}{sp:Sp}{E:XK}{x m:Str}{p pos apos kpos:Pos}{e o:Expr}{es:List Expr}{kws:List Keyword}{te ta:TE}{t tk:TA}{nm:Option Str}
variable {g:List Value->List Value->List Value}{gV:List V->List V->List V}
end
structure FnScope (N P:List Str) (sc:Scope):Prop where
 kind:sc.kind=.function
 co:sc.isCoroutine=false
 gen:sc.isGenerator=false
 nd:N.Nodup
 pre:N.take P.length=P
 par:∀x∈P,sc.names.lookup x=some .local\/sc.names.lookup x=some .cell
 nofree:∀y∈sc.names,y.2≠.free
theorem Kc {kindOf:Str->Option NameKind}{x:Str}:∀{binds:List (Str×Value)}{m:Str->Option Value},(∀v,(x,v)∉binds)->bindL kindOf binds m x=m x
 |[],_,_=>rfl
 |(n,v)::r,m,h=>by
  unfold bindL
  rw[Kc fun w hw=>h w (List.mem_cons_of_mem _ hw)]
  split
  ·have:x≠n:=by rintro rfl;exact h v List.mem_cons_self
   simp[this]
  ·rfl
theorem Ka {kindOf:Str->Option NameKind}{x:Str}:∀{binds:List (Str×Value)}{m:Str->Option Value},(∀v,(x,v)∉binds)->bindC kindOf binds m x=m x
 |[],_,_=>rfl
 |(n,v)::r,m,h=>by
  unfold bindC
  rw[Ka fun w hw=>h w (List.mem_cons_of_mem _ hw)]
  split
  ·rfl
  ·have:x≠n:=by rintro rfl;exact h v List.mem_cons_self
   simp[this]
theorem Kb {kindOf:Str->Option NameKind}{x:Str}{v:Value}:∀{P:List Str}{vs:List Value}{i:Nat}{m:Str->Option Value},P.Nodup->P[i]? =some x->vs[i]? =some v->kindOf x=some .local ->
  bindL kindOf (P.zip vs) m x=some v
 |[],_,_,_,_,h,_,_=>by simp at h
 |_::_,[],_,_,_,_,h,_=>by simp at h
 |p::P,w::vs,0,m,nd,h1,h2,hk=>by
  simp at h1 h2;subst h1;subst h2
  show bindL kindOf ((p,w)::P.zip vs) m p=_
  unfold bindL
  rw[Kc fun v hv=>(List.nodup_cons.mp nd).1 (List.of_mem_zip hv).1,if_pos hk]
  simp
 |p::P,w::vs,i+1,m,nd,h1,h2,hk=>by
  show bindL kindOf ((p,w)::P.zip vs) m x=_
  unfold bindL
  exact Kb (i:=i) (List.nodup_cons.mp nd).2 (by simpa using h1) (by simpa using h2) hk
theorem g7 {kindOf:Str->Option NameKind}{x:Str}{v:Value}:∀{P:List Str}{vs:List Value}{i:Nat}{m:Str->Option Value},P.Nodup->P[i]? =some x->vs[i]? =some v->kindOf x≠some .local ->
  bindC kindOf (P.zip vs) m x=some v
 |[],_,_,_,_,h,_,_=>by simp at h
 |_::_,[],_,_,_,_,h,_=>by simp at h
 |p::P,w::vs,0,m,nd,h1,h2,hk=>by
  simp at h1 h2;subst h1;subst h2
  show bindC kindOf ((p,w)::P.zip vs) m p=_
  unfold bindC
  rw[Ka fun v hv=>(List.nodup_cons.mp nd).1 (List.of_mem_zip hv).1,if_neg hk]
  simp
 |p::P,w::vs,i+1,m,nd,h1,h2,hk=>by
  show bindC kindOf ((p,w)::P.zip vs) m x=_
  unfold bindC
  exact g7 (i:=i) (List.nodup_cons.mp nd).2 (by simpa using h1) (by simpa using h2) hk
noncomputable def start (N:List Str) (vs:List V):St:=vs.map some++List.replicate (N.length-vs.length) none
noncomputable def uv (CX:CXT) (P:Program) (w:World) (K:PySem.W.Frag) (mg:Str->Option Value) (base:Heap) (N:List Str) (qual:Str) (scope:Scope) (f:Addr) (cd:Value) (A:Around) (outer:List Env) (s:Shared) (H:Hp) (E:XK):Cx where
 prog:=P
 w:=w
 K:=K
 mg:=mg
 base:=base
 A:=A.deeper (envOfC qual scope s.heap.objs.size f cd)
 N:=N
 s₀:=s
 H₀:=H
 env:=envOfC qual scope s.heap.objs.size f cd
 outer:=outer
 stack:=envOfC qual scope s.heap.objs.size f cd::outer
 ex:=[]
 calm:=true
 fn:=fun _=>true
 pn:=[]
 xe:=fun e s'=>wpAny (model P w) (A.deeper (envOfC qual scope s.heap.objs.size f cd)) (leaving (envOfC qual scope s.heap.objs.size f cd) e) (fun _ s''=>CX outer H s E e s'') (fun e' s''=>CX outer H s E e' s'') s'
theorem Ei {sc:Scope}{n:Nat}{x:Str}(h:sc.names.lookup x=some .cell):∃c,(cellsFrom n sc.names []).lookup x=some c:=by
 have q:=PySem.W.cellsFrom_some sc.names n [] (.inl h)
 exact Option.isSome_iff_exists.mp q
theorem a5 {CX:CXT}{P:Program}{w:World}{K:PySem.W.Frag}{mg:Str->Option Value}{base:Heap}{N ps:List Str}{qual:Str}{scope:Scope}{f:Addr}{cd:Value}{A:Around}{outer:List Env}{s s1:Shared}{H:Hp}{E:XK}{us:List Value}{vs:List V}
  (S:FnScope N ps scope) (hd:A.handled=none) (e0:Env0 P w K mg base A outer s H) (hl:vs.length=ps.length) (r:J8 vs us)
  (x:InCallC s s.heap.objs.size (bindL (envOfC qual scope s.heap.objs.size f cd).kindOf (ps.zip us) fun _=>none) (cellsFrom (s.heap.objs.size+1) scope.names []) (bindC (envOfC qual scope s.heap.objs.size f cd).kindOf (ps.zip us) fun _=>none) s1) :
  Inv (uv CX P w K mg base N qual scope f cd A outer s H E) [] (start N vs) H s1:=by
 have hpl:ps.length<=N.length:=by have:=congrArg List.length S.pre;rw[List.length_take] at this;omega
 obtain⟨h1,tk,rfl,hk⟩:=x.done
 have noA:∀b:Addr,b∉(uv CX P w K mg base N qual scope f cd A outer s H E).ex:=fun b z=>absurd (show b∈([]:List Addr) from z) (by simp)
 refine⟨⟨e0.mod,S.kind,rfl,rfl,Nat.le_refl _,fun y z c h1 h2=>?_,fun y hy=>?_,fun y c _ h=>?_,fun _=>hd,Around.frames_deeper e0.frames,.inr ⟨rfl,rfl⟩,fun b z=>absurd z (noA b),e0.bs,e0.bsz,fun b _ _=>noA b,fun b z=>absurd z (noA b),e0.funs,e0.frf⟩,
  rfl,e0.bare,Un.kept hk,⟨_,x.toInCall.ns,fun i y v h1 h2 h3=>?_⟩,fun y c h=>⟨_,x.cell y c h⟩,e0.hok.fresh (Nat.le_refl _),fun y c h=>?_,fun p hp=>absurd (show p∈([]:List (Addr×Obj)) from hp) (by simp),e0.hok.kept hk,?_,fun _ e=>by cases(show(none:Option (Str->Option Value))=some _ from e)⟩
 ·exact name_of_addr x.apart (PySem.mem_of_lookup h1) (PySem.mem_of_lookup h2)
 ·have hy:scope.names.lookup y=some .cell\/scope.names.lookup y=some .free:=hy
  rcases hy with hy|hy
  ·exact Ei hy
  ·exact absurd rfl (S.nofree _ (PySem.mem_of_lookup hy))
 ·exact Nat.le_of_lt (x.above y c (PySem.mem_of_lookup h))
 ·have hi:i<vs.length:=by
   unfold start at h2
   by_cases hi:i<vs.length
   ·exact hi
   ·rw[List.getElem?_append_right (by simpa using hi)] at h2
    rw[List.getElem?_replicate] at h2
    split at h2<;>cases h2
  have ha:vs[i]? =some v:=by
   unfold start at h2
   rw[List.getElem?_append_left (by simpa using hi),List.getElem?_map] at h2
   cases e:vs[i]? with
   |none=>rw[e] at h2;cases h2
   |some a=>rw[e] at h2;cases h2;rfl
  obtain⟨u,hu,rv⟩:=r.get ha
  have hp:ps[i]? =some y:=by
   rw[←S.pre,List.getElem?_take_of_lt (by omega)];exact h1
  have ndP:ps.Nodup:=by rw[←S.pre];exact S.nd.sublist (List.take_sublist _ _)
  refine⟨u,rv,?_⟩
  rcases S.par y (List.mem_of_getElem? hp) with k|k
  ·exact .inl ⟨k,Kb ndP hp hu k⟩
  ·obtain⟨c,e⟩:=Ei (n:=s.heap.objs.size+1) k
   refine .inr ⟨.inl k,c,e,?_⟩
   have q:=x.cell y c e
   rw[g7 ndP hp hu (by show scope.names.lookup y≠_;rw[k];decide)] at q
   exact q
 ·exact e0.hok.fresh (Nat.le_of_lt (x.above y c (PySem.mem_of_lookup h)))
 ·unfold start
  show _=N.length
  rw[List.length_append,List.length_map,List.length_replicate]
  omega
theorem a72 {CX:CXT}{P:Program}{w:World}{K:PySem.W.Frag}{mg:Str->Option Value}{base:Heap}{k:Nat}{f:Addr}{name qual:Str}{params:Arguments}{body:List Stmt}{scope:Scope}{dV kV doc pm cdv ct oc:Value}{an od:Option Addr}
  {osl:Array (Option Value)}{N ps:List Str}{sp:Sp}(lk:K.lookup f=some ⟨oc,od,.func (PySem.W.fnOf name qual params body scope dV kV doc pm an cdv ct),osl⟩) (hcd:PySem.W.codeIn K cdv qual=true) (S:FnScope N ps scope)
  (len:∀vs H Q E,sp vs H Q E->vs.length=ps.length)
  (hbody:∀(A:Around) (outer:List Env) (s:Shared) (H:Hp) (vs:List V) (Q:VK) (E:XK),Room k (A.deeper (envOfC qual scope s.heap.objs.size f cdv))->sp vs H Q E ->
   ∃t,PSs (uv CX P w K mg base N qual scope f cdv A outer s H E) body t/\t { nx:=fun _ H'=>Q .non H',rt:=Q} (start N vs) H) :
  FnOk P w K mg base CX (k+1) f (PySem.W.fnOf name qual params body scope dV kV doc pm an cdv ct) ps sp:=by
 refine⟨len,fun A outer s H args us vs Q E hr e0 hb r hsp=>?_⟩
 have hl:=len _ _ _ _ hsp
 have KX:K.In s.heap:=e0.mod.kin.keeps fun b o e=>(e0.bs b o e).1
 have lim:s.heap.NoLimit:=e0.mod.nolimit.keeps fun b o e=>(e0.bs b o e).1
 have hkind:∀y∈ps.zip us,scope.names.lookup y.1=some .local\/(scope.names.lookup y.1=some .cell/\((cellsFrom (s.heap.objs.size+1) scope.names []).lookup y.1).isSome=true):=fun⟨n,v⟩ hy=>by
  rcases S.par n (List.of_mem_zip hy).1 with q|q
  ·exact .inl q
  ·exact .inr ⟨q,PySem.W.cellsFrom_some _ _ _ (.inl q)⟩
 refine codeAny_call_function hr.depth (KX _ _ lk) rfl S.co S.gen rfl (PySem.W.codeRec_of KX hcd) (hb _ _ _ _ ?_)
 refine wpAny_newFunctionEnv_cells S.kind hkind fun env he s1 x=>?_
 subst he
 refine⟨lim.keeps x.toInCall.keep,codeAny_func ?_⟩
 obtain⟨t,ht,hq⟩:=hbody A outer s H vs Q E (hr.deeper _) hsp
 have I:Inv (uv CX P w K mg base N qual scope f cdv A outer s H E) [] (start N vs) H s1:=a5 S hr.hd e0 hl r x
 refine wpAny_mono (ht [] s1 (start N vs) H _ I hq) (fun fl s' hs=>?_) fun e s' hs=>hs
 have fin:∀{σ':St}{H':Hp}{v:V}{u:Value},Inv (uv CX P w K mg base N qual scope f cdv A outer s H E) [] σ' H' s'->J3 v u->Q v H'->CE outer P w H s Q u s' :=
  fun{σ' H' v u} J rv q=>⟨v,H',J.os,J.bare,J.base,J.hok,rv,q⟩
 cases fl with
 |ret u =>
  obtain⟨v,σ',H',J,rv,q⟩:=hs
  exact fin J rv q
 |next =>
  obtain⟨σ',H',J,q⟩:=hs
  exact fin (v:=V.non) (u:=Value.none) J rfl q
 |brk =>
  obtain⟨_,_,_,q⟩:=hs
  exact False.elim q
 |cont =>
  obtain⟨_,_,_,q⟩:=hs
  exact False.elim q
section
variable {X:Cx}{x:Str}{p pos:Pos}{e:Expr}{es:List Expr}{t:TA}{id T:String}{r:List V->Hp->VK->Prop}
noncomputable def tCB (r:List V->Hp->VK->Prop) (t:TA):TE:=fun σ H Q=>t σ H fun vs H1=>r vs H1 Q
theorem xt (hc:ze X (.builtin id) r) (hg:Gl X x) (hm:X.mg x=none) (hv:bootBuiltins x=some (.builtin id)) (ha:PA X (e::es) t) (hn:x≠"__name__":=by decide) (hdb:(x==("__debug__":Str))=false:=by decide)
  (he:starEach (e::es) X.env=(false,eval e X.env)::starEach es X.env:=by rfl) (hpl:(backTo pos (starEach es X.env)).any (·.1)=false:=by rfl):PE X (.Call (.Name x p) (e::es) [] pos) (tCB r t):=by
 intro pins s σ H Q I h
 refine wpAny_Call_Name_kw (Gc I hg hm hv ?_ hn hdb)
 exact PyProof.Rows.callWith_builtin1 (thn (ha pos pins s σ H _ I h) fun us s1 ⟨vs,H1,I1,r1,q1⟩=>hc pins s1 σ H1 vs us Q I1 r1 q1) he hpl
theorem Bs (hc:ze X (.type T) r) (hg:Gl X x) (hm:X.mg x=none) (hv:bootBuiltins x=some (.type T)) (ha:PA X (e::es) t) (hn:x≠"__name__":=by decide) (hdb:(x==("__debug__":Str))=false:=by decide)
  (he:starEach (e::es) X.env=(false,eval e X.env)::starEach es X.env:=by rfl) (hpl:(backTo pos (starEach es X.env)).any (·.1)=false:=by rfl):PE X (.Call (.Name x p) (e::es) [] pos) (tCB r t):=by
 intro pins s σ H Q I h
 refine wpAny_Call_Name_kw (Gc I hg hm hv ?_ hn hdb)
 exact PyProof.Rows.callWith_type1 (thn (ha pos pins s σ H _ I h) fun us s1 ⟨vs,H1,I1,r1,q1⟩=>hc pins s1 σ H1 vs us Q I1 r1 q1) he hpl
end
end L2
namespace HT
open PySem PyProof.Rows
section
open PySem.SeqAt
open PySem.AutoSeq1 (wpAny_loadPart')
open PySem.MeetsSeq PySem.MeetsSeq2 PySem.MeetsSeq3
end
section
variable {prog:Program}{w:World}{A:Around}{E:Value->Shared->Prop}{s:Shared}
theorem cat_tup {t b:Addr}{vs ws:List Value}{Q:Value->Shared->Prop}(ht:IsTup s.heap t vs.toArray) (hb:IsTup s.heap b ws.toArray) (hv:vs≠[])
  (h1:ws=[]->Q (.ref t) s) (h2:ws≠[]->Q (.ref s.heap.objs.size) { s with heap:=s.heap.push { cls:=.type "tuple",data:=.seq (vs++ws).toArray}})
  (hsz:vs.length+ws.length<=sizeLine):wpAny (model prog w) A (binaryOp .Add (.ref t) (.ref b)) Q E s:=by
 obtain⟨⟨cls,dd,data,sl⟩,ho,hc,n,hd⟩:=id ht
 obtain⟨⟨cls2,dd2,data2,sl2⟩,ho2,hc2,n2,hd2⟩:=id hb
 simp only at hc hd hc2 hd2
 subst hc hd hc2 hd2
 have e:vs.toArray++ws.toArray=(vs++ws).toArray:=by simp
 by_cases hw:ws=[]
 ·exact concat_meets ⟨_,ho,rfl⟩ ⟨_,ho2,rfl⟩ noFill_tuple_add seq_tuple_add PySem.F.slot_tuple_add PySem.F.entry_tuple_add (PySem.F.args_tuple_add_2 _ _)
   (tuple_addW1 t b vs.toArray ws.toArray n n2 dd dd2 sl sl2 (by simpa using hv) (by simp[hw])) ⟨ho,ho2,h1 hw⟩
 ·refine concat_meets ⟨_,ho,rfl⟩ ⟨_,ho2,rfl⟩ noFill_tuple_add seq_tuple_add PySem.F.slot_tuple_add PySem.F.entry_tuple_add (PySem.F.args_tuple_add_2 _ _)
   (tuple_addW2 t b vs.toArray ws.toArray n n2 dd dd2 sl sl2 (by simpa using hv) (by simpa using hw) (by rw[List.size_toArray,List.size_toArray];exact hsz)) ⟨ho,ho2,?_⟩
  rw[e]
  exact h2 hw
noncomputable def sIx (n d:Nat):Option Int->Nat
 |none=>d
 |some v=>if v<0 then(v+(n:Int)).toNat else min v.toNat n
theorem sIx_none (n d:Nat):sIx n d none=d:=rfl
theorem sIx_nat (n d k:Nat):sIx n d (some (k:Int))=min k n:=by
 show(if(k:Int)<0 then((k:Int)+(n:Int)).toNat else min (k:Int).toNat n)=min k n
 rw[if_neg (by omega),Int.toNat_natCast]
theorem ap0 (n d:Nat) (hd:d<=n) (o:Option Int):sIx n d o<=n:=by
 cases o with
 |none=>exact hd
 |some v =>
  show(if v<0 then(v+(n:Int)).toNat else min v.toNat n)<=n
  by_cases hv:v<0
  ·rw[if_pos hv];omega
  ·rw[if_neg hv];exact Nat.min_le_right _ _
theorem be (v:Int) (n d:Nat):(if v<0 then max (v+(n:Int)) 0 else min v (n:Int))=((sIx n d (some v):Nat):Int):=by
 show(if v<0 then max (v+(n:Int)) 0 else min v (n:Int))=(((if v<0 then(v+(n:Int)).toNat else min v.toNat n):Nat):Int)
 by_cases hv:v<0
 ·simp only[if_pos hv];omega
 ·simp only[if_neg hv];omega
theorem cr (lo hi:Option Int) (n:Nat):Builtin.Slice.sliceAdjust lo hi 1 (n:Int)=(((sIx n 0 lo:Nat):Int),((sIx n n hi:Nat):Int)):=by
 have h1:¬((1:Int)<0):=by omega
 unfold Builtin.Slice.sliceAdjust
 simp only[h1,if_false]
 refine Prod.ext ?_ ?_
 ·cases lo with
  |none=>rfl
  |some v=>exact be v n 0
 ·cases hi with
  |none=>rfl
  |some v=>exact be v n n
theorem Dy (i j:Nat):Builtin.Slice.slicePlaces (i:Int) (j:Int) 1=j-i:=by
 unfold Builtin.Slice.slicePlaces
 have h1:(1:Int)>0:=by omega
 simp only[h1,if_true,Int.ediv_one]
 split<;>omega
theorem v8 {v:Value}{o:Option Int}{Q:Option Int->Shared->Prop}(p:IsPart v o) (h:Q o s):wpAny (model prog w) A (Builtin.Slice.slicePartIndex v) Q E s:=by
 cases p with
 |none=>exact slicePart_none h
 |int i t=>exact slicePart_int h
theorem Xi {sl:Addr}{vl vu:Value}{lo hi:Option Int}{n:Nat}{Q:Int×Int×Nat->Shared->Prop}(hs:s.heap.IsSliceOf sl vl vu .none) (pl:IsPart vl lo) (pu:IsPart vu hi)
  (h:Q (((sIx n 0 lo:Nat):Int),1,sIx n n hi-sIx n 0 lo) s):wpAny (model prog w) A (Builtin.Slice.sliceApplied (.ref sl) (pure (n:Int))) Q E s:=by
 obtain⟨os,hos,hcs,hds⟩:=id hs
 unfold Builtin.Slice.sliceApplied Builtin.Slice.sliceFields
 refine wpAny_bind (wpAny_bind (wpAny_field hos hds (x:=vl) rfl (wpAny_bind (wpAny_field hos hds (x:=vu) rfl (wpAny_bind (wpAny_field hos hds (x:=.none) rfl (wpAny_pure ?_)))))))
 refine wpAny_bind (slicePart_none ?_)
 show wpAny _ _ (if((1:Int)==0)=true then _ else _) _ _ s
 rw[if_neg (by decide)]
 refine wpAny_bind (v8 pl (wpAny_bind (v8 pu (wpAny_bind (wpAny_pure ?_)))))
 show wpAny _ _ (match Builtin.Slice.sliceAdjust lo hi 1 (n:Int) with|(lo,hi)=>pure (lo,(1:Int),Builtin.Slice.slicePlaces lo hi 1)) _ _ s
 rw[cr lo hi n]
 show wpAny _ _ (pure (((sIx n 0 lo:Nat):Int),(1:Int),Builtin.Slice.slicePlaces ((sIx n 0 lo:Nat):Int) ((sIx n n hi:Nat):Int) 1)) _ _ s
 rw[Dy]
 exact wpAny_pure h
theorem a10 (xs:Array Value) (i k:Nat):((List.range k).filterMap fun(m:Nat)=>xs[((i:Int)+(m:Int)*1).toNat]?).toArray=((xs.toList.drop i).take k).toArray:=by
 have e:(fun(m:Nat)=>xs[((i:Int)+(m:Int)*1).toNat]?)=fun m=>xs[i+m]?:=by
  funext m
  have:((i:Int)+(m:Int)*1).toNat=i+m:=by omega
  rw[this]
 rw[e]
 have:=pick_run xs i k
 rw[List.filterMap_map] at this
 have e2:((fun x=>xs[x]?) ∘ fun x=>i+x)=fun m=>xs[i+m]?:=rfl
 rw[e2] at this
 rw[this]
theorem getItem_tuple_cut {t sl:Addr}{items:Array Value}{vl vu:Value}{lo hi:Option Int}{Q:Value->Shared->Prop}(ht:IsTup s.heap t items) (hs:s.heap.IsSliceOf sl vl vu .none) (pl:IsPart vl lo) (pu:IsPart vu hi)
  (hw:¬(sIx items.size 0 lo=0/\sIx items.size items.size hi=items.size))
  (h:Q (.ref s.heap.objs.size) { s with heap:=s.heap.push { cls:=.type "tuple",data:=.seq ((items.toList.drop (sIx items.size 0 lo)).take (sIx items.size items.size hi-sIx items.size 0 lo)).toArray}})
  (hsz:items.size<=sizeLine):wpAny (model prog w) A (getItem (.ref t) (.ref sl)) Q E s:=by
 have htake:sizeOk (.seq ((items.toList.drop (sIx items.size 0 lo)).take (sIx items.size items.size hi-sIx items.size 0 lo)).toArray):=by
  show((items.toList.drop (sIx items.size 0 lo)).take (sIx items.size items.size hi-sIx items.size 0 lo)).toArray.size<=sizeLine
  rw[List.size_toArray,List.length_take,List.length_drop,Array.length_toList]
  omega
 have hj:sIx items.size items.size hi<=items.size:=ap0 _ _ (Nat.le_refl _) hi
 obtain⟨os,hos,hcs,hds⟩:=id hs
 have hTs:s.TypeIs (.ref sl) "slice":=⟨os,hos,hcs⟩
 unfold getItem
 try with_reducible refine wpAny_holding ?_
 first|refine wpAny_bind (wpAny_pure ?_)|skip
 refine wpAny_bind (wpAny_sequenceKey ht.typeIs (by decide) ?_)
 refine wpAny_bind (wpAny_callSpecial?_slot (name:=Str.ofString "__getitem__") ht.typeIs PyProof.Rows.slot_tuple_getitem
  (wpAny_call_entry PyProof.Rows.slot_tuple_getitem ht.typeIs entry_tuple_getitem ?_ (args_tuple_getitem _ _)))
 show wpAny _ _ (Builtin.Tuple.tupleItemsOf (.ref t) >>= _) _ _ s
 refine wpAny_bind (tupleItemsOf_ ht ?_)
 refine wpAny_bind (wpAny_typeOf hTs ?_)
 rw[if_pos (by decide)]
 refine wpAny_bind (Xi hs pl pu ?_)
 have hno:¬((((sIx items.size 0 lo:Nat):Int)==0&&(1:Int)==1&&(sIx items.size items.size hi-sIx items.size 0 lo)==items.size)=true):=by
  intro q
  rw[Bool.and_eq_true,Bool.and_eq_true] at q
  have q1:((sIx items.size 0 lo:Nat):Int)=0:=eq_of_beq q.1.1
  have q2:sIx items.size items.size hi-sIx items.size 0 lo=items.size:=eq_of_beq q.2
  exact hw ⟨by omega,by omega⟩
 show wpAny _ _ (if(((sIx items.size 0 lo:Nat):Int)==0&&(1:Int)==1&&(sIx items.size items.size hi-sIx items.size 0 lo)==items.size)=true then _ else _) _ _ s
 rw[if_neg hno,a10]
 first
  |exact wpAny_bind (m:=Builtin.Tuple.tupleExact _) (wpAny_newObj_type (wpAny_pure ⟨_,rfl,wpAny_pure h⟩) htake)
  |exact wpAny_bind (m:=Builtin.Tuple.tupleExact _) (wpAny_newObj_type (wpAny_bind (wpAny_pure (wpAny_pure ⟨_,rfl,wpAny_pure h⟩))) htake)
  |exact wpAny_bind (wpAny_bind (m:=Builtin.Tuple.tupleExact _) (wpAny_newObj_type (wpAny_pure (wpAny_pure ⟨_,rfl,wpAny_pure h⟩)) htake))
  |exact wpAny_bind (wpAny_bind (m:=Builtin.Tuple.tupleExact _) (wpAny_newObj_type (wpAny_pure ⟨_,rfl,wpAny_pure h⟩) htake))
end
end HT
namespace L2
open PySem PySem.Spec PyProof.Rows
noncomputable abbrev TO:=St->Hp->(Option Int->Hp->Prop)->Prop
noncomputable def PO (X:Cx) (e:Option Expr) (t:TO):Prop :=
 ∀(pins:List (Addr×Obj)) (s:Shared) (σ:St) (H:Hp) (Q:Option Int->Hp->Prop),Inv X pins σ H s->t σ H Q ->
  wpAny (model X.prog X.w) X.A (evalPart e X.env) (fun u s'=>∃o H',Inv X pins σ H' s'/\IsPart u o/\Q o H') X.xe s
noncomputable def a97:TO:=fun _ H Q=>Q none H
noncomputable def az2 (t:TE):TO:=fun σ H Q=>t σ H fun x H1=>∃i,x=.int i/\Q (some i) H1
section
variable {X:Cx}{e:Expr}{te:TE}{lo hi:Option Expr}{tl th:TO}{pos p2:Pos}
theorem ab5:PO X none a97:=by
 intro pins s σ H Q I h
 rw[evalPart_none]
 exact wpAny_pure ⟨none,H,I,.none,h⟩
theorem ab4 (h:PE X e te):PO X (some e) (az2 te):=by
 intro pins s σ H Q I hw
 rw[evalPart_some]
 refine thn (h pins s σ H _ I hw) fun u s1 ⟨x,H1,I1,r1,q1⟩=>?_
 obtain⟨i,rfl,q⟩:=q1
 obtain⟨t,rfl⟩:=r1
 exact⟨some i,H1,I1,.int i t,q⟩
noncomputable def SlR (X:Cx) (r:V->Option Int->Option Int->Hp->VK->Prop):Prop :=
 ∀(pins:List (Addr×Obj)) (s:Shared) (σ:St) (H:Hp) (x:V) (v vl vu:Value) (lo hi:Option Int) (sl:Addr) (Q:VK),Inv X pins σ H s->J3 x v->s.heap.IsSliceOf sl vl vu .none->IsPart vl lo->IsPart vu hi->r x lo hi H Q ->
  ∃T id,typeLookup (.type T) "__getitem__"=pure (some (.builtin id))/\s.TypeIs v T/\wpAny (model X.prog X.w) X.A (getItem v (.ref sl)) (EP X pins σ Q) X.xe s
theorem SlR.or {r r':V->Option Int->Option Int->Hp->VK->Prop}(h:SlR X r) (h':SlR X r'):SlR X (fun x lo hi H Q=>r x lo hi H Q\/r' x lo hi H Q):=by
 intro pins s σ H x v vl vu lo hi sl Q I rx hs pl pu q
 rcases q with q|q
 ·exact h pins s σ H x v vl vu lo hi sl Q I rx hs pl pu q
 ·exact h' pins s σ H x v vl vu lo hi sl Q I rx hs pl pu q
noncomputable def tSl (r:V->Option Int->Option Int->Hp->VK->Prop) (te:TE) (tl th:TO):TE:=fun σ H Q=>te σ H fun x H1=>tl σ H1 fun l H2=>th σ H2 fun u H3=>r x l u H3 Q
theorem Fe {r:V->Option Int->Option Int->Hp->VK->Prop}(hr:SlR X r) (he:PE X e te) (hl:PO X lo tl) (hu:PO X hi th):PE X (.Subscript e (.Slice lo hi none p2) pos) (tSl r te tl th):=by
 intro pins s σ H Q I h
 refine Subscript_ (thn (he pins s σ H _ I h) fun v s1 ⟨x,H1,I1,r1,q1⟩=>?_)
 refine wpAny_Slice (thn (hl pins s1 σ H1 _ I1 q1) fun vl s2 ⟨l,H2,I2,pl,q2⟩=>thn (hu pins s2 σ H2 _ I2 q2) fun vu s3 ⟨u,H3,I3,pu,q3⟩=>?_)
 rw[evalPart_none]
 refine wpAny_pure ?_
 have I4:Inv X pins σ H3 { s3 with heap:=s3.heap.push { cls:=.type "slice",data:=.fields #[vl,vu,.none]}}:=I3.kept (t':=s3.toks) fun b ob q=>Heap.get?_push_of_some _ q
 obtain⟨T,id,hT,ht,hg⟩:=hr pins { s3 with heap:=s3.heap.push { cls:=.type "slice",data:=.fields #[vl,vu,.none]}} σ H3 x v vl vu l u s3.heap.objs.size Q I4 r1 (Heap.IsSliceOf.new ..) pl pu q3
 show wpAny (model X.prog X.w) X.A (subscriptTail e (.Slice lo hi none p2) v (.ref s3.heap.objs.size)) (EP X pins σ Q) X.xe { s3 with heap:=s3.heap.push { cls:=.type "slice",data:=.fields #[vl,vu,.none]}}
 exact tail_any (ops:=[.ref s3.heap.objs.size,v]) ht hT hg (by with_unfolding_all rfl)
noncomputable def Ek (xs:List V) (lo hi:Option Int):List V:=(xs.drop (HT.sIx xs.length 0 lo)).take (HT.sIx xs.length xs.length hi-HT.sIx xs.length 0 lo)
theorem W6 (xs:List V) (lo hi:Option Int):(Ek xs lo hi).length<=xs.length:=by
 unfold Ek
 rw[List.length_take,List.length_drop]
 omega
noncomputable def rSlT (K:PySem.W.Frag):V->Option Int->Option Int->Hp->VK->Prop:=fun x lo hi H Q=>∃a xs,x=.ref a/\SqT K H a xs /\
 ¬(HT.sIx xs.length 0 lo=0/\HT.sIx xs.length xs.length hi=xs.length)/\∀p,H p=none->Q (.ref p) (upd H p (.tup (Ek xs lo hi)))
theorem ao8:SlR X (rSlT X.K):=by
 intro pins s σ H x v vl vu lo hi sl Q I rx hs pl pu h
 obtain⟨a,xs,rfl,hx,hw,q⟩:=h
 cases rx
 obtain⟨its,r,ht,hz⟩:=I.tuple hx
 have hlen:its.toArray.size=xs.length:=by rw[List.size_toArray];exact r.length.symm
 refine⟨"tuple",_,PyProof.Rows.slot_tuple_getitem.lookup,ht.typeIs,?_⟩
 refine HT.getItem_tuple_cut ht hs pl pu (by rw[hlen];exact hw) ?_ (by rw[hlen];exact hz)
 rw[hlen]
 refine⟨.ref s.heap.objs.size,_,I.laid (t':=s.toks) (o:=.tup (Ek xs lo hi)) (fun b ob q=>Heap.get?_push_of_some _ q) (Nat.le_refl _) ?_,rfl,q _ (I.hok.fresh (Nat.le_refl _))⟩
 exact⟨Nat.le_trans (W6 xs lo hi) hz,_,(r.drop (HT.sIx xs.length 0 lo)).take (HT.sIx xs.length xs.length hi-HT.sIx xs.length 0 lo),IsTup.new _ _⟩
noncomputable def aB1 (K:PySem.W.Frag):R2:=fun x y H Q=>∃a b xs ys,x=.ref a/\y=.ref b/\SqT K H a xs/\SqT K H b ys/\xs≠[]/\xs.length+ys.length<=sizeLine /\
 (ys=[]->Q (.ref a) H)/\(ys≠[]->∀p,H p=none->Q (.ref p) (upd H p (.tup (xs++ys))))
theorem J8.nil_iff {xs:List V}{us:List Value}(r:J8 xs us):us=[]↔xs=[]:=by
 cases r with
 |nil=>simp
 |cons _ _=>simp
theorem ac9:OpR X (binaryOp .Add) (aB1 X.K):=by
 intro pins s σ H x y v u Q I rx ry h
 obtain⟨a,b,xs,ys,rfl,rfl,ha,hb,hx,hz,q1,q2⟩:=h
 cases rx
 cases ry
 obtain⟨its,r1,p1,_⟩:=I.tuple ha
 obtain⟨its2,r2,p2,_⟩:=I.tuple hb
 refine HT.cat_tup p1 p2 (fun z=>hx (r1.nil_iff.mp z)) (fun z=>⟨.ref a,H,I,rfl,q1 (r2.nil_iff.mp z)⟩) (fun z=>?_) (by rw[←r1.length,←r2.length];exact hz)
 refine⟨.ref s.heap.objs.size,_,I.laid (t':=s.toks) (o:=.tup (xs++ys)) (fun b ob q=>Heap.get?_push_of_some _ q) (Nat.le_refl _) ?_,rfl,q2 (fun w=>z (r2.nil_iff.mpr w)) _ (I.hok.fresh (Nat.le_refl _))⟩
 exact⟨by rw[List.length_append];exact hz,_,r1.append r2,IsTup.new _ _⟩
end
noncomputable def ixN (n:Nat) (i:Int):Option Nat:=if 0<=i then(if i<n then some i.toNat else none) else if -(n:Int)<=i then some (i+n).toNat else none
noncomputable def atI {α:Type}(xs:List α) (i:Int):Option α:=(ixN xs.length i).bind fun j=>xs[j]?
theorem ag2 {n:Nat}{i:Int}{j:Nat}(h:ixN n i=some j):seqIndex? i n=some j/\j<n/\ -(n:Int)<=i/\i<n:=by
 unfold ixN at h
 by_cases h0:0<=i
 ·rw[if_pos h0] at h
  by_cases h1:i<n
  ·rw[if_pos h1] at h
   have e:i.toNat=j:=Option.some.inj h
   exact⟨by rw[seqIndex_of h0 h1,e],by omega,by omega,h1⟩
  ·rw[if_neg h1] at h;cases h
 ·rw[if_neg h0] at h
  by_cases h1:-(n:Int)<=i
  ·rw[if_pos h1] at h
   have e:(i+n).toNat=j:=Option.some.inj h
   exact⟨by rw[seqIndex_neg (by omega) h1,e],by omega,h1,by omega⟩
  ·rw[if_neg h1] at h;cases h
theorem Fw {α:Type}{xs:List α}{i:Int}{v:α}(h:atI xs i=some v):∃j,seqIndex? i xs.length=some j/\xs[j]? =some v/\j<xs.length/\ -(xs.length:Int)<=i/\i<xs.length:=by
 unfold atI at h
 cases e:ixN xs.length i with
 |none=>rw[e] at h;cases h
 |some j =>
  rw[e] at h
  obtain⟨h1,h2,h3,h4⟩:=ag2 e
  exact⟨j,h1,h,h2,h3,h4⟩
noncomputable def B5 (b:Expr):Prop:=∀o i,subscripted b false o i=operate [o,i] (getItem o i)
noncomputable def IxR (X:Cx) (r:R2):Prop :=
 ∀(value slice:Expr) (pins:List (Addr×Obj)) (s:Shared) (σ:St) (H:Hp) (x y:V) (v u:Value) (Q:VK),Inv X pins σ H s->J3 x v->J3 y u->r x y H Q ->
  subscripted slice false v u=operate [v,u] (getItem v u)->wpAny (model X.prog X.w) X.A (subscriptTail value slice v u) (EP X pins σ Q) X.xe s
noncomputable def MtR (X:Cx) (id:String) (r:V->List V->Hp->VK->Prop):Prop :=
 ∀(pins:List (Addr×Obj)) (s:Shared) (σ:St) (H:Hp) (x:V) (xs:List V) (v:Value) (us:List Value) (Q:VK),Inv X pins σ H s->J3 x v->J8 xs us->r x xs H Q ->
  wpAny (model X.prog X.w) X.A (call (.builtin id) (v::us)) (EP X pins σ Q) X.xe s
section
variable {X:Cx}{a b:Expr}{ta tb:TE}{pos:Pos}
theorem IxR.or {r r':R2}(h:IxR X r) (h':IxR X r'):IxR X (fun x y H Q=>r x y H Q\/r' x y H Q):=by
 intro value slice pins s σ H x y v u Q I rx ry q hs
 rcases q with q|q
 ·exact h value slice pins s σ H x y v u Q I rx ry q hs
 ·exact h' value slice pins s σ H x y v u Q I rx ry q hs
theorem aB9 {r:R2}(hr:IxR X r) (ha:PE X a ta) (hb:PE X b tb) (hs:B5 b):PE X (.Subscript a b pos) (tOp r ta tb):=by
 intro pins s σ H Q I h
 exact Subscript_ (ax1 ha hb I h fun v u s2 x y H2 I2 rx ry q=>hr a b pins s2 σ H2 x y v u Q I2 rx ry q (hs _ _))
noncomputable def aA9 (K:PySem.W.Frag):R2:=fun x y H Q=>∃p xs i v,x=.ref p/\y=.int i/\SqL K H p xs/\atI xs i=some v/\Q v H
noncomputable def aA7 (K:PySem.W.Frag):R2:=fun x y H Q=>∃p xs i v,x=.ref p/\y=.int i/\SqT K H p xs/\atI xs i=some v/\Q v H
noncomputable def aA8:R2:=fun x y H Q=>∃z i c,x=.str z/\y=.int i/\z.length<=sizeLine/\atI z.cps.toList i=some c/\Q (.str ⟨#[c]⟩) H
theorem ag1:IxR X (aA9 X.K):=by
 intro value slice pins s σ H x y v u Q I rx ry h hs
 obtain⟨p,xs,i,z,rfl,rfl,hq,he,q⟩:=h
 cases rx
 obtain⟨t,rfl⟩:=ry
 obtain⟨its,r,pl,hz⟩:=I.list hq
 obtain⟨j,h1,h2,h3,h4,h5⟩:=Fw he
 obtain⟨w,ew,rw'⟩:=r.get h2
 have hl:=r.length
 have hn:=V9
 have fin:EP X pins σ Q w s:=⟨z,H,I,rw',q⟩
 by_cases h0:0<=i
 ·have hj:i.toNat=j:=by
   rw[seqIndex_of h0 h5] at h1
   exact Option.some.inj h1
  exact item_listR pl.isList h0 (by omega) (by rw[hj];simpa using ew) fin hs
 ·have hj:(i+(its.toArray.size:Int)).toNat=j:=by
   rw[seqIndex_neg (by omega) h4] at h1
   rw[List.size_toArray,←hl]
   exact Option.some.inj h1
  exact subscriptTail_builtinR (x:=w) pl.isList.typeIs slot_list_getitem.lookup
   (wpAny_getItem_list_neg (Q:=fun r s'=>r=w/\EP X pins σ Q r s') pl.isList (by omega) (by rw[List.size_toArray]<;>omega) (by omega) (by rw[hj];simpa using ew) ⟨rfl,fin⟩) hs
theorem av2:IxR X (aA7 X.K):=by
 intro value slice pins s σ H x y v u Q I rx ry h hs
 obtain⟨p,xs,i,z,rfl,rfl,hq,he,q⟩:=h
 cases rx
 obtain⟨t,rfl⟩:=ry
 obtain⟨its,r,pl,hz⟩:=I.tuple hq
 obtain⟨j,h1,h2,h3,h4,h5⟩:=Fw he
 obtain⟨w,ew,rw'⟩:=r.get h2
 have hl:=r.length
 have hn:=V9
 have fin:EP X pins σ Q w s:=⟨z,H,I,rw',q⟩
 exact subscriptTail_builtinR (x:=w) pl.typeIs slot_tuple_getitem.lookup
  (getItem_tuple (j:=j) (Q:=fun r s'=>r=w/\EP X pins σ Q r s') pl (by omega) (by omega) (by rw[List.size_toArray,←hl];exact h1) (by simpa using ew) ⟨rfl,fin⟩) hs
theorem av3:IxR X aA8:=by
 intro value slice pins s σ H x y v u Q I rx ry h hs
 obtain⟨z,i,c,rfl,rfl,hz,he,q⟩:=h
 obtain⟨t,rfl⟩:=rx
 obtain⟨t',rfl⟩:=ry
 obtain⟨j,h1,h2,h3,h4,h5⟩:=Fw he
 have hl:z.cps.toList.length=z.length:=by simp[Str.length]
 rw[hl] at h1 h4 h5
 have hn:=V9
 exact tail_any (typeIs_str s z t) slot_str_getitem.lookup (getItem_str (c:=c) (by
  have e1:decide (i < -(2 ^ 63:Int))=false:=decide_eq_false (by omega)
  have e2:decide (i≥2 ^ 63)=false:=decide_eq_false (by omega)
  rw[e1,e2,Bool.or_false]) (by rw[h1];simpa using h2) ⟨.str ⟨#[c]⟩,H,I.tok _,⟨_,rfl⟩,q⟩) hs
noncomputable def rIx (K:PySem.W.Frag):R2:=fun x y H Q=>aA9 K x y H Q\/aA7 K x y H Q\/aA8 x y H Q
theorem av4:IxR X (rIx X.K):=ag1.or (av2.or av3)
theorem gh (lo hi:Option Int) (n:Nat):(sliceBounds lo hi none n).1=((HT.sIx n 0 lo:Nat):Int)/\(sliceBounds lo hi none n).2.1=((HT.sIx n n hi:Nat):Int)/\(sliceBounds lo hi none n).2.2=1:=by
 refine⟨?_,?_,rfl⟩
 ·cases lo with
  |none=>simp[sliceBounds,HT.sIx]
  |some i =>
   simp only[sliceBounds,HT.sIx,Option.getD_none,show(1:Int)>0 by decide,if_true]
   by_cases h:i<0
   ·simp only[h,if_true]<;>omega
   ·simp only[h,if_false]<;>omega
 ·cases hi with
  |none=>simp[sliceBounds,HT.sIx]
  |some i =>
   simp only[sliceBounds,HT.sIx,Option.getD_none,show(1:Int)>0 by decide,if_true]
   by_cases h:i<0
   ·simp only[h,if_true]<;>omega
   ·simp only[h,if_false]<;>omega
theorem ku (its:List Value) (lo hi:Option Int):slicePick its.toArray lo hi none=((its.drop (HT.sIx its.length 0 lo)).take (HT.sIx its.length its.length hi-HT.sIx its.length 0 lo)).toArray:=by
 obtain⟨h1,h2,h3⟩:=gh lo hi its.toArray.size
 unfold slicePick
 rw[h1,h2,h3]
 simp only[sliceRange_one,pick_run,List.size_toArray]<;>rfl
noncomputable def rSlL (K:PySem.W.Frag):V->Option Int->Option Int->Hp->VK->Prop:=fun x lo hi H Q=>∃a xs,x=.ref a/\SqL K H a xs/\∀p,H p=none->Q (.ref p) (upd H p (.lst (Ek xs lo hi)))
theorem aa1:SlR X (rSlL X.K):=by
 intro pins s σ H x v vl vu lo hi sl Q I rx hs pl pu h
 obtain⟨a,xs,rfl,hx,q⟩:=h
 cases rx
 obtain⟨its,r,ht,hz⟩:=I.list hx
 have hlen:=r.length
 refine⟨"list",_,slot_list_getitem.lookup,ht.isList.typeIs,?_⟩
 refine wpAny_getItem_list_slice ht.isList hs pl pu .none (by simp) ?_ (by rw[List.size_toArray]<;>omega)
 rw[ku,←hlen]
 refine⟨.ref s.heap.objs.size,_,I.laid (t':=s.toks) (o:=.lst (Ek xs lo hi)) (fun b ob q=>Heap.get?_push_of_some _ q) (Nat.le_refl _) ?_,rfl,q _ (I.hok.fresh (Nat.le_refl _))⟩
 exact⟨Nat.le_trans (W6 xs lo hi) hz,_,0,(r.drop (HT.sIx xs.length 0 lo)).take (HT.sIx xs.length xs.length hi-HT.sIx xs.length 0 lo),Heap.get?_push_size _ rfl⟩
noncomputable def tyV (K:PySem.W.Frag) (T:String) (x:V) (H:Hp):Prop:=match x with
 |.str _=>T="str"
 |.int _=>T="int"
 |.ref p=>(T="list"/\∃xs,SqL K H p xs)\/(T="tuple"/\∃o,K.lookup p=some o/\o.cls=.type "tuple"/\o.dict=none) \/
   (T="dict"/\((∃kvs,H p=some (.dK kvs))\/∃kvs,H p=some (.dT kvs)))\/(T="set"/\∃S n,H p=some (.set S n))
 |_=>False
theorem As {pins:List (Addr×Obj)}{σ:St}{H:Hp}{s:Shared}{T:String}{x:V}{v:Value}(I:Inv X pins σ H s) (r:J3 x v) (ty:tyV X.K T x H) :
  s.TypeIs v T/\∀a,v=.ref a->∃ob,s.heap.get? a=some ob/\ob.dict=none:=by
 cases x with
 |str z =>
  obtain⟨t,rfl⟩:=r
  cases(show T="str" from ty)
  exact⟨typeIs_str s z t,fun _ e=>nomatch e⟩
 |int i =>
  obtain⟨t,rfl⟩:=r
  cases(show T="int" from ty)
  exact⟨typeIs_int s i t,fun _ e=>nomatch e⟩
 |ref p =>
  cases r
  rcases ty with⟨rfl,xs,hq⟩|⟨rfl,o,hk,hc,hd⟩|⟨rfl,hk⟩|⟨rfl,S,n,hk⟩
  ·obtain⟨its,_,pl,_⟩:=I.list hq
   refine⟨pl.isList.typeIs,fun a e=>?_⟩
   cases e
   obtain⟨o,n,e,c,hd,_⟩:=pl
   exact⟨o,e,hd⟩
  ·refine⟨⟨o,I.kIn p o hk,hc⟩,fun a e=>?_⟩
   cases e
   exact⟨o,I.kIn _ o hk,hd⟩
  ·have z:∃o,s.heap.get? p=some o/\o.ExactDict:=by
    rcases hk with⟨kvs,hk⟩|⟨kvs,hk⟩
    ·obtain⟨_,_,_,_,o,_,_,e,ex,_⟩:=I.hok p _ hk
     exact⟨o,e,ex⟩
    ·obtain⟨_,_,_,_,o,_,_,e,ex,_⟩:=I.hok p _ hk
     exact⟨o,e,ex⟩
   obtain⟨o,e,ex⟩:=z
   refine⟨⟨o,e,ex.1⟩,fun a e2=>?_⟩
   cases e2
   exact⟨o,e,ex.2.1⟩
  ·obtain⟨o,_,_,_,e,ex,_⟩:=I.hok p _ hk
   refine⟨⟨o,e,ex.1⟩,fun a e2=>?_⟩
   cases e2
   exact⟨o,e,ex.2.1⟩
 |_=>exact False.elim ty
noncomputable def tBM0 (K:PySem.W.Frag) (T:String) (r:V->List V->Hp->VK->Prop) (to:TE):TE:=fun σ H Q=>to σ H fun x H1=>tyV K T x H1/\r x [] H1 Q
noncomputable def tBM (K:PySem.W.Frag) (T:String) (r:V->List V->Hp->VK->Prop) (to:TE) (t:TA):TE:=fun σ H Q=>to σ H fun x H1=>tyV K T x H1/\t σ H1 fun xs H2=>r x xs H2 Q
variable {o e:Expr}{es:List Expr}{to:TE}{t:TA}{name:Str}{apos cpos:Pos}{T id:String}{r:V->List V->Hp->VK->Prop}
theorem ar2 (pa:PlainAttrs T) (slot:Slot T name id) (hty:typeOf (.builtin id)=pure (.type "method_descriptor")) (hm:MtR X id r) (ho:PE X o to)
  (hbase:attributeBase o name X.env (eval o X.env)=eval o X.env:=by rfl) (hline:(apos.endLine==cpos.line)=true:=by rfl):PE X (.Call (.Attribute o name apos) [] [] cpos) (tBM0 X.K T r to):=by
 intro pins s σ H Q I h
 refine wpAny_Call_method0_late hbase hline (thn (ho pins s σ H _ I h) fun v s1 ⟨x,H1,I1,r1,ty,q1⟩=>?_)
 obtain⟨h1,h2⟩:=As I1 r1 ty
 exact⟨T,id,pa,slot,hty,h1,h2,Calls.callWith_builtin rfl (PySem.evalArgs_none (hm pins s1 σ H1 x [] v [] Q I1 r1 .nil q1))⟩
theorem ak5 (pa:PlainAttrs T) (slot:Slot T name id) (hty:typeOf (.builtin id)=pure (.type "method_descriptor")) (hm:MtR X id r) (ho:PE X o to) (ha:PA X (e::es) t)
  (hbase:attributeBase o name X.env (eval o X.env)=eval o X.env:=by rfl)
  (hfew:((backTo cpos (starEach (e::es) X.env)).all (fun x=> !x.1)&&(backToKw cpos (keywordEach [] X.env)).all (fun x=>x.1.isSome)
   && decide ((e::es).length+([]:List Keyword).length+(if([]:List Keyword).isEmpty then 0 else 1)<30))=true:=by rfl)
  (hline:(apos.endLine==cpos.line)=true:=by rfl) (hs:starEach (e::es) X.env=(false,eval e X.env)::starEach es X.env:=by rfl) (hplain:(backTo cpos (starEach es X.env)).any (·.1)=false:=by rfl) :
  PE X (.Call (.Attribute o name apos) (e::es) [] cpos) (tBM X.K T r to t):=by
 intro pins s σ H Q I h
 refine wpAny_Call_method_late hbase hfew hline rfl (thn (ho pins s σ H _ I h) fun v s1 ⟨x,H1,I1,r1,ty,q1⟩=>?_)
 obtain⟨h1,h2⟩:=As I1 r1 ty
 refine⟨T,id,pa,slot,hty,h1,h2,?_⟩
 have hA:=ha cpos pins s1 σ H1 _ I1 q1
 rw[hs] at hA ⊢
 refine Calls.callWith_builtin (by show(false||(backTo cpos (starEach es X.env)).any (·.1))=false;rw[hplain]<;>rfl) (Calls.evalArgs_plain ?_)
 exact thn hA fun us s2 ⟨vs,H2,I2,r2,q2⟩=>hm pins s2 σ H2 x vs v us Q I2 r1 r2 q2
end
noncomputable def MtM (X:Cx) (id:String) (r:V->List V->Hp->VK->Prop):Prop :=
 ∀(pins:List (Addr×Obj)) (s:Shared) (σ:St) (H:Hp) (x:V) (xs:List V) (v:Value) (us:List Value) (Q:VK),Inv X pins σ H s->J3 x v->J8 xs us->r x xs H Q ->
  wpAny (model X.prog X.w) X.A (call (.builtin id) (v::us)) (EP X pins σ Q) X.xe s
theorem J8.one:∀{x:V}{us:List Value},J8 [x] us->∃u,us=[u]/\J3 x u
 |_,_,.cons r .nil=>⟨_,rfl,r⟩
theorem J8.zero:∀{us:List Value},J8 [] us->us=[]
 |_,.nil=>rfl
section
variable {X:Cx}{pins:List (Addr×Obj)}{σ:St}{H:Hp}{s:Shared}{l b:Addr}{xs ys zs:List V}
theorem Inv.lset {its its':List Value}{n:Nat}{f:Array Value->Array Value}{t':Nat}(I:Inv X pins σ H s) (hH:H l=some (.lst xs))
  (e:s.heap.get? l=some { cls:=.type "list",data:=.seq its.toArray n}) (hf:f its.toArray=its'.toArray) (hv:J8 ys its') (hz:ys.length<=sizeLine) :
  Inv X pins σ (upd H l (.lst ys)) { s with heap:=s.heap.update l (Obj.mapSeq f),toks:=t'}:=by
 have q:=PySem.IsL.update e f
 rw[hf] at q
 refine I.write (x:=l) (e:=l) (by rw[hH];exact trivial) (.inl rfl) (fun b' u hb hu=>(Heap.get?_update_other s.heap (Obj.mapSeq f) (Ne.symm hb)).trans hu) ⟨_,q⟩ ?_
 exact⟨hz,its',_,hv,q⟩
theorem Inv.lnew {its:List Value}{t':Nat}(I:Inv X pins σ H s) (hv:J8 ys its) (hz:ys.length<=sizeLine) :
  Inv X pins σ (upd H s.heap.objs.size (.lst ys)) { s with heap:=s.heap.push { cls:=.type "list",data:=.seq its.toArray},toks:=t'} :=
 I.laid (fun _ _ q=>Heap.get?_push_of_some _ q) (Nat.le_refl _) ⟨hz,its,0,hv,Heap.get?_push_size _ rfl⟩
theorem Inv.fresh (I:Inv X pins σ H s):H s.heap.objs.size=none:=I.hok.fresh (Nat.le_refl _)
theorem Inv.lstM (I:Inv X pins σ H s) (hH:H l=some (.lst xs)):xs.length<=sizeLine/\∃(its:List Value) (n:Nat),J8 xs its/\xs.length=its.length/\s.heap.get? l=some { cls:=.type "list",data:=.seq its.toArray n}:=by
 obtain⟨z,its,n,r,e⟩:=I.hok l _ hH
 exact⟨z,its,n,r,r.length,e⟩
end
section
variable {X:Cx}
noncomputable def aa8:V->List V->Hp->VK->Prop:=fun x vs H Q=>∃l xs y,x=.ref l/\vs=[y]/\H l=some (.lst xs)/\xs.length<sizeLine/\Q .non (upd H l (.lst (xs++[y])))
theorem K9:MtM X "list.append" aa8:=by
 intro pins s σ H x vs v us Q I rx rv h
 obtain⟨l,xs,y,rfl,rfl,hH,hz,q⟩:=h
 cases rx
 obtain⟨u,rfl,ru⟩:=rv.one
 obtain⟨z,its,n,r,hl,e⟩:=I.lstM hH
 refine call_meets F.slot_list_append ⟨_,e,rfl⟩ F.entry_list_append (F.args_list_append_2 _ _) (PySem.list_append l its.toArray n u (by rw[List.size_toArray];omega)) ⟨e,?_⟩
 refine⟨.non,_,I.lset (its':=its++[u]) hH e (by simp) (r.append (.cons ru .nil)) ?_,rfl,q⟩
 rw[List.length_append,List.length_singleton]
 omega
end
section
variable {prog:Program}{w:World}{A:Around}{E:Value->Shared->Prop}{s:Shared}
set_option maxRecDepth 100000 in
end
section
variable {X:Cx}
end
section
variable {κ:Type}[DecidableEq κ]
noncomputable def Yq (kvs:List (κ×V)) (k:κ):Option V:=(kvs.find? fun kv=>decide (kv.1=k)).map (·.2)
noncomputable def vj (kvs:List (κ×V)) (k:κ) (v:V):List (κ×V) :=
 if(kvs.any fun kv=>decide (kv.1=k))=true then kvs.map (fun kv=>if kv.1=k then(kv.1,v) else kv) else kvs++[(k,v)]
theorem Qa {p:κ×V}{r:List (κ×V)}{k:κ}(e:p.1=k):Yq (p::r) k=some p.2:=by simp[Yq,List.find?_cons,e]
theorem x0 {p:κ×V}{r:List (κ×V)}{k:κ}(e:¬p.1=k):Yq (p::r) k=Yq r k:=by simp[Yq,List.find?_cons,e]
theorem v3 (k:κ):∀kvs:List (κ×V),(kvs.any fun kv=>decide (kv.1=k))=(Yq kvs k).isSome
 |[]=>rfl
 |p::r=>by
  rw[List.any_cons]
  by_cases e:p.1=k
  ·simp only[Qa e,decide_eq_true e,Bool.true_or,Option.isSome_some]
  ·rw[x0 e,decide_eq_false e,Bool.false_or];exact v3 k r
theorem E8 (kvs:List (κ×V)) (k:κ) (v:V):(vj kvs k v).length<=kvs.length+1:=by
 unfold vj
 split
 ·rw[List.length_map];omega
 ·rw[List.length_append,List.length_cons,List.length_nil];omega
theorem a04 {kvs:List (κ×V)}{k:κ}(v:V) (h:Yq kvs k=none):vj kvs k v=kvs++[(k,v)]:=by
 unfold vj
 rw[v3,h]
 exact if_neg (by decide)
theorem Zi.isSome_eq {o:Option V}{u:Option Value}(r:Zi o u):o.isSome=u.isSome:=by
 cases o with
 |none=>cases u with
  |none=>rfl
  |some _=>exact(show False from r).elim
 |some _=>cases u with
  |none=>exact(show False from r).elim
  |some _=>rfl
theorem KV.val {kvs:List (κ×V)}{vs:List (κ×Value)}(r:KV kvs vs) (k:κ):Zi (Yq kvs k) (valueAt vs k):=by
 unfold KV at r
 induction r with
 |nil=>exact True.intro
 | @cons p q ps qs h t ih =>
  obtain⟨h1,h2⟩:=h
  by_cases e:p.1=k
  ·have e':q.1=k:=h1.symm.trans e
   have b:valueAt (q::qs) k=some q.2:=by simp[valueAt,List.find?_cons,e']
   rw[Qa e,b];exact h2
  ·have e':¬q.1=k:=fun z=>e (h1.trans z)
   have b:valueAt (q::qs) k=valueAt qs k:=by simp[valueAt,List.find?_cons,e']
   rw[x0 e,b];exact ih
theorem KV.any {kvs:List (κ×V)}{vs:List (κ×Value)}(r:KV kvs vs) (k:κ):(kvs.any fun kv=>decide (kv.1=k))=vs.any fun kv=>decide (kv.1=k):=by
 unfold KV at r
 induction r with
 |nil=>rfl
 |cons h t ih=>rw[List.any_cons,List.any_cons,ih,h.1]
theorem KV.repl {kvs:List (κ×V)}{vs:List (κ×Value)}(r:KV kvs vs) (k:κ) {y:V}{u:Value}(ry:J3 y u) :
  KV (kvs.map fun kv=>if kv.1=k then(kv.1,y) else kv) (vs.map fun kv=>if kv.1=k then(kv.1,u) else kv):=by
 unfold KV at r ⊢
 induction r with
 |nil=>exact .nil
 | @cons p q ps qs h t ih =>
  rw[List.map_cons,List.map_cons]
  refine .cons ?_ ih
  obtain⟨h1,h2⟩:=h
  by_cases e:p.1=k
  ·rw[if_pos e,if_pos (h1.symm.trans e)];exact⟨h1,ry⟩
  ·rw[if_neg e,if_neg (fun z=>e (h1.trans z))];exact⟨h1,h2⟩
theorem KV.put {kvs:List (κ×V)}{vs:List (κ×Value)}(r:KV kvs vs) (k:κ) {y:V}{u:Value}(ry:J3 y u):KV (vj kvs k y) (stored vs k u):=by
 unfold vj stored
 rw[r.any k]
 by_cases e:(vs.any fun kv=>decide (kv.1=k))=true
 ·rw[if_pos e,if_pos e];exact r.repl k ry
 ·rw[if_neg e,if_neg e];exact Paired.snoc r ⟨rfl,ry⟩
theorem KV.length {kvs:List (κ×V)}{vs:List (κ×Value)}(r:KV kvs vs):kvs.length=vs.length:=Paired.length r
end
theorem qx {P:Program}{w:World}{k:Key}{u:Value}(r:J3 (kV k) u):(J0 P w).is k u=true:=by
 cases k with
 |inl i=>obtain⟨t,e⟩:=(show ∃t,u=Value.int i t from r);subst e;exact E1 P w i t
 |inr x=>obtain⟨t,e⟩:=(show ∃t,u=Value.str x t from r);subst e;exact ee P w x t
theorem Kt {P:Program}{w:World}:∀{ks:List Key}{us:List Value},J8 (ks.map kV) us->ItemsAre (J0 P w) ks us
 |[],_,r=>by rw[List.map_nil] at r;cases r;exact .nil
 |k::ks,_,r=>by
  rw[List.map_cons] at r
  cases r with
  |cons h t=>exact .cons (qx h) (Kt t)
noncomputable abbrev KT (H:Hp):List (List Key×V)->List (List Key×Addr×Value)->Prop:=Paired fun p q=>p.1=q.1/\H q.2.1=some (.tup (p.1.map kV))/\J3 p.2 q.2.2
theorem KT.val {H:Hp}{kvs:List (List Key×V)}{xs:List (List Key×Addr×Value)}(r:KT H kvs xs) (k:List Key):Zi (Yq kvs k) ((atKey xs k).map (·.2)):=by
 induction r with
 |nil=>exact True.intro
 | @cons p q ps qs h t ih =>
  obtain⟨h1,_,h2⟩:=h
  by_cases e:p.1=k
  ·have e':q.1=k:=h1.symm.trans e
   have b:atKey (q::qs) k=some q.2:=by simp[atKey,List.find?_cons,e']
   rw[Qa e,b];exact h2
  ·have e':¬q.1=k:=fun z=>e (h1.trans z)
   have b:atKey (q::qs) k=atKey qs k:=by simp[atKey,List.find?_cons,e']
   rw[x0 e,b];exact ih
section
variable {P:Program}{w:World}{H:Hp}{h:Heap}{a:Addr}
theorem ak3 {u:HO}(ok:HOk P w H h) (e:Rd H a u):uw P w H h a u:=e.ok ok
theorem Kj {kvs:List (Key×V)}(ok:HOk P w H h) (e:Rd H a (.dK kvs)):kvs.length<=sizeLine/\(a==sysModules)=false/\∃vs,KV kvs vs/\h.DictOf (J0 P w) a vs :=
 show uw P w H h a (.dK kvs) from ak3 ok e
theorem am4 {kvs:List (Key×V)}(ok:HOk P w H h) (e:H a=some (.dK kvs)):kvs.length<=sizeLine/\(a==sysModules)=false/\∃vs,KV kvs vs/\h.DictOf (J0 P w) a vs:=Kj ok (.inl e)
theorem fw {ks:List Key}(ok:HOk P w H h) (e:H a=some (.tup (ks.map kV))):(tupleKind (J0 P w)).is h ks a:=by
 obtain⟨_,its,r,o,h1,h2,n,h3⟩:=(show uw P w H h a (.tup (ks.map kV)) from ok a _ e)
 exact⟨o,its.toArray,n,h1,h2,h3,by simpa using Kt r⟩
theorem bn {kvs:List (List Key×V)}(ok:HOk P w H h) (e:Rd H a (.dT kvs)):kvs.length<=sizeLine/\(a==sysModules)=false /\
  ∃xs,KT H kvs xs/\h.DictOfH (tupleKind (J0 P w)) a xs:=by
 obtain⟨z,y,xs,r,o,es,ep,h1,h2,h3,h4,h5⟩:=(show uw P w H h a (.dT kvs) from ak3 ok e)
 refine⟨z,y,xs,r,o,es,ep,h1,h2,h3,h4,fun x hx=>?_,h5⟩
 have all:∀{l:List (List Key×V)}{m:List (List Key×Addr×Value)},KT H l m->∀x∈m,(tupleKind (J0 P w)).is h x.1 x.2.1:=by
  intro l m q
  induction q with
  |nil=>intro x hx;exact nomatch hx
  | @cons p q ps qs hq t ih =>
   intro x hx
   rcases List.mem_cons.mp hx with e|hx
   ·subst e
    exact fw ok (by rw[←hq.1];exact hq.2.1)
   ·exact ih x hx
 exact all r x hx
end
noncomputable def Q2 (H:Hp) (a:Addr) (y:V) (r:Option V):Prop :=
 (∃kvs k,Rd H a (.dK kvs)/\y=kV k/\r=Yq kvs k)\/∃kvs k b,Rd H a (.dT kvs)/\y=.ref b/\H b=some (.tup (k.map kV))/\r=Yq kvs k
theorem Q2.k {H:Hp}{a:Addr}{kvs:List (Key×V)}{k:Key}(e:H a=some (.dK kvs)):Q2 H a (kV k) (Yq kvs k):=.inl ⟨kvs,k,.inl e,rfl,rfl⟩
section
variable {X:Cx}{pins:List (Addr×Obj)}{σ:St}{H:Hp}{s:Shared}{a:Addr}{y v:V}{u r:Value}{o:Option V}{A:Around}{E:Value->Shared->Prop}
theorem Inv.big (I:Inv X pins σ H s):sysModules<s.heap.objs.size:=by
 have h:mainGlobals<s.heap.objs.size:=(I.mod.glob.keeps I.bk).lt
 exact Nat.lt_trans (by decide) h
theorem aq {Q:Value->Shared->Prop}(hu:A.units+1<cLine) (I:Inv X pins σ H s) (g:Q2 H a y (some v)) (ry:J3 y u) (h:∀w' s',Inv X pins σ H s'->J3 v w'->Q w' s') :
  wpAny (model X.prog X.w) A (getItem (.ref a) u) Q E s:=by
 rcases g with⟨kvs,k,e,ey,l⟩|⟨kvs,k,b,e,ey,eb,l⟩
 ·subst ey
  obtain⟨z,hd,vs,rel,dd⟩:=Kj I.hok e
  obtain⟨w',hw,rw'⟩:=Zi.some_of (v:=v) (o:=valueAt vs k) (by rw[l];exact rel.val k)
  exact wpAny_getItem_of (qx ry) dd.mapOf hw (h w' _ (I.tok _) rw')
 ·subst ey
  cases(show u=Value.ref b from ry)
  obtain⟨z,hd,xs,rel,dd⟩:=bn I.hok e
  obtain⟨w',hw,rw'⟩:=Zi.some_of (v:=v) (o:=(atKey xs k).map (·.2)) (by rw[l];exact rel.val k)
  obtain⟨p,hp,hp2⟩:=Option.map_eq_some_iff.mp hw
  refine wpAny_getItem_heap (tupleKind_room_in1 hu) (fw I.hok eb) dd hp ?_
  rw[hp2]
  exact h w' _ (I.tok _) rw'
theorem d_in {Q:Value->Shared->Prop}(hu:A.units+1<cLine) (I:Inv X pins σ H s) (g:Q2 H a y o) (ry:J3 y u) (h:∀s',Inv X pins σ H s'->Q (.bool o.isSome) s') :
  wpAny (model X.prog X.w) A (compareOp .In u (.ref a)) Q E s:=by
 rcases g with⟨kvs,k,e,ey,l⟩|⟨kvs,k,b,e,ey,eb,l⟩
 ·subst ey
  obtain⟨z,hd,vs,rel,dd⟩:=Kj I.hok e
  refine wpAny_in_of (qx ry) hd dd.mapOf ?_
  rw[←(rel.val k).isSome_eq,←l]
  exact h _ (I.tok _)
 ·subst ey
  cases(show u=Value.ref b from ry)
  obtain⟨z,hd,xs,rel,dd⟩:=bn I.hok e
  refine wpAny_in_heap (tupleKind_room_in1 hu) (fw I.hok eb) hd dd ?_
  have q:=(rel.val k).isSome_eq
  rw[Option.isSome_map] at q
  rw[←q,←l]
  exact h _ (I.tok _)
theorem ah7 {Q:Value->Shared->Prop}(hu:A.units+1<cLine) (I:Inv X pins σ H s) (g:Q2 H a y o) (ry:J3 y u) (h:∀s',Inv X pins σ H s'->Q (.bool (!o.isSome)) s') :
  wpAny (model X.prog X.w) A (compareOp .NotIn u (.ref a)) Q E s:=by
 rcases g with⟨kvs,k,e,ey,l⟩|⟨kvs,k,b,e,ey,eb,l⟩
 ·subst ey
  obtain⟨z,hd,vs,rel,dd⟩:=Kj I.hok e
  refine wpAny_notIn_of (qx ry) hd dd.mapOf ?_
  rw[←(rel.val k).isSome_eq,←l]
  exact h _ (I.tok _)
 ·subst ey
  cases(show u=Value.ref b from ry)
  obtain⟨z,hd,xs,rel,dd⟩:=bn I.hok e
  refine wpAny_notIn_heap (tupleKind_room_in1 hu) (fw I.hok eb) hd dd ?_
  have q:=(rel.val k).isSome_eq
  rw[Option.isSome_map] at q
  rw[←q,←l]
  exact h _ (I.tok _)
theorem bh {h':Heap}{t':Nat}{ob:HO}(I:Inv X pins σ H s) (mu:Mut (H a)) (hs:Heap.SameBut a s.heap h') (he:∃q,h'.get? a=some q) (new:uw X.prog X.w (upd H a ob) h' a ob) :
  Inv X pins σ (upd H a ob) { s with heap:=h',toks:=t'} :=
 I.write (x:=a) (e:=a) mu (.inl rfl) (fun b q hb z=>(hs.2 b hb).trans z) he new
theorem dk_new {P:Program}{w:World}{H':Hp}{h':Heap}{kvs:List (Key×V)}{vs:List (Key×Value)}(z:kvs.length<=sizeLine) (hd:(a==sysModules)=false) (rel:KV kvs vs) (dd:h'.DictOf (J0 P w) a vs) :
  uw P w H' h' a (.dK kvs):=⟨z,hd,vs,rel,dd⟩
end
section
variable {X:Cx}{pins:List (Addr×Obj)}{σ:St}{H:Hp}{s:Shared}{a:Addr}{kvs:List (Key×V)}{k:Key}{u:Value}{A:Around}{E:Value->Shared->Prop}
theorem d_truth {Q:Bool->Shared->Prop}(I:Inv X pins σ H s) (e:Rd H a (.dK kvs)) (h:∀s',Inv X pins σ H s'->Q (!kvs.isEmpty) s'):wpAny (model X.prog X.w) A (truthy (.ref a)) Q E s:=by
 obtain⟨z,hd,vs,rel,dd⟩:=Kj I.hok e
 refine wpAny_truthy_dict hd dd (by rw[←rel.length];rw[sizeLine_eq] at z;omega) ?_
 have q:kvs.isEmpty=vs.isEmpty:=by cases rel<;>rfl
 rw[←q]
 exact h _ (I.tok _)
end
noncomputable def ai7 (i:Expr):Prop:=∀ov iv,subscripted i false ov iv=operate [ov,iv] (getItem ov iv)
theorem C3 {prog:Program}{w:World}{A:Around}{E:Value->Shared->Prop}{s:Shared}{env:Env}{value slice:Expr}{pos:Pos}{T id:String}{Q:Value->Shared->Prop}
  (hl:typeLookup (.type T) "__getitem__"=pure (some (.builtin id))) (hs:ai7 slice)
  (h:wpAny (model prog w) A (eval value env) (fun o s₁=>wpAny (model prog w) A (eval slice env) (fun i s₂=>s₂.TypeIs o T/\wpAny (model prog w) A (getItem o i) Q E s₂) E s₁) E s) :
  wpAny (model prog w) A (eval (.Subscript value slice pos) env) Q E s:=by
 refine Subscript_ (wpAny_mono h (fun o s₁ h₁=>wpAny_mono h₁ (fun i s₂ h₂=>?_) fun _ _ x=>x) fun _ _ x=>x)
 obtain⟨hT,h₂⟩:=h₂
 unfold subscriptTail
 refine wpAny_bind ?_
 rw[getitemInPython_of_ne hT.not_modules]
 refine wpAny_bind (wpAny_specialOf hT hl ?_)
 have fin:wpAny (model prog w) A (subscripted slice false o i) (fun r s₃=>wpAny (model prog w) A (letTemporaryGo value o r >>= fun _=>pure r) Q E s₃) E s₂:=by
  rw[hs o i]
  exact wpAny_operating (wpAny_mono h₂ (fun r s₃ h₃=>wpAny_bind (wpAny_letTemporaryGo (wpAny_pure h₃))) fun _ _ x=>x)
 first
  |exact wpAny_pure (wpAny_bind fin)
  |exact wpAny_bind (wpAny_pure (wpAny_bind fin))
  |exact wpAny_bind fin
theorem Eo {X:Cx}{pins:List (Addr×Obj)}{σ:St}{H:Hp}{s:Shared}{a:Addr}{y:V}{o:Option V}(I:Inv X pins σ H s) (g:Q2 H a y o):s.TypeIs (.ref a) "dict":=by
 rcases g with⟨kvs,k,e,_,_⟩|⟨kvs,k,b,e,_,_,_⟩
 ·obtain⟨_,_,vs,_,dd⟩:=Kj I.hok e
  exact dd.typeIs
 ·obtain⟨_,_,xs,_,dd⟩:=bn I.hok e
  exact dd.typeIs
noncomputable def az9 (td ty:TE):TE:=fun σ H Q=>td σ H fun x H1=>ty σ H1 fun y H2=>∃a v,x=.ref a/\Q2 H2 a y (some v)/\Q v H2
noncomputable def tDIn (ty td:TE):TE:=fun σ H Q=>ty σ H fun y H1=>td σ H1 fun x H2=>∃a o,x=.ref a/\Q2 H2 a y o/\Q (.bl o.isSome) H2
noncomputable def a98 (ty td:TE):TE:=fun σ H Q=>ty σ H fun y H1=>td σ H1 fun x H2=>∃a o,x=.ref a/\Q2 H2 a y o/\Q (.bl (!o.isSome)) H2
section
variable {X:Cx}{o i e value:Expr}{pos pos' tpos:Pos}{td ty tv:TE}
theorem ac2 (hu:X.A.units+1<cLine) (ho:PE X o td) (hi:PE X i ty) (hs:ai7 i):PE X (.Subscript o i pos) (az9 td ty):=by
 intro pins s σ H Q I h
 refine C3 PySem.F.slot_dict_getitem.lookup hs (thn (ho pins s σ H _ I h) fun u s1 ⟨x,H1,I1,rx,q1⟩=>thn (hi pins s1 σ H1 _ I1 q1) fun iv s2 ⟨y,H2,I2,ry,a,v,ex,g,q2⟩=>?_)
 subst ex
 obtain rfl:u=Value.ref a:=rx
 exact⟨Eo I2 g,aq hu I2 g ry fun w' s3 I3 rw'=>⟨v,H2,I3,rw',q2⟩⟩
theorem ar5 (hu:X.A.units+1<cLine) (hi:PE X i ty) (ho:PE X o td):PC X .In i o (tDIn ty td):=by
 intro pins s σ H Q I h
 refine thn (hi pins s σ H _ I h) fun iv s1 ⟨y,H1,I1,ry,q1⟩=>thn (ho pins s1 σ H1 _ I1 q1) fun u s2 ⟨x,H2,I2,rx,a,ov,ex,g,q2⟩=>?_
 subst ex
 obtain rfl:u=Value.ref a:=rx
 exact d_in hu I2 g ry fun s3 I3=>⟨.bl ov.isSome,H2,I3,rfl,q2⟩
theorem Bq (hu:X.A.units+1<cLine) (hi:PE X i ty) (ho:PE X o td):PC X .NotIn i o (a98 ty td):=by
 intro pins s σ H Q I h
 refine thn (hi pins s σ H _ I h) fun iv s1 ⟨y,H1,I1,ry,q1⟩=>thn (ho pins s1 σ H1 _ I1 q1) fun u s2 ⟨x,H2,I2,rx,a,ov,ex,g,q2⟩=>?_
 subst ex
 obtain rfl:u=Value.ref a:=rx
 exact ah7 hu I2 g ry fun s3 I3=>⟨.bl (!ov.isSome),H2,I3,rfl,q2⟩
end
theorem Ep {P:Program}{w:World}{H:Hp}(h:Heap) (hb:sysModules<h.objs.size):uw P w H (h.push { cls:=.type "dict",data:=.dict #[]}) h.objs.size (.dK []) :=
 ⟨Nat.zero_le _,beq_eq_false_iff_ne.mpr (Ne.symm (Nat.ne_of_lt hb)),[],.nil,Heap.DictOf.new h⟩
section
variable {X:Cx}{pos:Pos}
end
noncomputable def gm:List (TE×TE)->St->Hp->(List (V×V)->Hp->Prop)->Prop
 |[],_,H,Q=>Q [] H
 |(tk,tv)::r,σ,H,Q=>tk σ H fun x H1=>tv σ H1 fun y H2=>gm r σ H2 fun ps H3=>Q ((x,y)::ps) H3
noncomputable abbrev VV:List (V×V)->List (Value×Value)->Prop:=Paired fun p q=>J3 p.1 q.1/\J3 p.2 q.2
noncomputable def PPs (X:Cx) (pos:Pos) (keys:List (Option Expr)) (values:List Expr) (trs:List (TE×TE)):Prop :=
 ∀(pins:List (Addr×Obj)) (s:Shared) (σ:St) (H:Hp) (Q:List (V×V)->Hp->Prop),Inv X pins σ H s->gm trs σ H Q ->
  wpAny (model X.prog X.w) X.A (evalPairs (pairTrees keys values X.env pos)) (fun vs s'=>∃ps H',Inv X pins σ H' s'/\VV ps vs/\Q ps H') X.xe s
theorem ab3 {X:Cx}{pos:Pos}:PPs X pos [] [] []:=fun pins s σ H Q I h=>pairTrees_nil_walk ⟨[],H,I,.nil,h⟩
theorem a08 {X:Cx}{pos:Pos}{k v:Expr}{ks:List (Option Expr)}{vs:List Expr}{tk tv:TE}{trs:List (TE×TE)}(hk:PE X k tk) (hv:PE X v tv) (hr:PPs X pos ks vs trs) :
  PPs X pos (some k::ks) (v::vs) ((tk,tv)::trs):=fun pins s σ H Q I h =>
 pairTrees_cons_walk (thn (hk pins s σ H _ I h) fun u s1 ⟨x,H1,I1,rx,q1⟩=>thn (hv pins s1 σ H1 _ I1 q1) fun w2 s2 ⟨y,H2,I2,ry,q2⟩ =>
  thn (hr pins s2 σ H2 _ I2 q2) fun ws s3 ⟨ps,H3,I3,rel,q3⟩=>⟨(x,y)::ps,H3,I3,.cons ⟨rx,ry⟩ rel,q3⟩)
noncomputable def yg (kvs more:List (Key×V)):List (Key×V):=more.foldl (fun acc kv=>vj acc kv.1 kv.2) kvs
theorem KV.merge:∀{more:List (Key×V)}{rs:List (Key×Value)}{kvs:List (Key×V)}{vs:List (Key×Value)},KV more rs->KV kvs vs->KV (yg kvs more) (merged vs rs):=by
 intro more rs kvs vs r
 unfold KV at r
 induction r generalizing kvs vs with
 |nil=>intro q;exact q
 | @cons p q ps qs h t ih =>
  intro r0
  have e:KV (vj kvs p.1 p.2) (stored vs q.1 q.2):=by
   have:=r0.put p.1 h.2
   rw[←h.1];exact this
  exact ih e
theorem yo:∀(more kvs:List (Key×V)),(yg kvs more).length<=kvs.length+more.length
 |[],kvs=>by show kvs.length<=kvs.length+0;omega
 |p::r,kvs=>by
  have h1:=yo r (vj kvs p.1 p.2)
  have h2:=E8 kvs p.1 p.2
  show(yg (vj kvs p.1 p.2) r).length<=_
  rw[List.length_cons];omega
theorem Vb {P:Program}{w:World}:∀{kvs:List (Key×V)}{ws:List (Value×Value)},VV (kvs.map fun kv=>(kV kv.1,kv.2)) ws->∃rs,Carries (J0 P w) ws rs/\KV kvs rs
 |[],_,r=>by rw[List.map_nil] at r;cases r;exact⟨[],True.intro,.nil⟩
 |p::kvs,_,r=>by
  rw[List.map_cons] at r
  cases r with
  | @cons a b as bs h t =>
   obtain⟨rs,c,q⟩:=Vb (P:=P) (w:=w) t
   obtain⟨b1,b2⟩:=b
   exact⟨(p.1,b2)::rs,⟨qx h.1,rfl,c⟩,.cons ⟨rfl,h.2⟩ q⟩
noncomputable def az8 (trs:List (TE×TE)):TE:=fun σ H Q=>∀p,H p=none->gm trs σ (upd H p (.dK [])) fun ps H2=>H2 p=some (.dK [])/\∃kvs:List (Key×V),ps=kvs.map (fun kv=>(kV kv.1,kv.2))/\kvs.length<=15/\Q (.ref p) (upd H2 p (.dK (yg [] kvs)))
theorem ac1 {X:Cx}{pos:Pos}{keys:List (Option Expr)}{values:List Expr}{trs:List (TE×TE)}(h:PPs X pos keys values trs) (hall:keys.all (·.isSome)=true) (hl:keys.length=values.length) (h0:keys≠[])
  (h15:keys.length<=15):PE X (.Dict keys values pos) (az8 trs):=by
 intro pins s σ H Q I q
 have hn:=I.hok.fresh (Nat.le_refl s.heap.objs.size)
 have I1:=I.laid (a:=s.heap.objs.size) (o:=.dK []) (h':=s.heap.push { cls:=.type "dict",data:=.dict #[]}) (t':=s.toks) (fun _ _ q=>Heap.get?_push_of_some _ q) (Nat.le_refl _) (Ep s.heap I.big)
 refine wpAny_Dict_walk (knd:=J0 X.prog X.w) hall hl h0 h15 (thn (h pins _ σ _ _ I1 (q _ hn)) fun ws s2 ⟨ps,H2,I2,rel,e,kvs,ep,lk,q2⟩=>?_)
 subst ep
 obtain⟨rs,c,rk⟩:=Vb (P:=X.prog) (w:=X.w) rel
 obtain⟨z,hd,vs0,r0,dd⟩:=am4 I2.hok e
 cases r0
 refine⟨rs,c,dd,fun h' dd' hs=>⟨.ref s.heap.objs.size,_,?_,rfl,q2⟩⟩
 have hz:(yg [] kvs).length<=sizeLine:=by
  have h1:=yo kvs []
  rw[List.length_nil] at h1
  rw[sizeLine_eq];omega
 have he:∃q,h'.get? s.heap.objs.size=some q:=let⟨q,_,_,hq,_⟩:=dd';⟨q,hq⟩
 exact bh I2 (by rw[e];exact True.intro) hs he (dk_new hz hd (rk.merge .nil) dd')
section
variable {X:Cx}{pins:List (Addr×Obj)}{σ:St}{H:Hp}{s:Shared}{a:Addr}{y d:V}{u r:Value}{o:Option V}{A:Around}{E:Value->Shared->Prop}
end
section
variable {X:Cx}{o e f:Expr}{apos cpos:Pos}{td ty tx:TE}
end
section
variable {X:Cx}{pins:List (Addr×Obj)}{σ:St}{H:Hp}{s:Shared}{a:Addr}{kvs:List (Key×V)}{A:Around}{E:Value->Shared->Prop}
end
section
variable {X:Cx}{pins:List (Addr×Obj)}{σ:St}{H:Hp}{s:Shared}{a:Addr}{y:V}{u:Value}{A:Around}{E:Value->Shared->Prop}
end
end L2
namespace Att
open PySem PySem.W PySem.Calls PyProof.Rows
theorem Wt {P:Params}{h:Heap}:∀(ns:List Int) (vs:List Value),WellAll P h vs (ns.map WData.int)->IntsAre vs ns:=by
 intro ns
 induction ns with
 |nil =>
  intro vs w
  rw[List.map_nil] at w
  cases w
  exact .nil
 |cons n ns ih =>
  intro vs w
  rw[List.map_cons] at w
  cases w with
  |cons a b =>
   cases a
   exact .cons _ _ (ih _ b)
theorem By {l:OpenLaw}{n:Nat}(hn:l.most=some n) {P:Params}{h:Heap}{args:List WData}{vals:List Value}
  (hpre:l.row.toRowW.claim.pre args=true) (hwl:WellAll P h vals args) :
  ∃a vs ns,vals=[Value.ref a]/\args=[WData.list (ns.map WData.int)]/\h.get? a=some { cls:=.type "list",data:=.seq vs.toArray}/\IntsAre vs ns/\ns.length<=n:=by
 have hsh:WShape.hasAll [] args [.list .int]=true:=(pre_splitW hpre).1
 have hc:l.pre.holds [] { args:=args}=true:=(pre_splitW hpre).2
 obtain⟨d,r,rfl,h1,h2⟩:=hasAllW_cons hsh
 obtain rfl:=hasAllW_nil h2
 obtain⟨xs,rfl,h3⟩:=hasW_list h1
 obtain⟨ns,rfl⟩:=items_int h3
 have hlen:ns.length<=n:=by
  unfold OpenLaw.pre at hc
  have h4:(WTm.not (.lt (.lit (.int (n:Int))) (.len (.arg 0)))).holds [] { args:=[.list (ns.map .int)]}=true:=by
   have h4:=(holds_andW hc).1
   rw[hn] at h4
   exact h4
  have h5:=condW_of h4 (w_not (w_lt w_lit (w_len_list (w_arg rfl))))
  rw[List.length_map] at h5
  refine Nat.le_of_not_lt fun q=>?_
  have q':(n:Int)<((ns.length:Nat):Int):=by omega
  first
   |(rw[decide_eq_true q'] at h5;exact absurd h5 (by decide))
   |(simp at h5;omega)
 cases hwl with
 |cons w1 w2 =>
  cases w2
  cases w1 with
  |list ho hall=>exact⟨_,_,ns,rfl,rfl,ho,Wt ns _ hall,hlen⟩
theorem Bv (l:OpenLaw) (args:List WData):l.row.toRowW.claim.post args (.bool true) args=true :=
 postW_of (r:=l.row.toRowW) (X:=(true==true))
  (show WShape.has [] (.bool true) .bool=true by first|rfl|decide|simp[WShape.has,WShape.arms,WShape.armsAll])
  (show(WTm.eq .res (.lit (.bool true))).value [] { args:=args,res:=some (.bool true),after:=args}=some (.bool (true==true)) from w_eq_bool (w_res rfl) w_lit) rfl
theorem attach_call {l:OpenLaw}{n:Nat}{q:Program}{loose:List Str}{XP:(Str->Option Value)->Heap->Prop}{YP:World->Heap->Prop}{d:DefRec}
  (hn:l.most=some n) (hdf:d.params.defaults=[])
  (call:∀(w:World) (s₀ s₁:Shared) (mg mb:Str->Option Value) (fa:Addr) (o:Obj) (pm cd doc:Value) (a:Addr) (vs:List Value) (ns:List Int),
   Ground q loose [] XP w s₀ mg mb s₁.heap->YP w s₁.heap ->
   s₁.heap.get? fa=some o->o.data=.func (docDef d.name d.params d.body d.scope pm cd doc)->s₁.heap.CodeRec cd d.name->mg d.name=some (.ref fa) ->
   s₁.heap.get? a=some { cls:=.type "list",data:=.seq vs.toArray}->IntsAre vs ns->ns.length<=n->s₁.gens= #[] ->
   codeAny (model l.prog w) callerA (.call (.ref fa) ⟨[.ref a],[]⟩) (fun r s'=>r=.ok (.ret (.bool true))/\OldK s₁.heap s'.heap/\s'.os=s₁.os/\AllBare s'.gens) s₁) :
  WalkO q loose XP YP l.row.toRowW d [] (fun f vs=>PySem.call f vs):=by
 intro w s₀ s₁ mg mb G Y fa o pm cd doc dV kV ho hd hcd hD hmg hg args vals as hpre hlay hrd hwl hlo
 obtain rfl:dV=.none:=Dflts.none hD hdf
 obtain rfl:kV=.none:=Dflts.noKw hD
 obtain⟨a,vs,ns,rfl,rfl,hobj,hints,hlen⟩:=By hn hpre hwl
 refine enter_call (codeAny_mono (call w s₀ s₁ mg mb fa o pm cd doc a vs ns G Y ho (fd_plain hd) hcd hmg hobj hints hlen hg) fun r s' hq=>?_)
 obtain⟨rfl,h2,h3,h4⟩:=hq
 exact⟨.inl ⟨.bool true,.bool true,[],rfl,fun _=>rfl,.bool true,Bv l _,fun _=>⟨List.Pairwise.nil,fun _ hm=>(nomatch hm)⟩⟩,h2,h3,h4⟩
section
variable {prog:Program}{w:World}{A:Around}{E:Value->Shared->Prop}{s:Shared}{K:Frag}
end
end Att
namespace L2
open PySem PySem.Spec PyProof.Rows
theorem kb:∀{vs:List Value}{ns:List Int},IntsAre vs ns->J8 (ns.map V.int) vs
 |_,_,.nil=>.nil
 |_,_,.cons n t h=>.cons ⟨t,rfl⟩ (kb h)
noncomputable def ax9 (H:Hp):Prop:=∀b,H b=none\/∃o xs,H b=some (.frz o (.lst xs))
theorem a50 {P:Program}{w:World}{K:PySem.W.Frag}{mg mb:Str->Option Value}{CX:CXT}{k:Nat}{fa a:Addr}{fd:FuncData}{x:Str}{sp:Sp}{s₁:Shared}{vs:List Value}{ns:List Int}
  (KX:K.In s₁.heap) (hns:s₁.heap.Ns mainGlobals mg) (hb:s₁.heap.Ns builtinsNs mb) (hbb:∀x:Str,x≠"__name__"->mb x=bootBuiltins x) (hlim:s₁.heap.NoLimit) (hg:s₁.gens= #[])
  (ha:s₁.heap.get? a=some { cls:=.type "list",data:=.seq vs.toArray}) (hi:IntsAre vs ns) (hl:ns.length<=sizeLine) (hr:Room k callerA)
  (F:∀base:Heap,K.In base->base.Ns mainGlobals mg->FnOk P w K mg base CX k fa fd [x] sp) (hbind:∀(s:Shared) (u:Value),BindsTo s fd ⟨[u],[]⟩ [(x,u)])
  (hsp:∀H:Hp,ax9 H->SqL K H a (ns.map V.int)->sp [.ref a] H (fun v _=>v=.bl true) fun _ _ _=>False)
  (hCX:∀H e s',CX [] H s₁ (fun _ _ _=>False) e s'->False) :
  codeAny (model P w) callerA (.call (.ref fa) ⟨[.ref a],[]⟩) (fun r s'=>r=.ok (.ret (.bool true))/\OldK s₁.heap s'.heap/\s'.os=s₁.os/\AllBare s'.gens) s₁:=by
 have rv:=kb hi
 have lenV:=hi.length
 have core:∀H:Hp,ax9 H->SqL K H a (ns.map V.int)->HOk P w H s₁.heap->(∀b,H b≠none->b=a)->(H a≠none->K.lookup a=none) ->
   codeAny (model P w) callerA (.call (.ref fa) ⟨[.ref a],[]⟩) (fun r s'=>r=.ok (.ret (.bool true))/\OldK s₁.heap s'.heap/\s'.os=s₁.os/\AllBare s'.gens) s₁:=by
  intro H hO hS hok hA hK
  have base_of:∀{b:Addr}{o:Obj},s₁.heap.get? b=some o->H b=none->(fo s₁.heap H).get? b=some o:=fun e n=>a61 e n
  have noA:∀{b:Addr}{o:Obj}{es:Array DictEntry}{ep:Nat},s₁.heap.get? b=some o->o.data=.dict es ep->H b=none:=fun{b o es ep} e d=>by
   cases q:H b with
   |none=>rfl
   |some u =>
    have e':b=a:=hA b (by rw[q];simp)
    subst e'
    rw[ha] at e;cases e
    have d':Data.seq vs.toArray _=Data.dict es ep:=d
    cases d'
  have nsK:∀{b:Addr}{m:Str->Option Value},s₁.heap.Ns b m->(fo s₁.heap H).Ns b m:=fun{b m} ⟨o,es,ep,e,d,r⟩=>⟨o,es,ep,base_of e (noA e d),d,r⟩
  have hKb:K.In (fo s₁.heap H):=fun b o e=>base_of (KX b o e) (by
   cases q:H b with
   |none=>rfl
   |some u =>
    have e':b=a:=hA b (by rw[q];simp)
    subst e'
    rw[hK (by rw[q];simp)] at e;cases e)
  have hM:Mod K mg (fo s₁.heap H):=⟨hKb,nsK hns,⟨mb,nsK hb,hbb⟩,let⟨mc,h1,h2⟩:=hlim;⟨mc,nsK h1,h2⟩⟩
  have e0:Env0 P w K mg (fo s₁.heap H) callerA [] s₁ H:=⟨rfl,hM,fun b o e=>ad9 e,Nat.le_of_eq (az _ _),trivial,fun b hb=>absurd (show b∈([]:List Addr) from hb) (by simp),hok,.of_eq hg⟩
  refine codeAny_mono ((F _ hKb (nsK hns)).run callerA [] s₁ H ⟨[.ref a],[]⟩ [.ref a] [.ref a] _ _ hr e0 (hbind s₁ (.ref a)) (.cons rfl .nil) (hsp H hO hS)) fun r s' h=>?_
  cases r with
  |error e=>exact(hCX H e s' h).elim
  |ok fl =>
   cases fl with
   |next=>exact False.elim h
   |brk=>exact False.elim h
   |cont=>exact False.elim h
   |ret u =>
    obtain⟨v,H',os,bare,un,hok',r',q⟩:=h
    have q':v=.bl true:=q
    subst q'
    obtain rfl:u=Value.bool true:=r'
    refine⟨rfl,OldK.of_keep fun b o e=>?_,os,bare⟩
    cases q:H b with
    |none=>exact un.keep b o e q (by intro z;exact absurd (show b∈([]:List Addr) from z) (by simp)) (by simp)
    |some u =>
     rcases hO b with z|⟨ob,xs,z⟩
     ·rw[q] at z;cases z
     ·have z2:=un.frzs b ob _ z
      obtain⟨e1,_⟩:=hok b _ z
      obtain⟨e2,_⟩:=hok' b _ z2
      rw[e] at e1;cases e1
      exact e2
 cases hk:K.lookup a with
 |some o =>
  have e:=KX a o hk
  rw[ha] at e
  cases e
  refine core (fun _=>none) (fun _=>.inl rfl) (.inr ⟨_,vs.toArray,_,hk,rfl,rfl,rfl,by rw[List.size_toArray,lenV];exact hl,by simpa using rv⟩) (fun b u z=>by have z':(none:Option HO)=some u:=z;cases z') (fun b z=>absurd rfl z) fun z=>absurd rfl z
 |none =>
  refine core (fun b=>if b=a then some (.frz { cls:=.type "list",data:=.seq vs.toArray} (.lst (ns.map V.int))) else none) (fun b=>?_) (.inl (.inr ⟨{ cls:=.type "list",data:=.seq vs.toArray},if_pos rfl⟩)) (fun b u z=>?_) (fun b z=>?_) fun _=>hk
  ·by_cases hb:b=a
   ·exact .inr ⟨_,_,if_pos hb⟩
   ·exact .inl (if_neg hb)
  ·by_cases hb:b=a
   ·have z':=(if_pos hb).symm.trans z
    cases z'
    subst hb
    exact⟨ha,by rw[List.length_map];exact hl,vs,_,rv,ha⟩
   ·have z':=(if_neg hb).symm.trans z
    cases z'
  ·by_cases hb:b=a
   ·exact hb
   ·exact absurd (if_neg hb) z
theorem walk_of {l:PySem.W.OpenLaw}{n k:Nat}{q:Program}{loose:List Str}{XP:(Str->Option Value)->Heap->Prop}{YP:World->Heap->Prop}{d:DefRec}{K:Params->PySem.W.Frag}{CX:World->CXT}{sp:World->Sp}{x:Str}
  (hn:l.most=some n) (hn2:n<=sizeLine) (hdf:d.params.defaults=[]) (hr:Room k callerA)
  (hY:∀(w:World) (h:Heap),YP w h->(K w.params).In h)
  (F:∀(w:World) (mg:Str->Option Value) (fa:Addr) (h:Heap),(K w.params).In h->h.Ns mainGlobals mg->mg d.name=some (.ref fa) ->
   ∃fd:FuncData,(∀(s:Shared) (u:Value),BindsTo s fd ⟨[u],[]⟩ [(x,u)]) /\
    ∀base:Heap,(K w.params).In base->base.Ns mainGlobals mg->FnOk l.prog w (K w.params) mg base (CX w) k fa fd [x] (sp w))
  (hsp:∀(w:World) (H:Hp) (a:Addr) (ns:List Int),ns.length<=n->ax9 H->SqL (K w.params) H a (ns.map V.int)->sp w [.ref a] H (fun v _=>v=.bl true) fun _ _ _=>False)
  (hCX:∀(w:World) (H:Hp) (s:Shared) (e:Value) (s':Shared),CX w [] H s (fun _ _ _=>False) e s'->False) :
  PySem.W.WalkO q loose XP YP l.row.toRowW d [] (fun f vs=>PySem.call f vs):=by
 refine Att.attach_call hn hdf fun w s₀ s₁ mg mb fa o pm cd doc a vs ns G Y ho hd hcd hmg hobj hints hlen hg=>?_
 have KX:=hY w _ Y
 obtain⟨fd,hb,hF⟩:=F w mg fa _ KX G.T.g hmg
 exact a50 KX G.T.g G.T.b G.T.builtins G.T.nolimit hg hobj hints (Nat.le_trans hlen hn2) hr hF hb (fun H hO hS=>hsp w H a ns hlen hO hS) fun H e s'=>hCX w H s₁ e s'
noncomputable def defArgs (s:Stmt):Arguments:=match s with
 |.FunctionDef _ a _ _ _ _ _ _ _ _=>a
 |_=>{ posonlyargs:=[],args:=[],vararg:=none,kwonlyargs:=[],kw_defaults:=[],kwarg:=none,defaults:=[]}
noncomputable def defBody (s:Stmt):List Stmt:=match s with
 |.FunctionDef _ _ b _ _ _ _ _ _ _=>b
 |_=>[]
noncomputable def defScope (s:Stmt):Scope:=match s with
 |.FunctionDef _ _ _ _ _ _ sc _ _ _=>sc
 |_=>{ kind:=.function,names:=[],isGenerator:=false,isCoroutine:=false}
noncomputable abbrev CX0:CXT:=fun _ _ _ _ _ _=>False
noncomputable abbrev E0:XK:=fun _ _ _=>False
theorem Fc {X:Cx}:Uy CX0 X E0:=fun _ _ _ _ _ _ _ h=>h.elim
structure Fun (K:PySem.W.Frag) (x qual:Str) (st:Stmt) (f:Addr) (fd:FuncData):Prop where
 ex:∃(oc:Value) (od:Option Addr) (kV doc pm:Value) (an:Option Addr) (cdv ct:Value) (osl:Array (Option Value)),
  fd=PySem.W.fnOf x qual (defArgs st) (defBody st) (defScope st) .none kV doc pm an cdv ct/\K.lookup f=some ⟨oc,od,.func fd,osl⟩/\PySem.W.codeIn K cdv qual=true
 kp:PySem.W.keepIn K (.ref f)=true
section
variable {P:Program}{w:World}{K:PySem.W.Frag}{mg:Str->Option Value}{base:Heap}
theorem Fun.ok {x qual:Str}{st:Stmt}{f:Addr}{fd:FuncData}{N ps:List Str}{k:Nat}{sp:Sp}(F:Fun K x qual st f fd) (S:FnScope N ps (defScope st)) (len:∀vs H Q E,sp vs H Q E->vs.length=ps.length)
  (hbody:∀(cdv:Value) (A:Around) (outer:List Env) (s:Shared) (H:Hp) (vs:List V) (Q:VK) (E:XK),Room k (A.deeper (envOfC qual (defScope st) s.heap.objs.size f cdv))->sp vs H Q E ->
   ∃t,PSs (uv CX0 P w K mg base N qual (defScope st) f cdv A outer s H E).nox (defBody st) t/\t { nx:=fun _ H'=>Q .non H',rt:=Q} (start N vs) H):FnOk P w K mg base CX0 (k+1) f fd ps sp:=by
 obtain⟨oc,od,kV,doc,pm,an,cdv,ct,osl,rfl,lk,hcd⟩:=F.ex
 refine a72 lk hcd S len fun A outer s H vs Q E hr hsp=>?_
 obtain⟨t,h,q⟩:=hbody cdv A outer s H vs Q E hr hsp
 exact⟨t,h.nox,q⟩
theorem Zx {x qual:Str}{st:Stmt}{f:Addr}{oc:Value}{od an:Option Addr}{osl:Array (Option Value)}{kV doc pm cdv ct:Value}(l:K.lookup f=some ⟨oc,od,.func (PySem.W.fnOf x qual (defArgs st) (defBody st) (defScope st) .none kV doc pm an cdv ct),osl⟩)
  (c:PySem.W.codeIn K cdv qual=true) (k:PySem.W.keepIn K (.ref f)=true):Fun K x qual st f (PySem.W.fnOf x qual (defArgs st) (defBody st) (defScope st) .none kV doc pm an cdv ct):=⟨⟨oc,od,kV,doc,pm,an,cdv,ct,osl,rfl,l,c⟩,k⟩
end
section
variable {X:Cx}
theorem pv (i:Nat) {x:Str}{pos:Pos}(hN:X.N[i]? =some x:=by rfl) (hv:Vis X.env.scope x:=by first|exact Or.inl rfl|exact Or.inr (Or.inl rfl)|exact Or.inr (Or.inr rfl)) (hd:(x==("__debug__":Str))=false:=by decide)
  (hcd:(x==("__classdict__":Str))=false:=by decide):PE X (.Name x pos) (kx i):=G8 hN hv hd hcd
end
noncomputable def ja (H H':Hp):Prop:=∀b o,H b=some o->H' b=some o
theorem ja.refl (H:Hp):ja H H:=fun _ _ h=>h
theorem ja.trans {H H1 H2:Hp}(a:ja H H1) (b:ja H1 H2):ja H H2:=fun c o h=>b c o (a c o h)
theorem ja.seq {K:PySem.W.Frag}{H H':Hp}{a:Addr}{xs:List V}(e:ja H H') (h:SqL K H a xs):SqL K H' a xs:=by
 rcases h with(h|⟨o,h⟩)|h
 ·exact .inl (.inl (e _ _ h))
 ·exact .inl (.inr ⟨o,e _ _ h⟩)
 ·exact .inr h
end L2
set_option maxHeartbeats 4000000
namespace M
open PySem PySem.Spec PyProof.Rows L2
noncomputable abbrev DK:=Sum Int (List Nat)
inductive D where
 |non|bl (b:Bool)|int (i:Int)|str (x:List Nat)|tup (xs:List D)|lst (xs:List D)|dic (ks:List DK) (vs:List D)|ref (k:Nat)
noncomputable def dk:DK->Key
 |.inl i=>.inl i
 |.inr x=>.inr ⟨x.toArray⟩
inductive Cell where
 |lst (ds:List D)|dic (ks:List DK) (vs:List D)|dead
 |exz (c:Str)|exn (c:Str) (j:Nat)|xdc (nm:Str) (d:D)|obj (c:Str) (ns:List Str) (ds:List D)
noncomputable abbrev Mu:=List Cell
structure Exc where
 c:Nat
 d:D
inductive Res (α:Type) where
 |ok (a:α) (μ:Mu)
 |exc (x:Exc) (μ:Mu)
 |bad
noncomputable def Res.bind {α β:Type}:Res α->(α->Mu->Res β)->Res β
 |.ok a μ,f=>f a μ
 |.exc x μ,_=>.exc x μ
 |.bad,_=>.bad
noncomputable def ofO {α:Type}(μ:Mu):Option α->Res α
 |some a=>.ok a μ
 |none=>.bad
@[simp] theorem bind_ok {α β:Type}(a:α) (μ:Mu) (f:α->Mu->Res β):(Res.ok a μ).bind f=f a μ:=rfl
@[simp] theorem ofO_some {α:Type}(μ:Mu) (a:α):ofO μ (some a)=.ok a μ:=rfl
noncomputable def deref (μ:Mu):D->D
 |.ref k=>match μ[k]? with
  |some (.lst ds)=>.lst ds
  |some (.dic ks vs)=>.dic ks vs
  |_=>.ref k
 |d=>d
@[simp] theorem deref_int (μ:Mu) (i:Int):deref μ (.int i)=.int i:=rfl
@[simp] theorem deref_dic (μ:Mu) (x:List DK) (y:List D):deref μ (.dic x y)=.dic x y:=rfl
noncomputable abbrev En:=List (Option D)
noncomputable abbrev MX:=En->Mu->Res D
noncomputable abbrev MB:=En->Mu->Res Bool
noncomputable abbrev MAs:=En->Mu->Res (List D)
inductive Out where
 |nx (ρ:En)|rt (d:D)|bk (ρ:En)|ct (ρ:En)
noncomputable abbrev MSt:=En->Mu->Res Out
mutual
noncomputable def Rep (K:PySem.W.Frag) (F:Hp) (α:List Addr):D->V->Prop
 |.non,v=>v=.non
 |.bl b,v=>v=.bl b
 |.int i,v=>v=.int i
 |.str x,v=>v=.str ⟨x.toArray⟩
 |.tup ds,v=>∃a vs,v=.ref a/\SqT K F a vs/\Reps K F α ds vs
 |.lst ds,v=>∃a vs,v=.ref a/\SqL K F a vs/\Reps K F α ds vs
 |.dic ks ds,v=>∃a vs,v=.ref a/\F a=some (.dK ((ks.map dk).zip vs))/\ks.length=ds.length/\Reps K F α ds vs
 |.ref k,v=>∃a,α[k]? =some a/\v=.ref a
noncomputable def Reps (K:PySem.W.Frag) (F:Hp) (α:List Addr):List D->List V->Prop
 |[],vs=>vs=[]
 |d::ds,vs=>∃v r,vs=v::r/\Rep K F α d v/\Reps K F α ds r
end
structure Ext (α:List Addr) (F:Hp) (α':List Addr) (F':Hp):Prop where
 fr:ja F F'
 al:∀(k:Nat) (a:Addr),α[k]? =some a->α'[k]? =some a
theorem Ext.refl (α:List Addr) (F:Hp):Ext α F α F:=⟨ja.refl F,fun _ _ h=>h⟩
theorem Ext.trans {α α1 α2:List Addr}{F F1 F2:Hp}(a:Ext α F α1 F1) (b:Ext α1 F1 α2 F2):Ext α F α2 F2:=⟨a.fr.trans b.fr,fun k x h=>b.al k x (a.al k x h)⟩
theorem ja.tup {K:PySem.W.Frag}{H H':Hp}{a:Addr}{xs:List V}(e:ja H H') (h:SqT K H a xs):SqT K H' a xs:=by
 rcases h with(h|⟨o,h⟩)|h
 ·exact .inl (.inl (e _ _ h))
 ·exact .inl (.inr ⟨o,e _ _ h⟩)
 ·exact .inr h
section
variable {K:PySem.W.Frag}{F F' H H':Hp}{α α':List Addr}
mutual
theorem Rep.mono (e:Ext α F α' F'):∀{d:D}{v:V},Rep K F α d v->Rep K F' α' d v
 |.non,_,h=>h
 |.bl _,_,h=>h
 |.int _,_,h=>h
 |.str _,_,h=>h
 |.tup ds,v,h=>by
  unfold Rep at h ⊢
  obtain⟨a,vs,hv,hs,hr⟩:=h
  exact⟨a,vs,hv,ja.tup e.fr hs,Reps.mono e hr⟩
 |.lst ds,v,h=>by
  unfold Rep at h ⊢
  obtain⟨a,vs,hv,hs,hr⟩:=h
  exact⟨a,vs,hv,e.fr.seq hs,Reps.mono e hr⟩
 |.dic ks ds,v,h=>by
  unfold Rep at h ⊢
  obtain⟨a,vs,hv,hs,hl,hr⟩:=h
  exact⟨a,vs,hv,e.fr _ _ hs,hl,Reps.mono e hr⟩
 |.ref k,v,h=>by
  unfold Rep at h ⊢
  obtain⟨a,ha,hv⟩:=h
  exact⟨a,e.al k a ha,hv⟩
theorem Reps.mono (e:Ext α F α' F'):∀{ds:List D}{vs:List V},Reps K F α ds vs->Reps K F' α' ds vs
 |[],_,h=>h
 |d::ds,vs,h=>by
  unfold Reps at h ⊢
  obtain⟨v,r,hv,h1,h2⟩:=h
  exact⟨v,r,hv,Rep.mono e h1,Reps.mono e h2⟩
end
theorem Reps.length:∀{ds:List D}{vs:List V},Reps K F α ds vs->ds.length=vs.length
 |[],vs,h=>by unfold Reps at h;subst h;rfl
 |d::ds,vs,h=>by
  unfold Reps at h
  obtain⟨v,r,hv,_,h2⟩:=h
  subst hv
  simp[Reps.length h2]
theorem Reps.get:∀{ds:List D}{vs:List V}{i:Nat}{d:D},Reps K F α ds vs->ds[i]? =some d->∃v,vs[i]? =some v/\Rep K F α d v
 |[],_,_,_,_,e=>by simp at e
 |d::ds,vs,0,d',h,e=>by
  unfold Reps at h
  obtain⟨v,r,hv,h1,_⟩:=h
  subst hv
  simp at e
  subst e
  exact⟨v,rfl,h1⟩
 |d::ds,vs,i+1,d',h,e=>by
  unfold Reps at h
  obtain⟨v,r,hv,_,h2⟩:=h
  subst hv
  obtain⟨u,hu,hr⟩:=Reps.get (i:=i) (d:=d') h2 (by simpa using e)
  exact⟨u,by simpa using hu,hr⟩
theorem Reps.append:∀{ds es:List D}{vs us:List V},Reps K F α ds vs->Reps K F α es us->Reps K F α (ds++es) (vs++us)
 |[],_,_,_,h,h'=>by unfold Reps at h;subst h;exact h'
 |d::ds,es,vs,us,h,h'=>by
  unfold Reps at h
  obtain⟨v,r,hv,h1,h2⟩:=h
  subst hv
  show Reps K F α (d::(ds++es)) (v::(r++us))
  unfold Reps
  exact⟨v,_,rfl,h1,Reps.append h2 h'⟩
theorem J5:Reps K F α [] []:=by unfold Reps;rfl
theorem j5 {d:D}{ds:List D}{v:V}{vs:List V}(h:Rep K F α d v) (h':Reps K F α ds vs):Reps K F α (d::ds) (v::vs):=by unfold Reps;exact⟨v,vs,rfl,h,h'⟩
theorem Reps.take:∀{ds:List D}{vs:List V}(n:Nat),Reps K F α ds vs->Reps K F α (ds.take n) (vs.take n)
 |_,_,0,_=>by simp;exact J5
 |[],vs,n+1,h=>by unfold Reps at h;subst h;exact J5
 |d::ds,vs,n+1,h=>by
  unfold Reps at h
  obtain⟨v,r,hv,h1,h2⟩:=h
  subst hv
  simp only[List.take_succ_cons]
  exact j5 h1 (Reps.take n h2)
theorem Reps.drop:∀{ds:List D}{vs:List V}(n:Nat),Reps K F α ds vs->Reps K F α (ds.drop n) (vs.drop n)
 |_,_,0,h=>h
 |[],vs,n+1,h=>by unfold Reps at h;subst h;exact J5
 |d::ds,vs,n+1,h=>by
  unfold Reps at h
  obtain⟨v,r,hv,h1,h2⟩:=h
  subst hv
  exact Reps.drop n h2
end
noncomputable def cA (K:PySem.W.Frag) (x:Str):Addr:=match PySem.W.nsIn K mainGlobals x with
 |some (some (.ref C))=>C
 |_=>0
theorem Jq {K:PySem.W.Frag}{x:Str}{C:Addr}(h:PySem.W.nsIn K mainGlobals x=some (some (.ref C))):cA K x=C:=by unfold cA;rw[h]
noncomputable def Uw (a:Addr) (C:Value) (dx:Option Addr):Heap->Prop:=fun h=>∃vs sl,h.get? a=some ⟨C,dx,.fields vs,sl⟩
noncomputable def ya (K:PySem.W.Frag) (α:List Addr) (F H:Hp) (a:Addr):Cell->Prop
 |.lst ds=>F a=none/\∃vs,H a=some (.lst vs)/\Reps K F α ds vs
 |.dic ks ds=>F a=none/\∃vs,H a=some (.dK ((ks.map dk).zip vs))/\ks.length=ds.length/\Reps K F α ds vs
 |.dead=>True
 |.exn C j=>F a=none/\∃dx,α[j]? =some dx/\H a=some (.ext (Uw a (.ref (cA K C)) (some dx)))
 |.exz C=>F a=none/\H a=some (.ext (Uw a (.ref (cA K C)) none))
 |.xdc nm d=>F a=none/\∃v,H a=some (.xd [(nm,v)])/\Rep K F α d v
 |.obj C ns ds=>F a=none/\∃dx vs,H a=some (.ins (cA K C) dx (ns.zip vs))/\ns.length=ds.length/\Reps K F α ds vs
theorem ya.live {K:PySem.W.Frag}{α:List Addr}{F H:Hp}{a:Addr}{c:Cell}(h:ya K α F H a c) (hd:c≠.dead):F a=none/\∃o,H a=some o:=by
 cases c with
 |dead=>exact absurd rfl hd
 |lst ds=>exact⟨h.1,let⟨_,_,z,_⟩:=h;⟨_,z⟩⟩
 |dic ks ds=>exact⟨h.1,let⟨_,_,z,_⟩:=h;⟨_,z⟩⟩
 |exn C j=>exact⟨h.1,let⟨_,_,_,z⟩:=h;⟨_,z⟩⟩
 |exz C=>exact⟨h.1,_,h.2⟩
 |xdc nm d=>exact⟨h.1,let⟨_,_,z,_⟩:=h;⟨_,z⟩⟩
 |obj C ns ds=>exact⟨h.1,let⟨_,_,_,z,_⟩:=h;⟨_,z⟩⟩
theorem ya.go {K:PySem.W.Frag}{α α':List Addr}{F H F' H':Hp}{a:Addr}{c:Cell}(h:ya K α F H a c) (e:Ext α F α' F') (hf:c≠.dead->F' a=F a) (hh:c≠.dead->H' a=H a):ya K α' F' H' a c:=by
 cases c with
 |dead=>trivial
 |lst ds=>obtain⟨h1,vs,h2,h3⟩:=h;exact⟨by rw[hf (by simp)];exact h1,vs,by rw[hh (by simp)];exact h2,h3.mono e⟩
 |dic ks ds=>obtain⟨h1,vs,h2,hl,h3⟩:=h;exact⟨by rw[hf (by simp)];exact h1,vs,by rw[hh (by simp)];exact h2,hl,h3.mono e⟩
 |exn C j=>obtain⟨h1,dx,h2,h3⟩:=h;exact⟨by rw[hf (by simp)];exact h1,dx,e.al _ _ h2,by rw[hh (by simp)];exact h3⟩
 |exz C=>obtain⟨h1,h2⟩:=h;exact⟨by rw[hf (by simp)];exact h1,by rw[hh (by simp)];exact h2⟩
 |xdc nm d=>obtain⟨h1,v,h2,h3⟩:=h;exact⟨by rw[hf (by simp)];exact h1,v,by rw[hh (by simp)];exact h2,h3.mono e⟩
 |obj C ns ds=>obtain⟨h1,dx,vs,h2,hl,h3⟩:=h;exact⟨by rw[hf (by simp)];exact h1,dx,vs,by rw[hh (by simp)];exact h2,hl,h3.mono e⟩
structure ZS where
 z:Hp
 a0:List Addr
 f0:Hp
noncomputable def ZS.up (Z:ZS) (p:Addr) (o:HO):ZS:={ Z with z:=upd Z.z p o}
theorem yy {Z:ZS}{p b:Addr}{o:HO}(h:b≠p):(Z.up p o).z b=Z.z b:=jz h
theorem Ud {Z:ZS}{p:Addr}{o:HO}:(Z.up p o).z p=some o:=jt
structure RH (K:PySem.W.Frag) (Z:ZS) (α:List Addr) (F H:Hp) (μ:Mu):Prop where
 sub:ja F H
 len:α.length=μ.length
 cell:∀(k:Nat) (a:Addr) (c:Cell),α[k]? =some a->μ[k]? =some c->ya K α F H a c
 zs:ja Z.z H
 zf:∀(a:Addr) (o:HO),Z.z a=some o->F a=none
 zc:∀(k:Nat) (a:Addr) (c:Cell),α[k]? =some a->μ[k]? =some c->c≠.dead->Z.z a=none
 dis:∀(j k:Nat) (a:Addr) (c c':Cell),α[j]? =some a->α[k]? =some a->μ[j]? =some c->μ[k]? =some c'->c≠.dead->c'≠.dead->j=k
 ext:Ext Z.a0 Z.f0 α F
structure RS (K:PySem.W.Frag) (Z:ZS) (α:List Addr) (F H:Hp) (σ:L2.St) (ρ:En) (μ:Mu):Prop where
 hp:RH K Z α F H μ
 len:ρ.length=σ.length
 sl:∀(i:Nat) (d:D),ρ[i]? =some (some d)->∃v,σ[i]? =some (some v)/\Rep K F α d v
theorem RS.to {K:PySem.W.Frag}{Z:ZS}{α α':List Addr}{F H F' H':Hp}{σ:L2.St}{ρ:En}{μ μ':Mu}(r:RS K Z α F H σ ρ μ) (h:RH K Z α' F' H' μ') (e:Ext α F α' F'):RS K Z α' F' H' σ ρ μ' :=
 ⟨h,r.len,fun i d hd=>let⟨v,h1,h2⟩:=r.sl i d hd;⟨v,h1,h2.mono e⟩⟩
theorem xz {F H:Hp}{p:Addr}{o:HO}(hs:ja F H) (hp:H p=none):ja F (upd F p o):=fun b u e=>by
 have:b≠p:=fun z=>by subst z;rw[hs _ _ e] at hp;cases hp
 rw[jz this];exact e
theorem RH.lay {K:PySem.W.Frag}{Z:ZS}{α:List Addr}{F H:Hp}{μ:Mu}{p:Addr}(o:HO) (r:RH K Z α F H μ) (hp:H p=none):RH K Z α (upd F p o) (upd H p o) μ:=by
 have sF:=xz (o:=o) r.sub hp
 have ex:Ext α F α (upd F p o):=⟨sF,fun _ _ h=>h⟩
 refine⟨fun b u e=>?_,r.len,fun k a c ha hc=>?_,fun b u e=>?_,fun b u e=>?_,r.zc,r.dis,r.ext.trans ex⟩
 ·by_cases hb:b=p
  ·subst hb;rw[jt] at e ⊢;exact e
  ·rw[jz hb] at e ⊢;exact r.sub b u e
 ·have h:=r.cell k a c ha hc
  have ne:c≠.dead->a≠p:=fun hd=>let⟨_,_,z⟩:=h.live hd;js z hp
  exact h.go ex (fun hd=>jz (ne hd)) fun hd=>jz (ne hd)
 ·rw[jz (js (r.zs b u e) hp)];exact r.zs b u e
 ·rw[jz (js (r.zs b u e) hp)];exact r.zf b u e
theorem RH.layExt {K:PySem.W.Frag}{Z:ZS}{α:List Addr}{F H:Hp}{μ:Mu}{p:Addr}(o:HO) (r:RH K Z α F H μ) (hp:H p=none):Ext α F α (upd F p o):=⟨xz r.sub hp,fun _ _ h=>h⟩
noncomputable def Pk (K:PySem.W.Frag) (α:List Addr) (F H:Hp):D->V->Prop
 |.lst ds,v=>∃a vs,v=.ref a/\SqL K H a vs/\Reps K F α ds vs
 |.dic ks ds,v=>∃a vs,v=.ref a/\H a=some (.dK ((ks.map dk).zip vs))/\ks.length=ds.length/\Reps K F α ds vs
 |d,v=>Rep K F α d v
theorem RH.pk {K:PySem.W.Frag}{Z:ZS}{α:List Addr}{F H:Hp}{μ:Mu}{d:D}{v:V}(r:RH K Z α F H μ) (h:Rep K F α d v):Pk K α F H (deref μ d) v:=by
 cases d with
 |non=>exact h
 |bl b=>exact h
 |int i=>exact h
 |str x=>exact h
 |tup ds=>exact h
 |lst ds =>
  unfold Rep at h
  obtain⟨a,vs,hv,hs,hr⟩:=h
  exact⟨a,vs,hv,r.sub.seq hs,hr⟩
 |dic ks ds =>
  unfold Rep at h
  obtain⟨a,vs,hv,hs,hl,hr⟩:=h
  exact⟨a,vs,hv,r.sub _ _ hs,hl,hr⟩
 |ref k =>
  have h0:=h
  unfold Rep at h
  obtain⟨a,ha,hv⟩:=h
  cases e:μ[k]? with
  |none=>rw[show deref μ (.ref k)=.ref k by simp only[deref,e]];exact h0
  |some c =>
   have hc:=r.cell k a c ha e
   cases c with
   |lst ds =>
    obtain⟨_,vs,h2,h3⟩:=hc
    rw[show deref μ (.ref k)=.lst ds by simp only[deref,e]]
    exact⟨a,vs,hv,SqL.of h2,h3⟩
   |dic ks ds =>
    obtain⟨_,vs,h2,hl,h3⟩:=hc
    rw[show deref μ (.ref k)=.dic ks ds by simp only[deref,e]]
    exact⟨a,vs,hv,h2,hl,h3⟩
   |_=>rw[show deref μ (.ref k)=.ref k by simp only[deref,e]];exact h0
structure EXT where
 P:ZS->Exc->Mu->Prop
 mono:∀(Z:ZS) (p:Addr) (o:HO) (x:Exc) (μ:Mu),Z.z p=none->P Z x μ->P (Z.up p o) x μ
noncomputable def GE (K:PySem.W.Frag) (EX:EXT) (Z:ZS) (α:List Addr) (F:Hp) (Q:VK):Res D->Prop
 |.ok d μ'=>∀v α' F' H',RH K Z α' F' H' μ'->Ext α F α' F'->Rep K F' α' d v->Q v H'
 |.exc x μ'=>EX.P Z x μ'
 |.bad=>False
noncomputable def GB (K:PySem.W.Frag) (EX:EXT) (Z:ZS) (α:List Addr) (F:Hp) (Q:Bool->Hp->Prop):Res Bool->Prop
 |.ok b μ'=>∀α' F' H',RH K Z α' F' H' μ'->Ext α F α' F'->Q b H'
 |.exc x μ'=>EX.P Z x μ'
 |.bad=>False
noncomputable def GA (K:PySem.W.Frag) (EX:EXT) (Z:ZS) (α:List Addr) (F:Hp) (Q:List V->Hp->Prop):Res (List D)->Prop
 |.ok ds μ'=>∀vs α' F' H',RH K Z α' F' H' μ'->Ext α F α' F'->Reps K F' α' ds vs->Q vs H'
 |.exc x μ'=>EX.P Z x μ'
 |.bad=>False
noncomputable def GS (K:PySem.W.Frag) (EX:EXT) (Z:ZS) (α:List Addr) (F:Hp) (N:Ends):Res Out->Prop
 |.ok (.nx ρ') μ'=>∀σ' α' F' H',RS K Z α' F' H' σ' ρ' μ'->Ext α F α' F'->N.nx σ' H'
 |.ok (.bk ρ') μ'=>∀σ' α' F' H',RS K Z α' F' H' σ' ρ' μ'->Ext α F α' F'->N.bk σ' H'
 |.ok (.ct ρ') μ'=>∀σ' α' F' H',RS K Z α' F' H' σ' ρ' μ'->Ext α F α' F'->N.ct σ' H'
 |.ok (.rt d) μ'=>∀v α' F' H',RH K Z α' F' H' μ'->Ext α F α' F'->Rep K F' α' d v->N.rt v H'
 |.exc x μ'=>EX.P Z x μ'
 |.bad=>False
noncomputable def ME (X:Cx) (EX:EXT) (e:Expr) (m:MX):Prop:=∃t:TE,PE X e t/\∀Z α F H σ ρ μ Q,RS X.K Z α F H σ ρ μ->GE X.K EX Z α F Q (m ρ μ)->t σ H Q
noncomputable def MT (X:Cx) (EX:EXT) (e:Expr) (m:MB):Prop:=∃t:TT,PT X e t/\∀Z α F H σ ρ μ Q,RS X.K Z α F H σ ρ μ->GB X.K EX Z α F Q (m ρ μ)->t σ H Q
noncomputable def MW (X:Cx) (EX:EXT) (e:Expr) (m:MB):Prop:=∃t:TT,PW X e t/\∀Z α F H σ ρ μ Q,RS X.K Z α F H σ ρ μ->GB X.K EX Z α F Q (m ρ μ)->t σ H Q
noncomputable def MA (X:Cx) (EX:EXT) (es:List Expr) (m:MAs):Prop:=∃t:TA,PA X es t/\(∀Z α F H σ ρ μ Q,RS X.K Z α F H σ ρ μ->GA X.K EX Z α F Q (m ρ μ)->t σ H Q)/\∀ρ μ ds μ',m ρ μ=.ok ds μ'->ds.length=es.length
noncomputable def MS (X:Cx) (EX:EXT) (st:Stmt) (m:MSt):Prop:=∃t:TS,PS X st t/\∀Z α F H σ ρ μ N,RS X.K Z α F H σ ρ μ->GS X.K EX Z α F N (m ρ μ)->t N σ H
noncomputable def MSs (X:Cx) (EX:EXT) (st:List Stmt) (m:MSt):Prop:=∃t:TS,PSs X st t/\∀Z α F H σ ρ μ N,RS X.K Z α F H σ ρ μ->GS X.K EX Z α F N (m ρ μ)->t N σ H
theorem GE.ext {K:PySem.W.Frag}{EX:EXT}{Z:ZS}{α α1:List Addr}{F F1:Hp}{Q:VK}{r:Res D}(e:Ext α F α1 F1) (h:GE K EX Z α F Q r):GE K EX Z α1 F1 Q r:=by
 cases r with
 |ok d μ=>exact fun v α' F' H' R e' q=>h v α' F' H' R (e.trans e') q
 |exc x μ=>exact h
 |bad=>exact h
theorem GB.ext {K:PySem.W.Frag}{EX:EXT}{Z:ZS}{α α1:List Addr}{F F1:Hp}{Q:Bool->Hp->Prop}{r:Res Bool}(e:Ext α F α1 F1) (h:GB K EX Z α F Q r):GB K EX Z α1 F1 Q r:=by
 cases r with
 |ok d μ=>exact fun α' F' H' R e'=>h α' F' H' R (e.trans e')
 |exc x μ=>exact h
 |bad=>exact h
theorem GS.ext {K:PySem.W.Frag}{EX:EXT}{Z:ZS}{α α1:List Addr}{F F1:Hp}{N:Ends}{r:Res Out}(e:Ext α F α1 F1) (h:GS K EX Z α F N r):GS K EX Z α1 F1 N r:=by
 cases r with
 |ok o μ =>
  cases o with
  |nx ρ=>exact fun σ' α' F' H' R e'=>h σ' α' F' H' R (e.trans e')
  |bk ρ=>exact fun σ' α' F' H' R e'=>h σ' α' F' H' R (e.trans e')
  |ct ρ=>exact fun σ' α' F' H' R e'=>h σ' α' F' H' R (e.trans e')
  |rt d=>exact fun v α' F' H' R e' q=>h v α' F' H' R (e.trans e') q
 |exc x μ=>exact h
 |bad=>exact h
theorem GE.step {K:PySem.W.Frag}{EX:EXT}{Z:ZS}{α:List Addr}{F:Hp}{r:Res D}{β:Type}{f:D->Mu->Res β}{G:Res β->Prop}{Q:VK}(h:G (r.bind f)) (hx:∀x μ,G (.exc x μ)->EX.P Z x μ) (hb:¬G .bad)
  (hk:∀d μ' v α' F' H',RH K Z α' F' H' μ'->Ext α F α' F'->Rep K F' α' d v->G (f d μ')->Q v H'):GE K EX Z α F Q r:=by
 cases r with
 |ok d μ=>exact fun v α' F' H' R e q=>hk d μ v α' F' H' R e q h
 |exc x μ=>exact hx _ _ h
 |bad=>exact hb h
theorem GB.step {K:PySem.W.Frag}{EX:EXT}{Z:ZS}{α:List Addr}{F:Hp}{r:Res Bool}{β:Type}{f:Bool->Mu->Res β}{G:Res β->Prop}{Q:Bool->Hp->Prop}(h:G (r.bind f)) (hx:∀x μ,G (.exc x μ)->EX.P Z x μ) (hb:¬G .bad)
  (hk:∀d μ' α' F' H',RH K Z α' F' H' μ'->Ext α F α' F'->G (f d μ')->Q d H'):GB K EX Z α F Q r:=by
 cases r with
 |ok d μ=>exact fun α' F' H' R e=>hk d μ α' F' H' R e h
 |exc x μ=>exact hx _ _ h
 |bad=>exact hb h
theorem GA.step {K:PySem.W.Frag}{EX:EXT}{Z:ZS}{α:List Addr}{F:Hp}{r:Res (List D)}{β:Type}{f:List D->Mu->Res β}{G:Res β->Prop}{Q:List V->Hp->Prop}(h:G (r.bind f)) (hx:∀x μ,G (.exc x μ)->EX.P Z x μ) (hb:¬G .bad)
  (hk:∀d μ' v α' F' H',RH K Z α' F' H' μ'->Ext α F α' F'->Reps K F' α' d v->G (f d μ')->Q v H'):GA K EX Z α F Q r:=by
 cases r with
 |ok d μ=>exact fun v α' F' H' R e q=>hk d μ v α' F' H' R e q h
 |exc x μ=>exact hx _ _ h
 |bad=>exact hb h
theorem GA.stepE {K:PySem.W.Frag}{EX:EXT}{Z:ZS}{α:List Addr}{F:Hp}{r:Res (List D)}{β:Type}{f:List D->Mu->Res β}{G:Res β->Prop}{Q:List V->Hp->Prop}(h:G (r.bind f)) (hx:∀x μ,G (.exc x μ)->EX.P Z x μ) (hb:¬G .bad)
  (hk:∀d μ' v α' F' H',r=.ok d μ'->RH K Z α' F' H' μ'->Ext α F α' F'->Reps K F' α' d v->G (f d μ')->Q v H'):GA K EX Z α F Q r:=by
 cases r with
 |ok d μ=>exact fun v α' F' H' R e q=>hk d μ v α' F' H' rfl R e q h
 |exc x μ=>exact hx _ _ h
 |bad=>exact hb h
end M
namespace M
open PySem PySem.Spec PyProof.Rows L2
section
variable {X:Cx}{EX:EXT}{e a b c:Expr}{pos:Pos}{m ma mb mc:MX}{es rest:List Expr}
noncomputable def mVar (i:Nat):MX:=fun ρ μ=>match ρ[i]? with
 |some (some d)=>.ok d μ
 |_=>.bad
noncomputable def mC (d:D):MX:=fun _ μ=>.ok d μ
theorem Dh {i:Nat}{x:Str}(hN:X.N[i]? =some x) (hv:Vis X.env.scope x) (hd:(x==("__debug__":Str))=false) (hcd:(x==("__classdict__":Str))=false):ME X EX (.Name x pos) (mVar i):=by
 refine⟨kx i,G8 hN hv hd hcd,fun Z α F H σ ρ μ Q R g=>?_⟩
 unfold mVar at g
 cases e:ρ[i]? with
 |none=>rw[e] at g;exact g.elim
 |some o =>
  cases o with
  |none=>rw[e] at g;exact g.elim
  |some d =>
   rw[e] at g
   obtain⟨v,h1,h2⟩:=R.sl i d e
   exact⟨v,h1,g v α F H R.hp (Ext.refl _ _) h2⟩
theorem af5 {v:V}{d:D}(h:PE X e (tC v)) (r:∀(F:Hp) (α:List Addr),Rep X.K F α d v):ME X EX e (mC d) :=
 ⟨_,h,fun Z α F H σ ρ μ Q R g=>g v α F H R.hp (Ext.refl _ _) (r F α)⟩
theorem me_int {i j}:ME X EX (.Constant (.int i) j pos) (mC (.int i)):=af5 aq9 fun _ _=>by unfold Rep;rfl
theorem w9 {j}:ME X EX (.Constant .none j pos) (mC .non):=af5 aq8 fun _ _=>by unfold Rep;rfl
theorem me_str {x:Str}{cs:List Nat}{j} (h:x=⟨cs.toArray⟩):ME X EX (.Constant (.str x) j pos) (mC (.str cs)):=af5 G9 fun _ _=>by unfold Rep;rw[h]
noncomputable abbrev G2:=D->D->Option D
noncomputable def j0 (g:G2) (ma mb:MX):MX:=fun ρ μ=>(ma ρ μ).bind fun x μ1=>(mb ρ μ1).bind fun y μ2=>ofO μ2 (g (deref μ2 x) (deref μ2 y))
noncomputable def Up (K:PySem.W.Frag) (r:R2) (g:G2):Prop:=∀Z α F H μ a b c x y Q,RH K Z α F H μ->Pk K α F H a x->Pk K α F H b y->g a b=some c ->
 (∀v F' H',RH K Z α F' H' μ->ja F F'->Rep K F' α c v->Q v H')->r x y H Q
noncomputable def OpM (X:Cx) (f:Value->Value->Sem Value) (g:G2):Prop:=∃r,OpR X f r/\Up X.K r g
noncomputable def Qc (X:Cx) (EX:EXT) (t:TE) (m:MX):Prop:=∀Z α F H σ ρ μ Q,RS X.K Z α F H σ ρ μ->GE X.K EX Z α F Q (m ρ μ)->t σ H Q
theorem Yi {ta tb:TE}{r:R2}{g:G2}(sa:Qc X EX ta ma) (sb:Qc X EX tb mb) (ho:Up X.K r g):Qc X EX (tOp r ta tb) (j0 g ma mb):=by
 intro Z α F H σ ρ μ Q R gd
 refine sa Z α F H σ ρ μ _ R (GE.step (G:=GE X.K EX Z α F Q) gd (fun _ _ h=>h) (fun h=>h) fun d1 μ1 v1 α1 F1 H1 R1 e1 p1 g1=>?_)
 refine sb Z α1 F1 H1 σ ρ μ1 _ (R.to R1 e1) (GE.step (G:=GE X.K EX Z α F Q) g1 (fun _ _ h=>h) (fun h=>h) fun d2 μ2 v2 α2 F2 H2 R2 e2 p2 g2=>?_)
 cases hg:g (deref μ2 d1) (deref μ2 d2) with
 |none=>rw[hg] at g2;exact g2.elim
 |some c =>
  rw[hg] at g2
  exact ho Z α2 F2 H2 μ2 _ _ c v1 v2 Q R2 (R2.pk (p1.mono e2)) (R2.pk p2) hg fun v F' H' R' sf rp=>g2 v α2 F' H' R' (e1.trans (e2.trans ⟨sf,fun _ _ h=>h⟩)) rp
theorem j6 {op:Operator}{g:G2}(ho:OpM X (binaryOp op) g) (ha:ME X EX a ma) (hb:ME X EX b mb):ME X EX (.BinOp a op b pos) (j0 g ma mb):=by
 obtain⟨r,h1,h2⟩:=ho
 obtain⟨ta,pa,sa⟩:=ha
 obtain⟨tb,pb,sb⟩:=hb
 exact⟨_,aB8 h1 pa pb,Yi sa sb h2⟩
theorem me_cmp {op:CmpOp}{g:G2}(ho:OpM X (compareOp op) g) (ha:ME X EX a ma) (hb:ME X EX b mb) (hm:behindInMarks op b=false):ME X EX (.Compare a [op] [b] pos) (j0 g ma mb):=by
 obtain⟨r,h1,h2⟩:=ho
 obtain⟨ta,pa,sa⟩:=ha
 obtain⟨tb,pb,sb⟩:=hb
 exact⟨_,ac3 h1 pa pb hm,Yi sa sb h2⟩
noncomputable def asB (d:D):Option Bool:=match d with
 |.bl b=>some b
 |_=>none
noncomputable def j8 (m:MX):MB:=fun ρ μ=>(m ρ μ).bind fun d μ1=>ofO μ1 (asB d)
noncomputable def aH7 (X:Cx) (EX:EXT) (t:TT) (m:MB):Prop:=∀Z α F H σ ρ μ Q,RS X.K Z α F H σ ρ μ->GB X.K EX Z α F Q (m ρ μ)->t σ H Q
theorem yt {t:TE}(h:Qc X EX t m):aH7 X EX (fun σ H Q=>t σ H fun x H'=>∃k,x=.bl k/\Q k H') (j8 m):=by
 intro Z α F H σ ρ μ Q R g
 refine h Z α F H σ ρ μ _ R (GE.step (G:=GB X.K EX Z α F Q) g (fun _ _ h=>h) (fun h=>h) fun d μ1 v α1 F1 H1 R1 e1 p g1=>?_)
 cases d with
 |bl k=>unfold Rep at p;exact⟨k,p,g1 α1 F1 H1 R1 e1⟩
 |_=>exact g1.elim
theorem mt_cmp {op:CmpOp}{g:G2}(ho:OpM X (compareOp op) g) (ha:ME X EX a ma) (hb:ME X EX b mb) (hm:behindInMarks op b=false):MT X EX (.Compare a [op] [b] pos) (j8 (j0 g ma mb)):=by
 obtain⟨r,h1,h2⟩:=ho
 obtain⟨ta,pa,sa⟩:=ha
 obtain⟨tb,pb,sb⟩:=hb
 exact⟨_,ab0 h1 pa pb hm,yt (Yi sa sb h2)⟩
noncomputable def q0 (g g':G2) (ma mb mc:MX):MX:=fun ρ μ=>(ma ρ μ).bind fun x μ1=>(mb ρ μ1).bind fun y μ2=>(ofO μ2 ((g (deref μ2 x) (deref μ2 y)).bind asB)).bind fun k μ3 =>
 match k with
 |true=>(mc ρ μ3).bind fun z μ4=>ofO μ4 (g' (deref μ4 y) (deref μ4 z))
 |false=>.ok (.bl false) μ3
theorem Vr {ta tb tc:TE}{r r':R2}{g g':G2}(sa:Qc X EX ta ma) (sb:Qc X EX tb mb) (sc:Qc X EX tc mc) (ho:Up X.K r g) (ho':Up X.K r' g') :
  Qc X EX (D4 r r' ta tb tc) (q0 g g' ma mb mc):=by
 intro Z α F H σ ρ μ Q R gd
 refine sa Z α F H σ ρ μ _ R (GE.step (G:=GE X.K EX Z α F Q) gd (fun _ _ h=>h) (fun h=>h) fun d1 μ1 v1 α1 F1 H1 R1 e1 p1 g1=>?_)
 refine sb Z α1 F1 H1 σ ρ μ1 _ (R.to R1 e1) (GE.step (G:=GE X.K EX Z α F Q) g1 (fun _ _ h=>h) (fun h=>h) fun d2 μ2 v2 α2 F2 H2 R2 e2 p2 g2=>?_)
 cases hg:g (deref μ2 d1) (deref μ2 d2) with
 |none=>rw[hg] at g2;exact g2.elim
 |some c =>
  rw[hg] at g2
  cases c with
  |bl k =>
   refine ho Z α2 F2 H2 μ2 _ _ (.bl k) v1 v2 _ R2 (R2.pk (p1.mono e2)) (R2.pk p2) hg fun v F' H' R' sf rp=>?_
   unfold Rep at rp
   refine⟨k,rp,?_⟩
   have e3:Ext α2 F2 α2 F':=⟨sf,fun _ _ h=>h⟩
   cases k with
   |false=>exact g2 _ α2 F' H' R' (e1.trans (e2.trans e3)) (by unfold Rep;rfl)
   |true =>
    refine sc Z α2 F' H' σ ρ μ2 _ (R.to R' (e1.trans (e2.trans e3))) (GE.step (G:=GE X.K EX Z α F Q) g2 (fun _ _ h=>h) (fun h=>h) fun d4 μ4 v4 α4 F4 H4 R4 e4 p4 g4=>?_)
    cases hg':g' (deref μ4 d2) (deref μ4 d4) with
    |none=>rw[hg'] at g4;exact g4.elim
    |some c' =>
     rw[hg'] at g4
     exact ho' Z α4 F4 H4 μ4 _ _ c' v2 v4 Q R4 (R4.pk (p2.mono (e3.trans e4))) (R4.pk p4) hg' fun v F' H' R' sf rp=>g4 v α4 F' H' R' (e1.trans (e2.trans (e3.trans (e4.trans ⟨sf,fun _ _ h=>h⟩)))) rp
  |_=>exact g2.elim
theorem a41 {op op':CmpOp}{g g':G2}(ho:OpM X (compareOp op) g) (ho':OpM X (compareOp op') g') (ha:ME X EX a ma) (hb:ME X EX b mb) (hc:ME X EX c mc)
  (hm:lastMarks [op,op'] [b,c]=false):ME X EX (.Compare a [op,op'] [b,c] pos) (q0 g g' ma mb mc):=by
 obtain⟨r,h1,h2⟩:=ho
 obtain⟨r',h1',h2'⟩:=ho'
 obtain⟨ta,pa,sa⟩:=ha
 obtain⟨tb,pb,sb⟩:=hb
 obtain⟨tc,pc,sc⟩:=hc
 exact⟨_,a15 h1 h1' pa pb pc hm,Vr sa sb sc h2 h2'⟩
theorem a35 {op op':CmpOp}{g g':G2}(ho:OpM X (compareOp op) g) (ho':OpM X (compareOp op') g') (ha:ME X EX a ma) (hb:ME X EX b mb) (hc:ME X EX c mc)
  (hm:lastMarks [op,op'] [b,c]=false):MT X EX (.Compare a [op,op'] [b,c] pos) (j8 (q0 g g' ma mb mc)):=by
 obtain⟨r,h1,h2⟩:=ho
 obtain⟨r',h1',h2'⟩:=ho'
 obtain⟨ta,pa,sa⟩:=ha
 obtain⟨tb,pb,sb⟩:=hb
 obtain⟨tc,pc,sc⟩:=hc
 exact⟨_,a06 h1 h1' pa pb pc hm,yt (Vr sa sb sc h2 h2')⟩
noncomputable def isN (d:D):Bool:=match d with
 |.non=>true
 |_=>false
noncomputable def a48 (m:MX):MX:=fun ρ μ=>(m ρ μ).bind fun d μ1=>.ok (.bl (isN d)) μ1
noncomputable def E3 (m:MX):MX:=fun ρ μ=>(m ρ μ).bind fun d μ1=>.ok (.bl (!isN d)) μ1
theorem bz {K:PySem.W.Frag}{F:Hp}{α:List Addr}{d:D}{v:V}(h:Rep K F α d v):decide (v=.non)=isN d:=by
 cases d with
 |non=>unfold Rep at h;subst h;rfl
 |bl _=>unfold Rep at h;subst h;rfl
 |int _=>unfold Rep at h;subst h;rfl
 |str _=>unfold Rep at h;subst h;rfl
 |tup _=>unfold Rep at h;obtain⟨a,vs,h,_⟩:=h;subst h;rfl
 |lst _=>unfold Rep at h;obtain⟨a,vs,h,_⟩:=h;subst h;rfl
 |dic _ _=>unfold Rep at h;obtain⟨a,vs,h,_⟩:=h;subst h;rfl
 |ref _=>unfold Rep at h;obtain⟨a,_,h⟩:=h;subst h;rfl
theorem a63 {t:TE}(h:Qc X EX t m):Qc X EX (az6 t) (a48 m):=by
 intro Z α F H σ ρ μ Q R g
 refine h Z α F H σ ρ μ _ R (GE.step (G:=GE X.K EX Z α F Q) g (fun _ _ h=>h) (fun h=>h) fun d μ1 v α1 F1 H1 R1 e1 p g1=>?_)
 rw[bz p]
 exact g1 _ α1 F1 H1 R1 e1 (by unfold Rep;rfl)
theorem ax {t:TE}(h:Qc X EX t m):Qc X EX (aj7 t) (E3 m):=by
 intro Z α F H σ ρ μ Q R g
 refine h Z α F H σ ρ μ _ R (GE.step (G:=GE X.K EX Z α F Q) g (fun _ _ h=>h) (fun h=>h) fun d μ1 v α1 F1 H1 R1 e1 p g1=>?_)
 rw[bz p]
 exact g1 _ α1 F1 H1 R1 e1 (by unfold Rep;rfl)
theorem af0 {j pos'} (ha:ME X EX a m):ME X EX (.Compare a [.IsNot] [.Constant .none j pos'] pos) (E3 m):=by
 obtain⟨t,p,s⟩:=ha
 exact⟨_,ar1 (ac5 p) rfl,ax s⟩
theorem at2 {j pos'} (ha:ME X EX a m):MT X EX (.Compare a [.Is] [.Constant .none j pos'] pos) (j8 (a48 m)):=by
 obtain⟨t,p,s⟩:=ha
 exact⟨_,vi (ar4 p) rfl,yt (a63 s)⟩
noncomputable def D3 (d:D):Option Bool:=match d with
 |.non=>some false
 |.bl b=>some b
 |.int i=>some (i != 0)
 |.str x=>if x.length<=16777216 then some (!x.isEmpty) else none
 |.tup xs=>some (!xs.isEmpty)
 |.lst xs=>some (!xs.isEmpty)
 |.dic ks vs=>some (!vs.isEmpty)
 |.ref _=>none
noncomputable def u7 (m:MX):MB:=fun ρ μ=>(m ρ μ).bind fun d μ1=>ofO μ1 (D3 (deref μ1 d))
theorem qw {β γ:Type}{l:List β}{r:List γ}(h:l.length=r.length):l.isEmpty=r.isEmpty:=by
 cases l<;>cases r<;>simp_all
theorem Ar {K:PySem.W.Frag}{α:List Addr}{F H:Hp}{d:D}{v:V}{k:Bool}(sub:ja F H) (h:Pk K α F H d v) (e:D3 d=some k):ai6 K v H k:=by
 cases d with
 |non=>unfold Pk Rep at h;subst h;cases e;rfl
 |bl _=>unfold Pk Rep at h;subst h;cases e;rfl
 |int _=>unfold Pk Rep at h;subst h;cases e;rfl
 |str x =>
  unfold Pk Rep at h
  subst h
  unfold D3 at e
  simp only at e
  split at e
  ·rename_i hl
   cases e
   refine⟨?_,?_⟩
   ·rw[sizeLine_eq];simpa[Str.length] using hl
   ·cases x with
    |nil=>rfl
    |cons c r=>simp[Str.length];omega
  ·cases e
 |tup xs =>
  unfold Pk Rep at h
  obtain⟨a,vs,rfl,hs,hr⟩:=h
  cases e
  exact .inr (.inl ⟨vs,ja.tup sub hs,by rw[qw hr.length]⟩)
 |lst xs =>
  unfold Pk at h
  obtain⟨a,vs,rfl,hs,hr⟩:=h
  cases e
  exact .inl ⟨vs,hs,by rw[qw hr.length]⟩
 |dic ks xs =>
  unfold Pk at h
  obtain⟨a,vs,rfl,hs,hl,hr⟩:=h
  cases e
  refine .inr (.inr ⟨_,hs,?_⟩)
  congr 1
  refine qw ?_
  have:=hr.length
  simp
  omega
 |ref _=>cases e
theorem mt_truth (ha:ME X EX a m) (he:∀whole,isTrue a X.env whole=(do let v ←whole;standAt a.pos;holding [v] (truthy v))):MT X EX a (u7 m):=by
 obtain⟨t,p,s⟩:=ha
 refine⟨_,a05 p he,fun Z α F H σ ρ μ Q R g=>?_⟩
 refine s Z α F H σ ρ μ _ R (GE.step (G:=GB X.K EX Z α F Q) g (fun _ _ h=>h) (fun h=>h) fun d μ1 v α1 F1 H1 R1 e1 p g1=>?_)
 cases hk:D3 (deref μ1 d) with
 |none=>rw[hk] at g1;exact g1.elim
 |some k=>rw[hk] at g1;exact⟨k,Ar R1.sub (R1.pk p) hk,g1 α1 F1 H1 R1 e1⟩
variable {n na nb:MB}
noncomputable def Yk (m n:MB):MB:=fun ρ μ=>(m ρ μ).bind fun k μ1=>match k with
 |true=>n ρ μ1
 |false=>.ok false μ1
noncomputable def mOr (m n:MB):MB:=fun ρ μ=>(m ρ μ).bind fun k μ1=>match k with
 |true=>.ok true μ1
 |false=>n ρ μ1
noncomputable def ko (m:MB):MB:=fun ρ μ=>(m ρ μ).bind fun k μ1=>.ok (!k) μ1
theorem MW.t (h:MW X EX e n):MT X EX e n:=let⟨t,p,s⟩:=h;⟨t,p.pt,s⟩
theorem Y7 (ha:MT X EX a na):MW X EX (.BoolOp .And [a] pos) na:=let⟨t,p,s⟩:=ha;⟨t,aa9 p,s⟩
theorem Do (ha:MT X EX a na):MW X EX (.BoolOp .Or [a] pos) na:=let⟨t,p,s⟩:=ha;⟨t,ap4 p,s⟩
theorem mw_and (ha:MT X EX a na) (hb:MW X EX (.BoolOp .And (b::rest) pos) nb):MW X EX (.BoolOp .And (a::b::rest) pos) (Yk na nb):=by
 obtain⟨ta,pa,sa⟩:=ha
 obtain⟨tb,pb,sb⟩:=hb
 refine⟨_,ap5 pa pb,fun Z α F H σ ρ μ Q R g=>?_⟩
 refine sa Z α F H σ ρ μ _ R (GB.step (G:=GB X.K EX Z α F Q) g (fun _ _ h=>h) (fun h=>h) fun k μ1 α1 F1 H1 R1 e1 g1=>?_)
 cases k with
 |true=>exact(if_pos rfl).mpr (sb Z α1 F1 H1 σ ρ μ1 Q (R.to R1 e1) (GB.ext e1 g1))
 |false=>exact g1 α1 F1 H1 R1 e1
theorem Co (ha:MT X EX a na) (hb:MW X EX (.BoolOp .Or (b::rest) pos) nb):MW X EX (.BoolOp .Or (a::b::rest) pos) (mOr na nb):=by
 obtain⟨ta,pa,sa⟩:=ha
 obtain⟨tb,pb,sb⟩:=hb
 refine⟨_,aB3 pa pb,fun Z α F H σ ρ μ Q R g=>?_⟩
 refine sa Z α F H σ ρ μ _ R (GB.step (G:=GB X.K EX Z α F Q) g (fun _ _ h=>h) (fun h=>h) fun k μ1 α1 F1 H1 R1 e1 g1=>?_)
 cases k with
 |true=>exact g1 α1 F1 H1 R1 e1
 |false=>exact sb Z α1 F1 H1 σ ρ μ1 Q (R.to R1 e1) (GB.ext e1 g1)
theorem Dm (ha:MT X EX a na):MT X EX (.UnaryOp .Not a pos) (ko na):=by
 obtain⟨ta,pa,sa⟩:=ha
 refine⟨_,ap6 pa,fun Z α F H σ ρ μ Q R g=>?_⟩
 exact sa Z α F H σ ρ μ _ R (GB.step (G:=GB X.K EX Z α F Q) g (fun _ _ h=>h) (fun h=>h) fun k μ1 α1 F1 H1 R1 e1 g1=>g1 α1 F1 H1 R1 e1)
noncomputable def Zs (ma mb:MX):MX:=fun ρ μ=>(ma ρ μ).bind fun x μ1=>match x with
 |.bl true=>mb ρ μ1
 |.bl false=>.ok (.bl false) μ1
 |_=>.bad
noncomputable def a46 (ma:MX):MX:=fun ρ μ=>(ma ρ μ).bind fun x μ1=>match x with
 |.bl k=>.ok (.bl (!k)) μ1
 |_=>.bad
theorem me_one {op} (h:ME X EX a m):ME X EX (.BoolOp op [a] pos) m:=let⟨t,p,s⟩:=h;⟨t,aq6 p,s⟩
theorem me_and (ha:ME X EX a ma) (hb:ME X EX (.BoolOp .And (b::rest) pos) mb):ME X EX (.BoolOp .And (a::b::rest) pos) (Zs ma mb):=by
 obtain⟨ta,pa,sa⟩:=ha
 obtain⟨tb,pb,sb⟩:=hb
 refine⟨_,ar3 pa pb,fun Z α F H σ ρ μ Q R g=>?_⟩
 refine sa Z α F H σ ρ μ _ R (GE.step (G:=GE X.K EX Z α F Q) g (fun _ _ h=>h) (fun h=>h) fun d μ1 v α1 F1 H1 R1 e1 p g1=>?_)
 cases d with
 |bl k =>
  unfold Rep at p
  refine⟨k,p,?_⟩
  cases k with
  |true=>exact sb Z α1 F1 H1 σ ρ μ1 Q (R.to R1 e1) (GE.ext e1 g1)
  |false=>exact g1 _ α1 F1 H1 R1 e1 (by unfold Rep;rfl)
 |_=>exact g1.elim
theorem a39 (ha:ME X EX a ma):ME X EX (.UnaryOp .Not a pos) (a46 ma):=by
 obtain⟨ta,pa,sa⟩:=ha
 refine⟨_,aq7 pa,fun Z α F H σ ρ μ Q R g=>?_⟩
 refine sa Z α F H σ ρ μ _ R (GE.step (G:=GE X.K EX Z α F Q) g (fun _ _ h=>h) (fun h=>h) fun d μ1 v α1 F1 H1 R1 e1 p g1=>?_)
 cases d with
 |bl k=>unfold Rep at p;exact⟨k,p,g1 _ α1 F1 H1 R1 e1 (by unfold Rep;rfl)⟩
 |_=>exact g1.elim
noncomputable def mIf (n:MB) (ma mb:MX):MX:=fun ρ μ=>(n ρ μ).bind fun k μ1=>match k with
 |true=>ma ρ μ1
 |false=>mb ρ μ1
theorem V3 (hc:MT X EX c n) (ha:ME X EX a ma) (hb:ME X EX b mb):ME X EX (.IfExp c a b pos) (mIf n ma mb):=by
 obtain⟨tc,pc,sc⟩:=hc
 obtain⟨ta,pa,sa⟩:=ha
 obtain⟨tb,pb,sb⟩:=hb
 refine⟨_,a13 pc pa pb,fun Z α F H σ ρ μ Q R g=>?_⟩
 refine sc Z α F H σ ρ μ _ R (GB.step (G:=GE X.K EX Z α F Q) g (fun _ _ h=>h) (fun h=>h) fun k μ1 α1 F1 H1 R1 e1 g1=>?_)
 cases k with
 |true=>exact sa Z α1 F1 H1 σ ρ μ1 Q (R.to R1 e1) (GE.ext e1 g1)
 |false=>exact sb Z α1 F1 H1 σ ρ μ1 Q (R.to R1 e1) (GE.ext e1 g1)
variable {ms:MAs}
noncomputable def mNil:MAs:=fun _ μ=>.ok [] μ
noncomputable def mCons (m:MX) (ms:MAs):MAs:=fun ρ μ=>(m ρ μ).bind fun d μ1=>(ms ρ μ1).bind fun ds μ2=>.ok (d::ds) μ2
theorem ma_nil:MA X EX [] mNil:=⟨_,Qw,fun Z α F H σ ρ μ Q R g=>g [] α F H R.hp (Ext.refl _ _) J5,fun ρ μ ds μ' h=>by cases h;rfl⟩
theorem ma_cons (ha:ME X EX e m) (hr:MA X EX es ms) (hs:starEach (e::es) X.env=(false,eval e X.env)::starEach es X.env):MA X EX (e::es) (mCons m ms):=by
 obtain⟨ta,pa,sa⟩:=ha
 obtain⟨tr,pr,sr,lr⟩:=hr
 refine⟨_,Ua pa pr hs,fun Z α F H σ ρ μ Q R g=>?_,fun ρ μ ds μ' h=>?_⟩
 rotate_left
 ·unfold mCons at h
  cases e1:m ρ μ with
  |ok d μ1 =>
   rw[e1] at h
   simp only[bind_ok] at h
   cases e2:ms ρ μ1 with
   |ok dr μ2 =>
    rw[e2] at h
    simp only[bind_ok] at h
    cases h
    simp[lr _ _ _ _ e2]
   |exc x μ2=>rw[e2] at h;cases h
   |bad=>rw[e2] at h;cases h
  |exc x μ1=>rw[e1] at h;cases h
  |bad=>rw[e1] at h;cases h
 refine sa Z α F H σ ρ μ _ R (GE.step (G:=GA X.K EX Z α F Q) g (fun _ _ h=>h) (fun h=>h) fun d μ1 v α1 F1 H1 R1 e1 p g1=>?_)
 refine sr Z α1 F1 H1 σ ρ μ1 _ (R.to R1 e1) (GA.step (G:=GA X.K EX Z α F Q) g1 (fun _ _ h=>h) (fun h=>h) fun ds μ2 vs α2 F2 H2 R2 e2 p2 g2=>?_)
 exact g2 (v::vs) α2 F2 H2 R2 (e1.trans e2) (j5 (p.mono e2) p2)
noncomputable def Jo (ms:MAs):MX:=fun ρ μ=>(ms ρ μ).bind fun ds μ1=>.ok (.tup ds) μ1
noncomputable def jj (ms:MAs):MX:=fun ρ μ=>(ms ρ μ).bind fun ds μ1=>.ok (.lst ds) μ1
theorem Gb {K:PySem.W.Frag}{Z:ZS}{F H:Hp}{α:List Addr}{μ:Mu}{ds:List D}{vs:List V}{p:Addr}(R:RH K Z α F H μ) (r:Reps K F α ds vs) (hp:H p=none) :
  RH K Z α (upd F p (.tup vs)) (upd H p (.tup vs)) μ/\ja F (upd F p (.tup vs))/\Rep K (upd F p (.tup vs)) α (.tup ds) (.ref p) :=
 ⟨R.lay _ hp,xz R.sub hp,by unfold Rep;exact⟨p,vs,rfl,SqT.of jt,r.mono (R.layExt _ hp)⟩⟩
theorem Ga {K:PySem.W.Frag}{Z:ZS}{F H:Hp}{α:List Addr}{μ:Mu}{ds:List D}{vs:List V}{p:Addr}(R:RH K Z α F H μ) (r:Reps K F α ds vs) (hp:H p=none) :
  RH K Z α (upd F p (.lst vs)) (upd H p (.lst vs)) μ/\ja F (upd F p (.lst vs))/\Rep K (upd F p (.lst vs)) α (.lst ds) (.ref p) :=
 ⟨R.lay _ hp,xz R.sub hp,by unfold Rep;exact⟨p,vs,rfl,SqL.of jt,r.mono (R.layExt _ hp)⟩⟩
theorem me_tup {x1} (h:MA X EX es ms) (hl:es.length<=16777216:=by decide):ME X EX (.Tuple es x1 pos) (Jo ms):=by
 obtain⟨t,p,s,l⟩:=h
 refine⟨_,aq4 p,fun Z α F H σ ρ μ Q R g=>?_⟩
 refine s Z α F H σ ρ μ _ R (GA.stepE (G:=GE X.K EX Z α F Q) g (fun _ _ h=>h) (fun h=>h) fun ds μ1 vs α1 F1 H1 hm R1 e1 p1 g1=>?_)
 refine⟨by rw[←p1.length,sizeLine_eq,l _ _ _ _ hm];exact hl,fun q hq=>?_⟩
 obtain⟨a1,a2,a3⟩:=Gb R1 p1 hq
 exact g1 _ α1 _ _ a1 (e1.trans ⟨a2,fun _ _ h=>h⟩) a3
theorem me_lst (h:MA X EX es ms) (hl:es.length<=16777216:=by decide):ME X EX (.List es pos) (jj ms):=by
 obtain⟨t,p,s,l⟩:=h
 refine⟨_,a12 p,fun Z α F H σ ρ μ Q R g=>?_⟩
 refine s Z α F H σ ρ μ _ R (GA.stepE (G:=GE X.K EX Z α F Q) g (fun _ _ h=>h) (fun h=>h) fun ds μ1 vs α1 F1 H1 hm R1 e1 p1 g1=>?_)
 refine⟨by rw[←p1.length,sizeLine_eq,l _ _ _ _ hm];exact hl,fun q hq=>?_⟩
 obtain⟨a1,a2,a3⟩:=Ga R1 p1 hq
 exact g1 _ α1 _ _ a1 (e1.trans ⟨a2,fun _ _ h=>h⟩) a3
noncomputable def je:G2:=fun a b=>match a,b with
 |.lst ds,.int i=>atI ds i
 |.tup ds,.int i=>atI ds i
 |.str cs,.int i=>if cs.length<=16777216 then(atI cs i).map fun c=>.str [c] else none
 |_,_=>none
theorem Fj {K:PySem.W.Frag}{F:Hp}{α:List Addr}{ds:List D}{vs:List V}{i:Int}{d:D}(r:Reps K F α ds vs) (h:atI ds i=some d):∃v,atI vs i=some v/\Rep K F α d v:=by
 unfold atI at h ⊢
 rw[←r.length]
 cases e:ixN ds.length i with
 |none=>rw[e] at h;cases h
 |some j=>rw[e] at h;exact r.get h
theorem D8 {K:PySem.W.Frag}:Up K (rIx K) je:=by
 intro Z α F H μ a b c x y Q R ha hb hg k
 cases b with
 |int i =>
  unfold Pk Rep at hb
  subst hb
  cases a with
  |lst ds =>
   obtain⟨p,vs,rfl,hs,hr⟩:=ha
   obtain⟨v,h1,h2⟩:=Fj hr hg
   exact .inl ⟨p,vs,i,v,rfl,rfl,hs,h1,k v F H R (ja.refl _) h2⟩
  |tup ds =>
   unfold Pk Rep at ha
   obtain⟨p,vs,rfl,hs,hr⟩:=ha
   obtain⟨v,h1,h2⟩:=Fj hr hg
   exact .inr (.inl ⟨p,vs,i,v,rfl,rfl,ja.tup R.sub hs,h1,k v F H R (ja.refl _) h2⟩)
  |str cs =>
   unfold Pk Rep at ha
   subst ha
   simp only[je] at hg
   split at hg
   ·rename_i hl
    cases e:atI cs i with
    |none=>rw[e] at hg;cases hg
    |some c' =>
     rw[e] at hg
     cases hg
     exact .inr (.inr ⟨_,i,c',rfl,rfl,by rw[sizeLine_eq];simpa[Str.length] using hl,by simpa using e,k _ F H R (ja.refl _) (by unfold Rep;rfl)⟩)
   ·cases hg
  |_=>cases hg
 |_=>cases a<;>cases hg
theorem me_idx (ha:ME X EX a ma) (hb:ME X EX b mb) (hs:B5 b):ME X EX (.Subscript a b pos) (j0 je ma mb):=by
 obtain⟨ta,pa,sa⟩:=ha
 obtain⟨tb,pb,sb⟩:=hb
 exact⟨_,aB9 av4 pa pb hs,Yi sa sb D8⟩
end
theorem rep_int {K:PySem.W.Frag}{F:Hp}{α:List Addr}(i:Int):Rep K F α (.int i) (.int i):=by unfold Rep;rfl
theorem uh {K:PySem.W.Frag}{F:Hp}{α:List Addr}(i:Bool):Rep K F α (.bl i) (.bl i):=by unfold Rep;rfl
theorem G4 {K:PySem.W.Frag}{F:Hp}{α:List Addr}:Rep K F α .non .non:=by unfold Rep;rfl
theorem qi {K:PySem.W.Frag}{F:Hp}{α:List Addr}(x:List Nat):Rep K F α (.str x) (.str ⟨x.toArray⟩):=by unfold Rep;rfl
theorem zz {K:PySem.W.Frag}{F H:Hp}{α:List Addr}{i:Int}{v:V}(h:Pk K α F H (.int i) v):v=.int i:=by unfold Pk Rep at h;exact h
theorem ak4 {K:PySem.W.Frag}{F H:Hp}{α:List Addr}{i:Bool}{v:V}(h:Pk K α F H (.bl i) v):v=.bl i:=by unfold Pk Rep at h;exact h
theorem Uq {K:PySem.W.Frag}{F H:Hp}{α:List Addr}{x:List Nat}{v:V}(h:Pk K α F H (.str x) v):v=.str ⟨x.toArray⟩:=by unfold Pk Rep at h;exact h
theorem aq2 {K:PySem.W.Frag}{F H:Hp}{α:List Addr}{v:V}(h:Pk K α F H .non v):v=.non:=by unfold Pk Rep at h;exact h
noncomputable def X7 (h:Int->Int->Option Int):G2:=fun a b=>match a,b with
 |.int i,.int j=>(h i j).map .int
 |_,_=>none
noncomputable def Eu (h:Int->Int->Bool):G2:=fun a b=>match a,b with
 |.int i,.int j=>some (.bl (h i j))
 |_,_=>none
section
variable {X:Cx}{EX:EXT}
theorem D5 {K:PySem.W.Frag}{C:Int->Int->Prop}[inst:∀i j,Decidable (C i j)] {h:Int->Int->Int}:Up K (rI C fun i j=>.int (h i j)) (X7 fun i j=>if C i j then some (h i j) else none):=by
 intro Z α F H μ a b c x y Q R ha hb hg k
 cases a with
 |int i =>
  cases b with
  |int j =>
   have ha:=zz ha
   have hb:=zz hb
   simp only[X7] at hg
   by_cases hc:C i j
   ·rw[if_pos hc] at hg
    cases hg
    exact⟨i,j,ha,hb,hc,k _ F H R (ja.refl _) (rep_int _)⟩
   ·rw[if_neg hc] at hg;cases hg
  |_=>cases hg
 |_=>cases hg
theorem ce {K:PySem.W.Frag}{h:Int->Int->Int}:Up K (rI0 fun i j=>.int (h i j)) (X7 fun i j=>some (h i j)):=by
 intro Z α F H μ a b c x y Q R ha hb hg k
 cases a with
 |int i =>
  cases b with
  |int j =>
   have ha:=zz ha
   have hb:=zz hb
   cases hg
   exact⟨i,j,ha,hb,k _ F H R (ja.refl _) (rep_int _)⟩
  |_=>cases hg
 |_=>cases hg
theorem Wn {K:PySem.W.Frag}{h:Int->Int->Bool}:Up K (rI0 fun i j=>.bl (h i j)) (Eu h):=by
 intro Z α F H μ a b c x y Q R ha hb hg k
 cases a with
 |int i =>
  cases b with
  |int j =>
   have ha:=zz ha
   have hb:=zz hb
   cases hg
   exact⟨i,j,ha,hb,k _ F H R (ja.refl _) (uh _)⟩
  |_=>cases hg
 |_=>cases hg
noncomputable def gOr (g h:G2):G2:=fun a b=>match g a b with
 |some c=>some c
 |none=>h a b
theorem Up.or {K:PySem.W.Frag}{r r':R2}{g g':G2}(h:Up K r g) (h':Up K r' g'):Up K (fun x y H Q=>r x y H Q\/r' x y H Q) (gOr g g'):=by
 intro Z α F H μ a b c x y Q R ha hb hg k
 unfold gOr at hg
 cases e:g a b with
 |some d=>rw[e] at hg;have hg:d=c:=Option.some.inj hg;subst hg;exact .inl (h Z α F H μ a b _ x y Q R ha hb e k)
 |none=>rw[e] at hg;exact .inr (h' Z α F H μ a b c x y Q R ha hb hg k)
theorem OpM.or {f:Value->Value->Sem Value}{g g':G2}(h:OpM X f g) (h':OpM X f g'):OpM X f (gOr g g'):=by
 obtain⟨r,a,b⟩:=h
 obtain⟨r',a',b'⟩:=h'
 exact⟨_,a.or a',b.or b'⟩
theorem OpM.as {f:Value->Value->Sem Value}{g g':G2}(h:OpM X f g) (e:∀a b c,g' a b=some c->g a b=some c):OpM X f g':=by
 obtain⟨r,a,b⟩:=h
 exact⟨r,a,fun Z α F H μ p q c x y Q R ha hb hg k=>b Z α F H μ p q c x y Q R ha hb (e p q c hg) k⟩
noncomputable def bv:G2:=fun a b=>match a,b with
 |.tup xs,.tup ys=>if decide (xs.length+ys.length<=16777216)&&!xs.isEmpty then some (.tup (xs++ys)) else none
 |_,_=>none
noncomputable def a69:G2:=fun a b=>match a,b with
 |.tup [],.tup ys=>some (.tup ys)
 |_,_=>none
noncomputable def al9:G2:=fun a b=>match a,b with
 |.lst xs,.lst ys=>if xs.length+ys.length<=16777216 then some (.lst (xs++ys)) else none
 |_,_=>none
noncomputable def bu:G2:=fun a b=>match a,b with
 |.str xs,.str ys=>if xs.length+ys.length<=16777216 then some (.str (xs++ys)) else none
 |_,_=>none
noncomputable def jo:G2:=fun a b=>match a,b with
 |.int i,.int j=>some (.int (i+j))
 |.str xs,.str ys=>if xs.length+ys.length<=16777216 then some (.str (xs++ys)) else none
 |.tup xs,.tup ys=>if xs.length+ys.length<=16777216 then some (.tup (xs++ys)) else none
 |.lst xs,.lst ys=>if xs.length+ys.length<=16777216 then some (.lst (xs++ys)) else none
 |_,_=>none
theorem D7 (x y:List Nat):(⟨x.toArray⟩:Str)++(⟨y.toArray⟩:Str)=⟨(x++y).toArray⟩:=by
 show Str.append _ _=_
 unfold Str.append
 simp
theorem ad3:OpM X (binaryOp .Add) bu:=by
 refine⟨_,Du,fun Z α F H μ a b c x y Q R ha hb hg k=>?_⟩
 cases a with
 |str i =>
  cases b with
  |str j =>
   have ha:=Uq ha
   have hb:=Uq hb
   simp only[bu] at hg
   split at hg
   ·rename_i hl
    cases hg
    refine⟨_,_,ha,hb,by rw[sizeLine_eq];simpa[Str.length] using hl,?_⟩
    rw[D7]
    exact k _ F H R (ja.refl _) (qi _)
   ·cases hg
  |_=>cases hg
 |_=>cases hg
theorem ad2:OpM X (binaryOp .Add) bv:=by
 refine⟨_,ac9,fun Z α F H μ a b c x y Q R ha hb hg k=>?_⟩
 cases a with
 |tup i =>
  cases b with
  |tup j =>
   have ha0:=ha
   unfold Pk Rep at ha hb
   obtain⟨p,vs,rfl,hs,hr⟩:=ha
   obtain⟨p',vs',rfl,hs',hr'⟩:=hb
   simp only[bv] at hg
   split at hg
   ·rename_i hl
    cases hg
    rw[Bool.and_eq_true] at hl
    have h1:=of_decide_eq_true hl.1
    refine⟨p,p',vs,vs',rfl,rfl,ja.tup R.sub hs,ja.tup R.sub hs',?_,by rw[sizeLine_eq,←hr.length,←hr'.length];exact h1,fun he=>?_,fun _ q hq=>?_⟩
    ·intro he
     subst he
     have:=hr.length
     cases i with
     |nil=>simp at hl
     |cons _ _=>simp at this
    ·subst he
     have:=hr'.length
     cases j with
     |nil=>rw[List.append_nil] at k;exact k _ F H R (ja.refl _) ha0
     |cons _ _=>simp at this
    ·obtain⟨a1,a2,a3⟩:=Gb R (hr.append hr') hq
     exact k _ _ _ a1 a2 a3
   ·cases hg
  |_=>cases hg
 |_=>cases hg
noncomputable def aB2 (K:PySem.W.Frag):R2:=fun x y H Q=>∃l b xs zs,x=.ref l/\y=.ref b/\SqL K H l xs/\SqL K H b zs/\xs.length+zs.length<=sizeLine/\∀p,H p=none->Q (.ref p) (upd H p (.lst (xs++zs)))
theorem ad0:OpR X (binaryOp .Add) (aB2 X.K):=by
 intro pins s σ H x y v u Q I rx ry h
 obtain⟨l,b,xs,zs,rfl,rfl,hH,hB,hz,q⟩:=h
 cases rx
 cases ry
 obtain⟨its,r,pl,_⟩:=I.list hH
 obtain⟨its2,r2,pl2,_⟩:=I.list hB
 obtain⟨m,F⟩:=I.fr
 have e1:=r.length
 have e2:=r2.length
 obtain⟨⟨cls,dd,data,sl⟩,n,ho,hc,hd,hs⟩:=pl
 obtain⟨⟨cls2,dd2,data2,sl2⟩,n2,ho2,hc2,hd2,hs2⟩:=pl2
 simp only at hc hd hs hc2 hd2 hs2
 subst hc hd hs hc2 hd2 hs2
 have ea:its.toArray++its2.toArray=(its++its2).toArray:=by simp
 refine concat_meets ⟨_,ho,rfl⟩ ⟨_,ho2,rfl⟩ noFill_list_add seq_list_add PySem.F.slot_list_add PySem.F.entry_list_add (PySem.F.args_list_add_2 _ _) (list_addW l b its.toArray its2.toArray n n2 _ _ sl sl2 (by simp only[List.size_toArray];omega)) ⟨ho,ho2,?_⟩
 rw[ea]
 exact⟨.ref _,_,I.lnew (t':=s.toks) (r.append r2) (by rw[List.length_append];omega),rfl,q _ I.fresh⟩
theorem a18:OpR X (binaryOp .Add) (fun x y H Q=>∃a b ys,x=.ref a/\y=.ref b/\SqT X.K H a []/\SqT X.K H b ys/\Q (.ref b) H):=by
 intro pins s σ H x y v u Q I rx ry h
 obtain⟨a,b,ys,rfl,rfl,ha,hb,q⟩:=h
 cases rx
 cases ry
 obtain⟨its,r1,p1,_⟩:=I.tuple ha
 obtain⟨its2,r2,p2,_⟩:=I.tuple hb
 have e1:its.length=0:=r1.length.symm
 obtain rfl:=List.length_eq_zero_iff.mp e1
 obtain⟨o1,g1,c1,n1,d1⟩:=p1
 obtain⟨o2,g2,c2,n2,d2⟩:=p2
 obtain⟨k1,f1,w1,z1⟩:=o1
 obtain⟨k2,f2,w2,z2⟩:=o2
 dsimp only at c1 d1 c2 d2
 subst c1 d1 c2 d2
 exact concat_meets ⟨_,g1,rfl⟩ ⟨_,g2,rfl⟩ noFill_tuple_add seq_tuple_add PySem.F.slot_tuple_add PySem.F.entry_tuple_add (PySem.F.args_tuple_add_2 _ _)
  (tuple_addW0 a b #[] its2.toArray n1 n2 f1 f2 z1 z2 rfl) ⟨g1,g2,.ref b,H,I,rfl,q⟩
theorem a22:OpM X (binaryOp .Add) a69:=by
 refine⟨_,a18,fun Z α F H μ a b c x y Q R ha hb hg k=>?_⟩
 cases a with
 |tup i =>
  cases i with
  |nil =>
   cases b with
   |tup j =>
    have hb0:=hb
    unfold Pk Rep at ha hb
    obtain⟨p,vs,rfl,hs,hr⟩:=ha
    obtain⟨p',vs',rfl,hs',hr'⟩:=hb
    cases hg
    have:=hr.length
    cases vs with
    |nil=>exact⟨p,p',vs',rfl,rfl,ja.tup R.sub hs,ja.tup R.sub hs',k _ F H R (ja.refl _) hb0⟩
    |cons _ _=>simp at this
   |_=>cases hg
  |cons _ _=>cases b<;>cases hg
 |_=>cases hg
theorem ad4:OpM X (binaryOp .Add) al9:=by
 refine⟨_,ad0,fun Z α F H μ a b c x y Q R ha hb hg k=>?_⟩
 cases a with
 |lst i =>
  cases b with
  |lst j =>
   unfold Pk at ha hb
   obtain⟨p,vs,rfl,hs,hr⟩:=ha
   obtain⟨p',vs',rfl,hs',hr'⟩:=hb
   simp only[al9] at hg
   split at hg
   ·rename_i hl
    cases hg
    refine⟨p,p',vs,vs',rfl,rfl,hs,hs',by rw[sizeLine_eq,←hr.length,←hr'.length];exact hl,fun q hq=>?_⟩
    obtain⟨a1,a2,a3⟩:=Ga R (hr.append hr') hq
    exact k _ _ _ a1 a2 a3
   ·cases hg
  |_=>cases hg
 |_=>cases hg
theorem jm:OpM X (binaryOp .Add) jo:=by
 have h0:OpM X (binaryOp .Add) (X7 fun i j=>some (i+j)):=⟨_,as6,ce⟩
 refine OpM.as (OpM.or h0 (OpM.or ad3 (OpM.or a22 (OpM.or ad2 ad4)))) fun a b c h=>?_
 cases a with
 |int i=>cases b with
  |int j=>exact h
  |_=>cases h
 |str i=>cases b with
  |str j=>have h:bu (.str i) (.str j)=some c:=h;simp only[gOr,X7,h]
  |_=>cases h
 |tup i=>cases b with
  |tup j =>
   cases i with
   |nil =>
    simp only[jo] at h
    split at h
    ·cases h;rfl
    ·cases h
   |cons i0 ir =>
    simp only[jo] at h
    split at h
    ·rename_i hl
     cases h
     have e:bv (.tup (i0::ir)) (.tup j)=some (.tup (i0::ir++j)):=by
      simp only[bv,List.isEmpty_cons,Bool.not_false,Bool.and_true]
      rw[if_pos (by simpa using hl)]
     simp only[gOr,X7,bu,a69,e]
    ·cases h
  |_=>cases h
 |lst i=>cases b with
  |lst j=>exact h
  |_=>cases h
 |_=>cases h
noncomputable def wu:G2:=X7 fun i j=>some (i-j)
theorem Xe:OpM X (binaryOp .Sub) wu:=⟨_,ar7,ce⟩
instance (i j:Int):Decidable (A1 i j):=by unfold A1;infer_instance
instance (i j:Int):Decidable (aH8 i j):=by unfold aH8;infer_instance
noncomputable def zj:G2:=X7 fun i j=>if A1 i j then some (i*j) else none
theorem Ym:OpM X (binaryOp .Mult) zj:=⟨_,ar9,D5⟩
noncomputable def CDv (i j:Int):Prop:=0<j/\j<18446744073709551616
instance (i j:Int):Decidable (CDv i j):=by unfold CDv;infer_instance
theorem as5:OpR X (binaryOp .FloorDiv) (rI CDv fun i j=>.int (i / j)):=opI fun i j _ _ _ _ _ hc q=>by
 have h1:(0:Int)<j:=hc.1
 have h2:j<18446744073709551616:=hc.2
 refine floordiv_int (by omega) (by rw[Int.fdiv_eq_ediv_of_nonneg i (by omega)];exact q) (.inl (PyProof.noPylong_of_log2 ?_))
 have h3:j.natAbs<2 ^ 64:=by omega
 have h4:j.natAbs≠0:=by omega
 have:=(Nat.log2_lt h4).mpr h3
 omega
noncomputable def Zy:G2:=X7 fun i j=>if CDv i j then some (i / j) else none
theorem Zc:OpM X (binaryOp .FloorDiv) Zy:=⟨_,as5,D5⟩
noncomputable def Jl:G2:=X7 fun i j=>if 0<j then some (i % j) else none
theorem Ji:OpM X (binaryOp .Mod) Jl:=⟨_,as0,D5⟩
noncomputable def gLt:G2:=Eu fun i j=>decide (i<j)
noncomputable def gLe:G2:=Eu fun i j=>decide (i<=j)
noncomputable def gGt:G2:=Eu fun i j=>decide (j<i)
noncomputable def gGe:G2:=Eu fun i j=>decide (j<=i)
theorem W1:OpM X (compareOp .Lt) gLt:=⟨_,aC0,Wn⟩
theorem a21:OpM X (compareOp .LtE) gLe:=⟨_,aC1,Wn⟩
theorem Cs:OpM X (compareOp .Gt) gGt:=⟨_,aC2,Wn⟩
theorem aC6:OpM X (compareOp .GtE) gGe:=⟨_,aC3,Wn⟩
end
mutual
noncomputable def jp:D->Bool
 |.non=>true
 |.bl _=>true
 |.int _=>true
 |.str x=>x.all (· < 0x110000)
 |.tup xs=>plainDs xs
 |.lst xs=>plainDs xs
 |.dic _ _=>false
 |.ref _=>false
noncomputable def plainDs:List D->Bool
 |[]=>true
 |d::ds=>jp d&&plainDs ds
end
mutual
noncomputable def dpt:D->Nat
 |.tup xs=>dpts xs+1
 |.lst xs=>dpts xs+1
 |_=>0
noncomputable def dpts:List D->Nat
 |[]=>0
 |d::ds=>max (dpt d) (dpts ds)
end
mutual
noncomputable def Ja:D->PyData
 |.non=>.none
 |.bl b=>.bool b
 |.int i=>.int i
 |.str x=>.str ⟨x.toArray⟩
 |.tup xs=>.tuple (toPys xs)
 |.lst xs=>.list (toPys xs)
 |.dic _ _=>.none
 |.ref _=>.none
noncomputable def toPys:List D->List PyData
 |[]=>[]
 |d::ds=>Ja d::toPys ds
end
mutual
noncomputable def eqD:D->D->Bool
 |.non,b=>match b with
  |.non=>true
  |_=>false
 |.bl a,b=>match b with
  |.bl c=>a==c
  |.int j=>(if a then 1 else 0)==j
  |_=>false
 |.int i,b=>match b with
  |.int j=>i==j
  |.bl c=>i==(if c then 1 else 0)
  |_=>false
 |.str x,b=>match b with
  |.str y=>x==y
  |_=>false
 |.tup xs,b=>match b with
  |.tup ys=>eqDs xs ys
  |_=>false
 |.lst xs,b=>match b with
  |.lst ys=>eqDs xs ys
  |_=>false
 |.dic _ _,_=>false
 |.ref _,_=>false
noncomputable def eqDs:List D->List D->Bool
 |[],b=>b.isEmpty
 |x::xs,b=>match b with
  |[]=>false
  |y::ys=>eqD x y&&eqDs xs ys
end
theorem D6 (x y:List Nat):((⟨x.toArray⟩:Str)==(⟨y.toArray⟩:Str))=(x==y):=by
 rw[Bool.eq_iff_iff]
 simp
mutual
theorem zg:∀(a b:D),jp a=true->jp b=true->PyData.eqv (Ja a) (Ja b)=eqD a b
 |.non,b,_,hb=>by cases b<;>first|(simp[jp] at hb;done)|(simp[Ja,eqD,PyData.eqv];done)
 |.bl a,b,_,hb=>by cases b<;>first|(simp[jp] at hb;done)|(simp[Ja,eqD,PyData.eqv];done)
 |.int a,b,_,hb=>by cases b<;>first|(simp[jp] at hb;done)|(simp[Ja,eqD,PyData.eqv];done)
 |.str a,b,_,hb=>by
  cases b with
  |str y=>simp only[Ja,eqD,PyData.eqv];exact D6 _ _
  |dic _ _=>simp[jp] at hb
  |ref _=>simp[jp] at hb
  |_=>simp[Ja,eqD,PyData.eqv]
 |.tup a,b,ha,hb=>by
  cases b with
  |tup b=>simp only[Ja,eqD,PyData.eqv];exact eqvs_toPys a b (by simpa[jp] using ha) (by simpa[jp] using hb)
  |dic _ _=>simp[jp] at hb
  |ref _=>simp[jp] at hb
  |_=>simp[Ja,eqD,PyData.eqv]
 |.lst a,b,ha,hb=>by
  cases b with
  |lst b=>simp only[Ja,eqD,PyData.eqv];exact eqvs_toPys a b (by simpa[jp] using ha) (by simpa[jp] using hb)
  |dic _ _=>simp[jp] at hb
  |ref _=>simp[jp] at hb
  |_=>simp[Ja,eqD,PyData.eqv]
 |.dic _ _,_,ha,_=>by simp[jp] at ha
 |.ref _,_,ha,_=>by simp[jp] at ha
theorem eqvs_toPys:∀(a b:List D),plainDs a=true->plainDs b=true->PyData.eqvAll (toPys a) (toPys b)=eqDs a b
 |[],[],_,_=>by simp[toPys,eqDs,PyData.eqvAll]
 |[],_::_,_,_=>by simp[toPys,eqDs,PyData.eqvAll]
 |_::_,[],_,_=>by simp[toPys,eqDs,PyData.eqvAll]
 |x::xs,y::ys,ha,hb=>by
  simp only[plainDs,Bool.and_eq_true] at ha hb
  simp only[toPys,eqDs,PyData.eqvAll]
  rw[zg x y ha.1 hb.1,eqvs_toPys xs ys ha.2 hb.2]
end
mutual
theorem uu:∀(a:D),jp a=true->(Ja a).canLay0=true
 |.non,_=>by simp[Ja,PyData.canLay0]
 |.bl _,_=>by simp[Ja,PyData.canLay0]
 |.int _,_=>by simp[Ja,PyData.canLay0]
 |.str x,h=>by simp only[Ja,PyData.canLay0,PyData.strOk];simpa[jp] using h
 |.tup xs,h=>by simp only[Ja,PyData.canLay0];exact canLays_toPy xs (by simpa[jp] using h)
 |.lst xs,h=>by simp only[Ja,PyData.canLay0];exact canLays_toPy xs (by simpa[jp] using h)
 |.dic _ _,h=>by simp[jp] at h
 |.ref _,h=>by simp[jp] at h
theorem canLays_toPy:∀(a:List D),plainDs a=true->PyData.canLayAll0 (toPys a)=true
 |[],_=>by simp[toPys,PyData.canLayAll0]
 |x::xs,h=>by
  simp only[plainDs,Bool.and_eq_true] at h
  simp only[toPys,PyData.canLayAll0,uu x h.1,canLays_toPy xs h.2,Bool.and_self]
end
mutual
theorem Ye:∀(a:D),(Ja a).depth=dpt a
 |.non=>by simp[Ja,PyData.depth,dpt]
 |.bl _=>by simp[Ja,PyData.depth,dpt]
 |.int _=>by simp[Ja,PyData.depth,dpt]
 |.str x=>by simp[Ja,PyData.depth,dpt]
 |.tup xs=>by simp only[Ja,PyData.depth,dpt];rw[depths_toPys xs]
 |.lst xs=>by simp only[Ja,PyData.depth,dpt];rw[depths_toPys xs]
 |.dic _ _=>by simp[Ja,PyData.depth,dpt]
 |.ref _=>by simp[Ja,PyData.depth,dpt]
theorem depths_toPys:∀(a:List D),PyData.depthAll (toPys a)=dpts a
 |[]=>by simp[toPys,PyData.depthAll,dpts]
 |x::xs=>by simp only[toPys,PyData.depthAll,dpts];rw[Ye x,depths_toPys xs]
end
section
variable {X:Cx}{EX:EXT}
mutual
theorem vk {pins:List (Addr×Obj)}{σ:L2.St}{H F:Hp}{s:Shared}{α:List Addr}(I:Inv X pins σ H s) (sub:ja F H):∀(d:D) (v:V) (u:Value),jp d=true->Rep X.K F α d v->J3 v u->∃as,Reads s.heap u (Ja d) as
 |.non,v,u,_,h,r=>by unfold Rep at h;subst h;cases r;exact⟨_,by rw[Ja];exact .none⟩
 |.bl b,v,u,_,h,r=>by unfold Rep at h;subst h;cases r;exact⟨_,by rw[Ja];exact .bool b⟩
 |.int b,v,u,_,h,r=>by unfold Rep at h;subst h;obtain⟨t,rfl⟩:=r;exact⟨_,by rw[Ja];exact .int b t⟩
 |.str b,v,u,_,h,r=>by unfold Rep at h;subst h;obtain⟨t,rfl⟩:=r;exact⟨_,by rw[Ja];exact .str _ t⟩
 |.tup ds,v,u,hp,h,r=>by
  unfold Rep at h
  obtain⟨a,vs,rfl,hs,hr⟩:=h
  cases r
  obtain⟨its,rv,⟨o,e1,e2,n,e3⟩,_⟩:=I.tuple (ja.tup sub hs)
  obtain⟨as,q⟩:=readsAll_of I sub ds vs its (by simpa[jp] using hp) hr rv
  exact⟨_,by rw[Ja];exact .tuple e1 e2 e3 (by simpa using q)⟩
 |.lst ds,v,u,hp,h,r=>by
  unfold Rep at h
  obtain⟨a,vs,rfl,hs,hr⟩:=h
  cases r
  obtain⟨its,rv,⟨o,n,e1,e2,_,e3⟩,_⟩:=I.list (sub.seq hs)
  obtain⟨as,q⟩:=readsAll_of I sub ds vs its (by simpa[jp] using hp) hr rv
  exact⟨_,by rw[Ja];exact .list e1 e2 e3 (by simpa using q)⟩
 |.dic _ _,_,_,hp,_,_=>by simp[jp] at hp
 |.ref _,_,_,hp,_,_=>by simp[jp] at hp
theorem readsAll_of {pins:List (Addr×Obj)}{σ:L2.St}{H F:Hp}{s:Shared}{α:List Addr}(I:Inv X pins σ H s) (sub:ja F H):∀(ds:List D) (vs:List V) (us:List Value),plainDs ds=true->Reps X.K F α ds vs->J8 vs us->∃as,ReadsAll s.heap us (toPys ds) as
 |[],vs,us,_,h,r=>by unfold Reps at h;subst h;cases r;exact⟨_,by rw[toPys];exact .nil⟩
 |d::ds,vs,us,hp,h,r=>by
  unfold Reps at h
  obtain⟨v,vr,rfl,h1,h2⟩:=h
  cases r with
  |cons r1 r2 =>
   simp only[plainDs,Bool.and_eq_true] at hp
   obtain⟨as,q1⟩:=vk I sub d v _ hp.1 h1 r1
   obtain⟨bs,q2⟩:=readsAll_of I sub ds vr _ hp.2 h2 r2
   exact⟨_,by rw[toPys];exact .cons q1 q2⟩
end
theorem Zd {pins:List (Addr×Obj)}{σ:L2.St}{H F:Hp}{s:Shared}{α:List Addr}(I:Inv X pins σ H s) (sub:ja F H) {d:D}{v:V}{u:Value}(hp:jp d=true) (h:Pk X.K α F H d v) (r:J3 v u):∃as,Reads s.heap u (Ja d) as:=by
 cases d with
 |lst ds =>
  obtain⟨a,vs,rfl,hs,hr⟩:=h
  cases r
  obtain⟨its,rv,⟨o,n,e1,e2,_,e3⟩,_⟩:=I.list hs
  obtain⟨as,q⟩:=readsAll_of I sub ds vs its (by simpa[jp] using hp) hr rv
  exact⟨_,by rw[Ja];exact .list e1 e2 e3 (by simpa using q)⟩
 |dic _ _=>simp[jp] at hp
 |_=>exact vk (α:=α) I sub _ v u hp h r
noncomputable def Y2 (a b:D):Bool:=jp a&&jp b&&decide (min (dpt a) (dpt b)<=100)
noncomputable def gEq:G2:=fun a b=>if Y2 a b then some (.bl (eqD a b)) else none
noncomputable def gNe:G2:=fun a b=>if Y2 a b then some (.bl (!eqD a b)) else none
noncomputable def aB0 (K:PySem.W.Frag) (neg:Bool):R2:=fun x y H Q=>∃F α a b,ja F H/\Pk K α F H a x/\Pk K α F H b y/\Y2 a b=true/\Q (.bl (if neg then !eqD a b else eqD a b)) H
theorem Ej {A:Around}{a b:D}(hu:A.units+200<cLine) (h:Y2 a b=true):A.units+min (Ja a).depth (Ja b).depth<cLine:=by
 unfold Y2 at h
 simp only[Bool.and_eq_true,decide_eq_true_eq] at h
 rw[Ye,Ye]
 omega
theorem as4 (hu:X.A.units+200<cLine):OpR X (compareOp .Eq) (aB0 X.K false):=by
 intro pins s σ H x y v u Q I rx ry h
 obtain⟨F,α,a,b,sub,ha,hb,hc,q⟩:=h
 have hc':=hc
 unfold Y2 at hc'
 simp only[Bool.and_eq_true] at hc'
 obtain⟨as,r1⟩:=Zd I sub hc'.1.1 ha rx
 obtain⟨bs,r2⟩:=Zd I sub hc'.1.2 hb ry
 refine PySem.SeqAt.compareEq_reads r1 r2 (uu _ hc'.1.1) (uu _ hc'.1.2) (Ej hu hc) ?_
 rw[zg _ _ hc'.1.1 hc'.1.2]
 exact⟨.bl _,H,I,rfl,q⟩
theorem ar8 (hu:X.A.units+200<cLine):OpR X (compareOp .NotEq) (aB0 X.K true):=by
 intro pins s σ H x y v u Q I rx ry h
 obtain⟨F,α,a,b,sub,ha,hb,hc,q⟩:=h
 have hc':=hc
 unfold Y2 at hc'
 simp only[Bool.and_eq_true] at hc'
 obtain⟨as,r1⟩:=Zd I sub hc'.1.1 ha rx
 obtain⟨bs,r2⟩:=Zd I sub hc'.1.2 hb ry
 refine PySem.SeqAt.compareNe_reads r1 r2 (uu _ hc'.1.1) (uu _ hc'.1.2) (Ej hu hc) ?_
 rw[zg _ _ hc'.1.1 hc'.1.2]
 exact⟨.bl _,H,I,rfl,q⟩
theorem om_eq (hu:X.A.units+200<cLine):OpM X (compareOp .Eq) gEq:=by
 refine⟨_,as4 hu,fun Z α F H μ a b c x y Q R ha hb hg k=>?_⟩
 unfold gEq at hg
 split at hg
 ·rename_i hc
  cases hg
  exact⟨F,α,a,b,R.sub,ha,hb,hc,k _ F H R (ja.refl _) (uh _)⟩
 ·cases hg
theorem om_ne (hu:X.A.units+200<cLine):OpM X (compareOp .NotEq) gNe:=by
 refine⟨_,ar8 hu,fun Z α F H μ a b c x y Q R ha hb hg k=>?_⟩
 unfold gNe at hg
 split at hg
 ·rename_i hc
  cases hg
  exact⟨F,α,a,b,R.sub,ha,hb,hc,k _ F H R (ja.refl _) (uh _)⟩
 ·cases hg
noncomputable def inD (x:D) (ds:List D):Bool:=ds.any fun y=>eqD y x
noncomputable def Vu (x:D) (ds:List D):Bool:=jp x&&plainDs ds&&decide (dpt x<=100)
noncomputable def a68 (neg:Bool):G2:=fun a b=>match b with
 |.lst ds=>if Vu a ds then some (.bl (if neg then !inD a ds else inD a ds)) else none
 |.tup ds=>if Vu a ds then some (.bl (if neg then !inD a ds else inD a ds)) else none
 |_=>none
noncomputable def gIn:G2:=a68 false
noncomputable def fk:G2:=a68 true
theorem ft {pins:List (Addr×Obj)}{σ:L2.St}{H F:Hp}{s:Shared}{α:List Addr}{A:Around}(hu:A.units+150<cLine) (I:Inv X pins σ H s) (sub:ja F H) {x:D}{v:V}{u:Value}(hx:jp x=true) (hd:dpt x<=100)
  (h:Pk X.K α F H x v) (r:J3 v u) (ds:List D) (vs:List V) (us:List Value) (hp:plainDs ds=true) (hr:Reps X.K F α ds vs) (rv:J8 vs us) :
  ∃e:Value->Bool,(∀w∈us,SeqAt.EqAt A s w u (e w))/\us.any e=inD x ds:=by
 obtain⟨bs,rx⟩:=Zd I sub hx h r
 have hone:∀(d:D) (w:Value) (as:List Addr),jp d=true->Reads s.heap w (Ja d) as->SeqAt.EqAt A s w u (eqD d x):=fun d w as hd' q=>by
  have:=PySem.SeqAt.eqAt_reads (Ja d) (Ja x) A s w u as bs q rx (uu _ hd') (uu _ hx) (by rw[Ye,Ye];omega)
  rw[zg _ _ hd' hx] at this
  exact this
 classical
 let e:Value->Bool:=fun w=>decide (∃d as,jp d=true/\Reads s.heap w (Ja d) as/\eqD d x=true)
 have he:∀(d:D) (w:Value) (as:List Addr),jp d=true->Reads s.heap w (Ja d) as->e w=eqD d x:=fun d w as hd' q=>by
  cases hq:eqD d x with
  |true=>exact decide_eq_true ⟨d,as,hd',q,hq⟩
  |false =>
   refine decide_eq_false ?_
   rintro ⟨d2,as2,hp2,q2,e2⟩
   have e3:=PySem.SeqAt.Reads.unique (Ja d) (Ja d2) w as as2 (uu _ hd') q q2
   rw[←zg _ _ hp2 hx,←e3,zg _ _ hd' hx,hq] at e2
   cases e2
 have all:∀(ds:List D) (vs:List V) (us:List Value),plainDs ds=true->Reps X.K F α ds vs->J8 vs us->(∀w∈us,SeqAt.EqAt A s w u (e w))/\us.any e=inD x ds:=by
  intro ds
  induction ds with
  |nil =>
   intro vs us _ hr rv
   unfold Reps at hr
   subst hr
   cases rv
   exact⟨fun w hw=>(nomatch hw),rfl⟩
  |cons d ds ih =>
   intro vs us hp hr rv
   unfold Reps at hr
   obtain⟨v1,vr,rfl,h1,h2⟩:=hr
   simp only[plainDs,Bool.and_eq_true] at hp
   cases rv with
   |cons r1 r2 =>
    obtain⟨as,q1⟩:=vk I sub d v1 _ hp.1 h1 r1
    obtain⟨a1,a2⟩:=ih vr _ hp.2 h2 r2
    refine⟨fun w hw=>?_,?_⟩
    ·rcases List.mem_cons.mp hw with rfl|hw
     ·rw[he d _ as hp.1 q1];exact hone d _ as hp.1 q1
     ·exact a1 w hw
    ·rw[List.any_cons,he d _ as hp.1 q1,a2]
     rfl
 exact⟨e,(all ds vs us hp hr rv).1,(all ds vs us hp hr rv).2⟩
noncomputable def ap3 (K:PySem.W.Frag) (neg:Bool):R2:=fun x y H Q=>∃F α a ds p vs,ja F H/\Pk K α F H a x/\y=.ref p/\(SqL K H p vs\/SqT K H p vs)/\Reps K F α ds vs/\Vu a ds=true/\Q (.bl (if neg then !inD a ds else inD a ds)) H
theorem as3 (hu:X.A.units+200<cLine):OpR X (compareOp .In) (ap3 X.K false):=by
 intro pins s σ H x y v u Q I rx ry h
 obtain⟨F,α,a,ds,p,vs,sub,ha,rfl,hq,hr,hc,q⟩:=h
 unfold Vu at hc
 simp only[Bool.and_eq_true,decide_eq_true_eq] at hc
 cases ry
 rcases hq with hq|hq
 ·obtain⟨its,r,pl,hz⟩:=I.list hq
  obtain⟨e,e1,e2⟩:=ft (A:=X.A.in1) (by show X.A.units+1+150<cLine;omega) I sub hc.1.1 hc.2 ha rx ds vs its hc.1.2 hr r
  refine SeqAt.in_listAt e pl.isList (fun w hw=>e1 w (by simpa using hw)) ⟨.bl _,H,I,rfl,?_⟩
  rw[show its.toArray.any e=its.any e by simp,e2]
  exact q
 ·obtain⟨its,r,pl,hz⟩:=I.tuple hq
  obtain⟨e,e1,e2⟩:=ft (A:=X.A.in1) (by show X.A.units+1+150<cLine;omega) I sub hc.1.1 hc.2 ha rx ds vs its hc.1.2 hr r
  refine SeqAt.in_tupleAt e pl (fun w hw=>e1 w (by simpa using hw)) ⟨.bl _,H,I,rfl,?_⟩
  rw[show its.toArray.any e=its.any e by simp,e2]
  exact q
theorem Bo (hu:X.A.units+200<cLine):OpR X (compareOp .NotIn) (ap3 X.K true):=by
 intro pins s σ H x y v u Q I rx ry h
 obtain⟨F,α,a,ds,p,vs,sub,ha,rfl,hq,hr,hc,q⟩:=h
 unfold Vu at hc
 simp only[Bool.and_eq_true,decide_eq_true_eq] at hc
 cases ry
 rcases hq with hq|hq
 ·obtain⟨its,r,pl,hz⟩:=I.list hq
  obtain⟨e,e1,e2⟩:=ft (A:=X.A.in1) (by show X.A.units+1+150<cLine;omega) I sub hc.1.1 hc.2 ha rx ds vs its hc.1.2 hr r
  refine SeqAt.notIn_listAt e pl.isList (fun w hw=>e1 w (by simpa using hw)) ⟨.bl _,H,I,rfl,?_⟩
  rw[show its.toArray.any e=its.any e by simp,e2]
  exact q
 ·obtain⟨its,r,pl,hz⟩:=I.tuple hq
  obtain⟨e,e1,e2⟩:=ft (A:=X.A.in1) (by show X.A.units+1+150<cLine;omega) I sub hc.1.1 hc.2 ha rx ds vs its hc.1.2 hr r
  refine SeqAt.notIn_tupleAt e pl (fun w hw=>e1 w (by simpa using hw)) ⟨.bl _,H,I,rfl,?_⟩
  rw[show its.toArray.any e=its.any e by simp,e2]
  exact q
theorem ak0 {K:PySem.W.Frag}(neg:Bool):Up K (ap3 K neg) (a68 neg):=by
 intro Z α F H μ a b c x y Q R ha hb hg k
 cases b with
 |lst ds =>
  simp only[a68] at hg
  split at hg
  ·rename_i hc
   have hg:=Option.some.inj hg
   subst hg
   obtain⟨p,vs,rfl,hs,hr⟩:=hb
   exact⟨F,α,a,ds,p,vs,R.sub,ha,rfl,.inl hs,hr,hc,k _ F H R (ja.refl _) (uh _)⟩
  ·cases hg
 |tup ds =>
  simp only[a68] at hg
  split at hg
  ·rename_i hc
   have hg:=Option.some.inj hg
   subst hg
   unfold Pk Rep at hb
   obtain⟨p,vs,rfl,hs,hr⟩:=hb
   exact⟨F,α,a,ds,p,vs,R.sub,ha,rfl,.inr (ja.tup R.sub hs),hr,hc,k _ F H R (ja.refl _) (uh _)⟩
  ·cases hg
 |_=>cases hg
theorem om_in (hu:X.A.units+200<cLine):OpM X (compareOp .In) gIn:=⟨_,as3 hu,ak0 false⟩
theorem a19 (hu:X.A.units+200<cLine):OpM X (compareOp .NotIn) fk:=⟨_,Bo hu,ak0 true⟩
end
end M
namespace M
open PySem PySem.Spec PyProof.Rows L2
noncomputable def kl (d:D):Option DK:=match d with
 |.int i=>some (.inl i)
 |.str x=>some (.inr x)
 |_=>none
noncomputable def yi:List DK->List D->DK->Option D
 |k::ks,v::vs,q=>if k=q then some v else yi ks vs q
 |_,_,_=>none
theorem a77 {a b:DK}(h:dk a=dk b):a=b:=by
 cases a with
 |inl i =>
  cases b with
  |inl j=>exact congrArg _ (Sum.inl.inj h)
  |inr y=>cases h
 |inr x =>
  cases b with
  |inl j=>cases h
  |inr y =>
   have h2:(⟨x.toArray⟩:Str)=⟨y.toArray⟩:=Sum.inr.inj h
   have h3:x.toArray=y.toArray:=by injection h2
   have h4:x=y:=by simpa using congrArg Array.toList h3
   rw[h4]
theorem fy {K:PySem.W.Frag}{α:List Addr}{F H:Hp}{d:D}{v:V}{k:DK}(h:Pk K α F H d v) (e:kl d=some k):v=kV (dk k):=by
 cases d with
 |int i=>cases e;exact zz h
 |str x=>cases e;exact Uq h
 |_=>cases e
theorem q8 {K:PySem.W.Frag}{F:Hp}{α:List Addr}:∀{ks:List DK}{ds:List D}{vs:List V}{k:DK},Reps K F α ds vs->ks.length=ds.length ->
  (∃d v,yi ks ds k=some d/\Yq ((ks.map dk).zip vs) (dk k)=some v/\Rep K F α d v)\/(yi ks ds k=none/\Yq ((ks.map dk).zip vs) (dk k)=none)
 |[],_,_,_,_,_=>.inr ⟨rfl,rfl⟩
 |q::ks,[],vs,k,_,hl=>by simp at hl
 |q::ks,d::ds,vs,k,h,hl=>by
  unfold Reps at h
  obtain⟨v,vr,rfl,h1,h2⟩:=h
  by_cases e:q=k
  ·subst e
   refine .inl ⟨d,v,by simp[yi],?_,h1⟩
   exact Qa (p:=(dk q,v)) rfl
  ·have e2:¬dk q=dk k:=fun z=>e (a77 z)
   have ih:=q8 (k:=k) h2 (by simpa using hl)
   rw[show yi (q::ks) (d::ds) k=yi ks ds k by simp[yi,e],show Yq (((q::ks).map dk).zip (v::vr)) (dk k)=Yq ((ks.map dk).zip vr) (dk k) from x0 (p:=(dk q,v)) e2]
   exact ih
noncomputable def y7:G2:=fun a b=>match a with
 |.dic ks vs=>(kl b).bind (yi ks vs)
 |_=>none
noncomputable def X8 (neg:Bool):G2:=fun b a=>match a with
 |.dic ks vs=>(kl b).map fun k=>.bl (if neg then !(yi ks vs k).isSome else(yi ks vs k).isSome)
 |_=>none
section
variable {X:Cx}{EX:EXT}{e a b c:Expr}{pos:Pos}{m ma mb mc:MX}{es rest:List Expr}
theorem a99 {K:PySem.W.Frag}:Up K (fun x y H Q=>∃a v,x=.ref a/\Q2 H a y (some v)/\Q v H) y7:=by
 intro Z α F H μ a b c x y Q R ha hb hg k
 cases a with
 |dic ks ds =>
  simp only[y7] at hg
  cases hk:kl b with
  |none=>rw[hk] at hg;cases hg
  |some q =>
   rw[hk] at hg
   have hy:=fy hb hk
   obtain⟨p,vs,rfl,hs,hl,hr⟩:=ha
   rcases q8 (k:=q) hr hl with⟨d,v,h1,h2,h3⟩|⟨h1,h2⟩
   ·have hg:yi ks ds q=some c:=hg
    rw[h1] at hg
    cases hg
    subst hy
    exact⟨p,v,rfl,by rw[←h2];exact Q2.k hs,k v F H R (ja.refl _) h3⟩
   ·have hg:yi ks ds q=some c:=hg
    rw[h1] at hg
    cases hg
 |_=>cases hg
theorem Gg (hu:X.A.units+200<cLine) (ha:ME X EX a ma) (hb:ME X EX b mb) (hs:ai7 b):ME X EX (.Subscript a b pos) (j0 y7 ma mb):=by
 obtain⟨ta,pa,sa⟩:=ha
 obtain⟨tb,pb,sb⟩:=hb
 exact⟨_,ac2 (by omega) pa pb hs,Yi (r:=fun x y H Q=>∃a v,x=.ref a/\Q2 H a y (some v)/\Q v H) sa sb a99⟩
theorem Aj {K:PySem.W.Frag}(neg:Bool):Up K (fun y x H Q=>∃a o,x=.ref a/\Q2 H a y o/\Q (.bl (if neg then !o.isSome else o.isSome)) H) (X8 neg):=by
 intro Z α F H μ b a c y x Q R hb ha hg k
 cases a with
 |dic ks ds =>
  simp only[X8] at hg
  cases hk:kl b with
  |none=>rw[hk] at hg;cases hg
  |some q =>
   rw[hk] at hg
   have hg:=Option.some.inj hg
   subst hg
   have hy:=fy hb hk
   subst hy
   obtain⟨p,vs,rfl,hs,hl,hr⟩:=ha
   refine⟨p,_,rfl,Q2.k hs,k _ F H R (ja.refl _) ?_⟩
   show Rep K F α (D.bl (if neg=true then !(yi ks ds q).isSome else(yi ks ds q).isSome)) _
   rcases q8 (k:=q) hr hl with⟨d,v,h1,h2,h3⟩|⟨h1,h2⟩
   ·rw[h1,h2];exact uh _
   ·rw[h1,h2];exact uh _
 |_=>cases hg
theorem at3 (hu:X.A.units+200<cLine) (ha:ME X EX a ma) (hb:ME X EX b mb) (hm:behindInMarks .In b=false):MT X EX (.Compare a [.In] [b] pos) (j8 (j0 (X8 false) ma mb)):=by
 obtain⟨ta,pa,sa⟩:=ha
 obtain⟨tb,pb,sb⟩:=hb
 exact⟨_,vi (ar5 (by omega) pa pb) hm,yt (Yi (r:=fun y x H Q=>∃a o,x=.ref a/\Q2 H a y o/\Q (.bl (if false then !o.isSome else o.isSome)) H) sa sb (Aj false))⟩
theorem Bi (hu:X.A.units+200<cLine) (ha:ME X EX a ma) (hb:ME X EX b mb) (hm:behindInMarks .NotIn b=false):MT X EX (.Compare a [.NotIn] [b] pos) (j8 (j0 (X8 true) ma mb)):=by
 obtain⟨ta,pa,sa⟩:=ha
 obtain⟨tb,pb,sb⟩:=hb
 exact⟨_,vi (Bq (by omega) pa pb) hm,yt (Yi (r:=fun y x H Q=>∃a o,x=.ref a/\Q2 H a y o/\Q (.bl (if true then !o.isSome else o.isSome)) H) sa sb (Aj true))⟩
theorem RH.hold {K:PySem.W.Frag}{Z:ZS}{F H:Hp}{α:List Addr}{μ:Mu}{p:Addr}(o:HO) (r:RH K Z α F H μ) (hp:H p=none):RH K (ZS.up Z p o) α F (upd H p o) μ:=by
 have fp:F p=none:=by
  cases e:F p with
  |none=>rfl
  |some u=>rw[r.sub _ _ e] at hp;cases hp
 refine⟨fun b u e=>?_,r.len,fun k a c ha hc=>?_,fun b u e=>?_,fun b u e=>?_,fun k a c ha hc hd=>?_,r.dis,r.ext⟩
 ·rw[jz (js (r.sub b u e) hp)];exact r.sub b u e
 ·have h:=r.cell k a c ha hc
  exact h.go (Ext.refl _ _) (fun _=>rfl) fun hd=>let⟨_,_,z⟩:=h.live hd;jz (js z hp)
 ·by_cases hb:b=p
  ·subst hb;rw[Ud] at e;rw[jt];exact e
  ·rw[yy hb] at e;rw[jz hb];exact r.zs b u e
 ·by_cases hb:b=p
  ·subst hb;exact fp
  ·rw[yy hb] at e;exact r.zf b u e
 ·have h:=r.cell k a c ha hc
  have hz:=r.zc k a c ha hc hd
  obtain⟨_,_,z⟩:=h.live hd
  rw[yy (js z hp)];exact hz
theorem RH.unhold {K:PySem.W.Frag}{Z:ZS}{F H:Hp}{α:List Addr}{μ:Mu}{p:Addr}{o:HO}(o':HO) (r:RH K (ZS.up Z p o) α F H μ) (hz:Z.z p=none):RH K Z α (upd F p o') (upd H p o') μ/\ja F (upd F p o'):=by
 have fp:F p=none:=r.zf p o Ud
 have sF:ja F (upd F p o'):=fun b u e=>by rw[jz (js e fp)];exact e
 have ex:Ext α F α (upd F p o'):=⟨sF,fun _ _ h=>h⟩
 have nc:∀(k:Nat) (a:Addr) (c:Cell),α[k]? =some a->μ[k]? =some c->c≠.dead->a≠p:=fun k a c ha hc hd z=>by
  have:=r.zc k a c ha hc hd
  rw[z,Ud] at this
  cases this
 refine⟨⟨fun b u e=>?_,r.len,fun k a c ha hc=>?_,fun b u e=>?_,fun b u e=>?_,fun k a c ha hc hd=>?_,r.dis,r.ext.trans ex⟩,sF⟩
 ·by_cases hb:b=p
  ·subst hb;rw[jt] at e ⊢;exact e
  ·rw[jz hb] at e ⊢;exact r.sub b u e
 ·exact(r.cell k a c ha hc).go ex (fun hd=>jz (nc k a c ha hc hd)) fun hd=>jz (nc k a c ha hc hd)
 ·have hb:b≠p:=js e hz
  rw[jz hb]
  exact r.zs b u (by rw[yy hb];exact e)
 ·have hb:b≠p:=js e hz
  rw[jz hb]
  exact r.zf b u (by rw[yy hb];exact e)
 ·have ne:=nc k a c ha hc hd
  have:=r.zc k a c ha hc hd
  rw[yy ne] at this
  exact this
noncomputable def MPs (X:Cx) (EX:EXT) (pos:Pos) (keys:List (Option Expr)) (values:List Expr) (ks:List DK) (ms:MAs):Prop :=
 keys.length=ks.length/\(∃trs,PPs X pos keys values trs/\∀Z α F H σ ρ μ Q,RS X.K Z α F H σ ρ μ->GA X.K EX Z α F (fun vs H'=>Q ((ks.map fun k=>kV (dk k)).zip vs) H') (ms ρ μ)->gm trs σ H Q)/\∀ρ μ ds μ',ms ρ μ=.ok ds μ'->ds.length=ks.length
theorem ae8:MPs X EX pos [] [] [] mNil:=⟨rfl,⟨[],ab3,fun Z α F H σ ρ μ Q R g=>g [] α F H R.hp (Ext.refl _ _) J5⟩,fun ρ μ ds μ' h=>by cases h;rfl⟩
theorem Ut {x:Str}{cs:List Nat}{j:Nat}{p:Pos}{v:Expr}{ks:List (Option Expr)}{vs:List Expr}{kd:List DK}{ms:MAs}(hx:x=⟨cs.toArray⟩) (hv:ME X EX v m) (hr:MPs X EX pos ks vs kd ms) :
  MPs X EX pos (some (.Constant (.str x) j p)::ks) (v::vs) (.inr cs::kd) (mCons m ms):=by
 obtain⟨tv,pv,sv⟩:=hv
 obtain⟨hk,⟨trs,pr,sr⟩,lr⟩:=hr
 refine⟨by simp[hk],⟨_,a08 G9 pv pr,fun Z α F H σ ρ μ Q R g=>?_⟩,fun ρ μ ds μ' h=>?_⟩
 rotate_left
 ·unfold mCons at h
  cases e1:m ρ μ with
  |ok d μ1 =>
   rw[e1] at h
   simp only[bind_ok] at h
   cases e2:ms ρ μ1 with
   |ok dr μ2 =>
    rw[e2] at h
    simp only[bind_ok] at h
    cases h
    simp[lr _ _ _ _ e2]
   |exc x μ2=>rw[e2] at h;cases h
   |bad=>rw[e2] at h;cases h
  |exc x μ1=>rw[e1] at h;cases h
  |bad=>rw[e1] at h;cases h
 show tv σ H _
 refine sv Z α F H σ ρ μ _ R (GE.step (G:=GA X.K EX Z α F fun vs H'=>Q (((Sum.inr cs::kd).map fun k=>kV (dk k)).zip vs) H') g (fun _ _ h=>h) (fun h=>h) fun d μ1 v α1 F1 H1 R1 e1 p1 g1=>?_)
 refine sr Z α1 F1 H1 σ ρ μ1 _ (R.to R1 e1) (GA.step (G:=GA X.K EX Z α F fun vs H'=>Q (((Sum.inr cs::kd).map fun k=>kV (dk k)).zip vs) H') g1 (fun _ _ h=>h) (fun h=>h) fun ds μ2 vs α2 F2 H2 R2 e2 p2 g2=>?_)
 have:=g2 (v::vs) α2 F2 H2 R2 (e1.trans e2) (j5 (p1.mono e2) p2)
 subst hx
 exact this
theorem w8:∀(more acc:List (Key×V)),((acc++more).map (·.1)).Nodup->yg acc more=acc++more
 |[],acc,_=>by simp[yg]
 |kv::more,acc,h=>by
  have hn:Yq acc kv.1=none:=by
   cases e:Yq acc kv.1 with
   |none=>rfl
   |some v =>
    exfalso
    have hm:kv.1∈acc.map (·.1):=by
     have q:(acc.any fun x=>decide (x.1=kv.1))=true:=by rw[v3,e];rfl
     obtain⟨p,hp,e⟩:=List.any_eq_true.mp q
     exact List.mem_map.mpr ⟨p,hp,of_decide_eq_true e⟩
    rw[List.map_append,List.nodup_append] at h
    exact h.2.2 _ hm _ (by simp) rfl
  show yg (vj acc kv.1 kv.2) more=_
  rw[a04 _ hn]
  rw[w8 more (acc++[(kv.1,kv.2)]) (by simpa using h)]
  simp
theorem Fv {β γ δ:Type}(f:β->γ):∀(l:List β) (r:List δ),(l.map f).zip r=(l.zip r).map fun p=>(f p.1,p.2)
 |[],_=>by simp
 |_::_,[]=>by simp
 |a::l,b::r=>by simp only[List.map_cons,List.zip_cons_cons];rw[Fv f l r]
theorem va:∀{ks:List DK},ks.Nodup->(ks.map dk).Nodup
 |[],_=>List.nodup_nil
 |k::ks,h=>by
  rw[List.nodup_cons] at h
  rw[List.map_cons,List.nodup_cons]
  refine⟨fun hm=>?_,va h.2⟩
  obtain⟨q,hq,e⟩:=List.mem_map.mp hm
  exact h.1 (a77 e▸hq)
noncomputable def aD1 (ks:List DK) (ms:MAs):MX:=fun ρ μ=>(ms ρ μ).bind fun ds μ1=>.ok (.dic ks ds) μ1
theorem au2 {keys:List (Option Expr)}{values:List Expr}{ks:List DK}{ms:MAs}(h:MPs X EX pos keys values ks ms) (nd:ks.Nodup) (hall:keys.all (·.isSome)=true) (hl:keys.length=values.length) (h0:keys≠[]) (h15:keys.length<=15) :
  ME X EX (.Dict keys values pos) (aD1 ks ms):=by
 obtain⟨hk,⟨trs,pp,sp⟩,lp⟩:=h
 refine⟨_,ac1 pp hall hl h0 h15,fun Z α F H σ ρ μ Q R g=>?_⟩
 intro p hp
 have hz:Z.z p=none:=by
  cases e:Z.z p with
  |none=>rfl
  |some u=>rw[R.hp.zs _ _ e] at hp;cases hp
 refine sp (ZS.up Z p (.dK [])) α F (upd H p (.dK [])) σ ρ μ _ ⟨R.hp.hold _ hp,R.len,R.sl⟩ (GA.stepE (G:=GE X.K EX Z α F Q) g (fun _ _ h=>EX.mono _ _ _ _ _ hz h) (fun h=>h) fun ds μ1 vs α1 F1 H1 hm R1 e1 p1 g1=>?_)
 have hlen:=lp _ _ _ _ hm
 have hlen2:=p1.length
 refine⟨R1.zs _ _ Ud,(ks.map dk).zip vs,?_,?_,?_⟩
 ·show(ks.map fun k=>kV (dk k)).zip vs=((ks.map dk).zip vs).map fun kv=>(kV kv.1,kv.2)
  have:(ks.map fun k=>kV (dk k))=(ks.map dk).map kV:=by simp
  rw[this]
  exact Fv kV _ _
 ·rw[List.length_zip,List.length_map];omega
 ·have nd2:(((ks.map dk).zip vs).map (·.1)).Nodup:=by
   rw[List.map_fst_zip (by simp;omega)]
   exact va nd
  rw[w8 _ [] (by simpa using nd2),List.nil_append]
  obtain⟨R2,s2⟩:=R1.unhold (.dK ((ks.map dk).zip vs)) hz
  refine g1 _ α1 _ _ R2 (e1.trans ⟨s2,fun _ _ h=>h⟩) ?_
  unfold Rep
  exact⟨p,vs,rfl,jt,by omega,p1.mono ⟨s2,fun _ _ h=>h⟩⟩
noncomputable abbrev GL:=List D->Option D
noncomputable def Pks (K:PySem.W.Frag) (α:List Addr) (F H:Hp):List D->List V->Prop
 |[],vs=>vs=[]
 |d::ds,vs=>∃v r,vs=v::r/\Pk K α F H d v/\Pks K α F H ds r
theorem RH.pks {K:PySem.W.Frag}{Z:ZS}{α:List Addr}{F H:Hp}{μ:Mu}(r:RH K Z α F H μ):∀{ds:List D}{vs:List V},Reps K F α ds vs->Pks K α F H (ds.map (deref μ)) vs
 |[],vs,h=>by unfold Reps at h;exact h
 |d::ds,vs,h=>by
  unfold Reps at h
  obtain⟨v,vr,hv,h1,h2⟩:=h
  exact⟨v,vr,hv,r.pk h1,RH.pks r h2⟩
noncomputable def B4 (K:PySem.W.Frag) (r:List V->Hp->VK->Prop) (g:GL):Prop:=∀Z α F H μ ds c vs Q,RH K Z α F H μ->Pks K α F H ds vs->g ds=some c ->
 (∀v F' H',RH K Z α F' H' μ->ja F F'->Rep K F' α c v->Q v H')->r vs H Q
noncomputable def W7 (X:Cx) (f:Value) (g:GL):Prop:=∃r,ze X f r/\B4 X.K r g
noncomputable def jl (g:GL) (ms:MAs):MX:=fun ρ μ=>(ms ρ μ).bind fun ds μ1=>ofO μ1 (g (ds.map (deref μ1)))
theorem Vq {t:TA}{ms:MAs}{r:List V->Hp->VK->Prop}{g:GL}(st:∀Z α F H σ ρ μ Q,RS X.K Z α F H σ ρ μ->GA X.K EX Z α F Q (ms ρ μ)->t σ H Q) (hs:B4 X.K r g):Qc X EX (tCB r t) (jl g ms):=by
 intro Z α F H σ ρ μ Q R gd
 refine st Z α F H σ ρ μ _ R (GA.step (G:=GE X.K EX Z α F Q) gd (fun _ _ h=>h) (fun h=>h) fun ds μ1 vs α1 F1 H1 R1 e1 p1 g1=>?_)
 cases hg:g (ds.map (deref μ1)) with
 |none=>rw[hg] at g1;exact g1.elim
 |some c =>
  rw[hg] at g1
  exact hs Z α1 F1 H1 μ1 _ c vs Q R1 (R1.pks p1) hg fun v F' H' R' sf rp=>g1 v α1 F' H' R' (e1.trans ⟨sf,fun _ _ h=>h⟩) rp
theorem u5 {x:Str}{p:Pos}{id:String}{g:GL}{ms:MAs}(hc:W7 X (.builtin id) g) (hg:Gl X x) (hm:X.mg x=none) (hv:bootBuiltins x=some (.builtin id)) (ha:MA X EX (e::es) ms) (hn:x≠"__name__":=by decide) (hdb:(x==("__debug__":Str))=false:=by decide)
  (he:starEach (e::es) X.env=(false,eval e X.env)::starEach es X.env:=by rfl) (hpl:(backTo pos (starEach es X.env)).any (·.1)=false:=by rfl):ME X EX (.Call (.Name x p) (e::es) [] pos) (jl g ms):=by
 obtain⟨r,h1,h2⟩:=hc
 obtain⟨t,pt,st,_⟩:=ha
 exact⟨_,xt h1 hg hm hv pt hn hdb he hpl,Vq st h2⟩
theorem zl {x:Str}{p:Pos}{T:String}{g:GL}{ms:MAs}(hc:W7 X (.type T) g) (hg:Gl X x) (hm:X.mg x=none) (hv:bootBuiltins x=some (.type T)) (ha:MA X EX (e::es) ms) (hn:x≠"__name__":=by decide) (hdb:(x==("__debug__":Str))=false:=by decide)
  (he:starEach (e::es) X.env=(false,eval e X.env)::starEach es X.env:=by rfl) (hpl:(backTo pos (starEach es X.env)).any (·.1)=false:=by rfl):ME X EX (.Call (.Name x p) (e::es) [] pos) (jl g ms):=by
 obtain⟨r,h1,h2⟩:=hc
 obtain⟨t,pt,st,_⟩:=ha
 exact⟨_,Bs h1 hg hm hv pt hn hdb he hpl,Vq st h2⟩
noncomputable def U1:GL:=fun ds=>match ds with
 |[.lst xs]=>some (.int xs.length)
 |[.tup xs]=>some (.int xs.length)
 |[.str xs]=>if xs.length<=16777216 then some (.int xs.length) else none
 |_=>none
theorem yc:W7 X (.builtin "len") U1:=by
 refine⟨_,a82,fun Z α F H μ ds c vs Q R hp hg k=>?_⟩
 match ds,hg with
 |[.lst xs],hg =>
  obtain⟨v,r,rfl,⟨a,us,rfl,hs,hr⟩,hq⟩:=hp
  have hq:r=[]:=hq
  subst hq
  cases hg
  exact⟨_,_,rfl,.inl ⟨us,hs,rfl⟩,by rw[←hr.length];exact k _ F H R (ja.refl _) (rep_int _)⟩
 |[.tup xs],hg =>
  obtain⟨v,r,rfl,hv,hq⟩:=hp
  have hq:r=[]:=hq
  subst hq
  unfold Pk Rep at hv
  obtain⟨a,us,rfl,hs,hr⟩:=hv
  cases hg
  exact⟨_,_,rfl,.inr ⟨us,ja.tup R.sub hs,rfl⟩,by rw[←hr.length];exact k _ F H R (ja.refl _) (rep_int _)⟩
 |[.str xs],hg =>
  obtain⟨v,r,rfl,hv,hq⟩:=hp
  have hq:r=[]:=hq
  subst hq
  have hv:=Uq hv
  subst hv
  simp only[U1] at hg
  split at hg
  ·rename_i hl
   cases hg
   refine⟨_,xs.length,rfl,⟨by rw[sizeLine_eq];simpa[Str.length] using hl,by simp[Str.length]⟩,k _ F H R (ja.refl _) (rep_int _)⟩
  ·cases hg
theorem a09 {K:PySem.W.Frag}{α:List Addr}{F H:Hp}{a:D}{vs:List V}(h:Pks K α F H [a] vs):∃v,vs=[v]/\Pk K α F H a v:=by
 obtain⟨v,r,rfl,h1,h3⟩:=h
 have h3:r=[]:=h3
 subst h3
 exact⟨v,rfl,h1⟩
noncomputable def a67:GL:=fun ds=>match ds with
 |[.int i]=>some (.int i)
 |[.bl k]=>some (.int (if k then 1 else 0))
 |_=>none
theorem a79:W7 X (.type "int") a67:=by
 refine⟨_,af,fun Z α F H μ ds c vs Q R hp hg k=>?_⟩
 match ds,hg with
 |[.int i],hg =>
  obtain⟨v,rfl,h1⟩:=a09 hp
  rw[zz h1]
  cases hg
  exact .inl ⟨i,rfl,k _ F H R (ja.refl _) (rep_int _)⟩
 |[.bl i],hg =>
  obtain⟨v,rfl,h1⟩:=a09 hp
  rw[ak4 h1]
  cases hg
  exact .inr ⟨i,rfl,k _ F H R (ja.refl _) (rep_int _)⟩
inductive Ki where
 |int|bool|str|list|tuple
noncomputable def Ki.nm:Ki->String
 |.int=>"int"
 |.bool=>"bool"
 |.str=>"str"
 |.list=>"list"
 |.tuple=>"tuple"
noncomputable def isI (k:Ki) (d:D):Option Bool:=match d,k with
 |.non,_=>some false
 |.bl _,.bool=>some true
 |.bl _,.int=>some true
 |.bl _,_=>some false
 |.int _,.int=>some true
 |.int _,_=>some false
 |.str _,.str=>some true
 |.str _,_=>some false
 |.tup _,.tuple=>some true
 |.tup _,_=>some false
 |.lst _,.list=>some true
 |.lst _,_=>some false
 |.dic _ _,_=>some false
 |.ref _,_=>none
noncomputable def tyD:D->Option String
 |.non=>some "NoneType"
 |.bl _=>some "bool"
 |.int _=>some "int"
 |.str _=>some "str"
 |.tup _=>some "tuple"
 |.lst _=>some "list"
 |.dic _ _=>some "dict"
 |.ref _=>none
theorem ag4 {K:PySem.W.Frag}{k:Ki}{d:D}{b:Bool}{t:String}(h:isI k d=some b) (ht:tyD d=some t):PySem.W.kitOne K (.type t) (.type k.nm)=some b:=by
 cases d<;>cases ht<;>cases k<;>cases h<;>rfl
theorem a4 {pins:List (Addr×Obj)}{σ:L2.St}{H F:Hp}{s:Shared}{α:List Addr}{A:Around}{E:Value->Shared->Prop}{Q:Value->Shared->Prop}{cl:Value}{b:Bool}{d:D}{v:V}{u:Value}{t:String}
  (I:Inv X pins σ H s) (sub:ja F H) (h:Pk X.K α F H d v) (r:J3 v u) (ht:tyD d=some t) (e:PySem.W.kitOne X.K (.type t) cl=some b) (q:∀tk,Q (.bool b) { s with toks:=tk}) :
  wpAny (model X.prog X.w) A (call (.builtin "isinstance") [u,cl]) Q E s:=by
 cases d with
 |non=>cases ht;have:=aq2 h;subst this;exact zk I r .non e q
 |bl x=>cases ht;have:=ak4 h;subst this;exact zk I r (.bl x) e q
 |int x=>cases ht;have:=zz h;subst this;exact zk I r (.int x) e q
 |str x=>cases ht;have:=Uq h;subst this;exact zk I r (.str _) e q
 |tup x =>
  cases ht
  unfold Pk Rep at h
  obtain⟨a,vs,rfl,hs,hr⟩:=h
  cases r
  obtain⟨its,rv,⟨o,h1,h2,_⟩,_⟩:=I.tuple (ja.tup sub hs)
  exact PySem.W.kia_one PySem.W.kitx_tuple I.kIn ⟨o,h1,h2⟩ e (fun z=>nomatch z) q
 |lst x =>
  cases ht
  obtain⟨a,vs,rfl,hs,hr⟩:=h
  cases r
  obtain⟨its,rv,⟨o,n,h1,h2,_⟩,_⟩:=I.list hs
  exact PySem.W.kia_one PySem.W.kitx_list I.kIn ⟨o,h1,h2⟩ e (fun z=>nomatch z) q
 |dic ks x =>
  cases ht
  obtain⟨a,vs,rfl,hs,_⟩:=h
  exact zk I r (.dK hs) e q
 |ref x=>cases ht
noncomputable def Bf (k:Ki) (m:MX):MX:=fun ρ μ=>(m ρ μ).bind fun d μ1=>ofO μ1 ((isI k (deref μ1 d)).map .bl)
theorem a84 (k:Ki):ze X (.builtin "isinstance") (fun xs H Q=>∃F α d v b,ja F H/\xs=[v,.ty k.nm]/\Pk X.K α F H d v/\isI k d=some b/\Q (.bl b) H):=by
 intro pins s σ H xs us Q I r h
 obtain⟨F,α,d,v,b,sub,rfl,hp,hk,q⟩:=h
 obtain⟨u,w',rfl,h1,h2⟩:=cm r
 cases h2
 obtain⟨t,ht⟩:∃t,tyD d=some t:=by
  cases d<;>first|exact⟨_,rfl⟩|(cases hk)
 exact a4 I sub hp h1 ht (ag4 hk ht) fun tk=>⟨.bl b,H,I.tok _,rfl,q⟩
theorem V2 {x:Str}{p p2:Pos}(k:Ki) (hx:bootBuiltins x=some (.type k.nm)) (hg:Gl X "isinstance") (hm:X.mg "isinstance"=none) (hg2:Gl X x) (hm2:X.mg x=none) (ha:ME X EX e m) (hn2:x≠"__name__":=by decide) (hd2:(x==("__debug__":Str))=false:=by decide)
  (hs:starEach [e,.Name x p2] X.env=(false,eval e X.env)::starEach [.Name x p2] X.env:=by rfl) (hs2:starEach [.Name x p2] X.env=[(false,eval (.Name x p2) X.env)]:=by rfl):ME X EX (.Call (.Name "isinstance" p) [e,.Name x p2] [] pos) (Bf k m):=by
 obtain⟨t,pt,st⟩:=ha
 refine⟨_,xt (a84 k) hg hm PyProof.Rows.boot_isinstance (Ua pt (Ua (Cu (v:=.ty k.nm) hg2 hm2 hx rfl hn2 hd2) Qw hs2) hs) (by decide) (by decide) hs (by rw[hs2];rfl),fun Z α F H σ ρ μ Q R g=>?_⟩
 refine st Z α F H σ ρ μ _ R (GE.step (G:=GE X.K EX Z α F Q) g (fun _ _ h=>h) (fun h=>h) fun d μ1 v α1 F1 H1 R1 e1 p1 g1=>?_)
 cases hk:isI k (deref μ1 d) with
 |none=>rw[hk] at g1;exact g1.elim
 |some b =>
  rw[hk] at g1
  exact⟨F1,α1,deref μ1 d,v,b,R1.sub,rfl,R1.pk p1,hk,g1 _ α1 F1 H1 R1 e1 (uh _)⟩
end
noncomputable def NoX:EXT:=⟨fun _ _ _=>False,fun _ _ _ _ _ _ h=>h⟩
noncomputable abbrev Fn:=List D->Mu->Res D
noncomputable def noX {α:Type}:Res α->Res α
 |.exc _ _=>.bad
 |r=>r
noncomputable def spM (K:PySem.W.Frag) (n:Nat) (φ:Fn):Sp:=fun vs H Q _=>∃Z α F ds μ,RH K Z α F H μ/\Reps K F α ds vs/\ds.length=n/\GE K NoX Z α F Q (φ ds μ)
noncomputable def j9 (φ:Fn) (ms:MAs):MX:=fun ρ μ=>(ms ρ μ).bind fun ds μ1=>noX (φ ds μ1)
section
variable {X:Cx}{EX:EXT}{e a b c:Expr}{pos:Pos}{m ma mb mc:MX}{es rest:List Expr}{ms:MAs}
theorem GE.noX {K:PySem.W.Frag}{Z:ZS}{α:List Addr}{F:Hp}{Q:VK}{r:Res D}(h:GE K EX Z α F Q (M.noX r)):GE K NoX Z α F Q r:=by
 cases r with
 |ok d μ=>exact h
 |exc x μ=>exact h.elim
 |bad=>exact h
theorem af4 {x:Str}{p:Pos}{k:Nat}{f:Addr}{fd:FuncData}{ps:List Str}{φ:Fn}(F:FnOk X.prog X.w X.K X.mg X.base CX0 k f fd ps (spM X.K ps.length φ)) (hr:Room k X.A) (hg:Gl X x) (hm:X.mg x=some (.ref f)) (hk:PySem.W.keepIn X.K (.ref f)=true) (hb:z8 X.K fd ps [])
  (ha:MA X EX (e::es) ms) (hl:(e::es).length=ps.length) (hdb:(x==("__debug__":Str))=false:=by decide) (he:starEach (e::es) X.env=(false,eval e X.env)::starEach es X.env:=by rfl) (hpl:(backTo pos (starEach es X.env)).any (·.1)=false:=by rfl) :
  ME X EX (.Call (.Name x p) (e::es) [] pos) (j9 φ ms):=by
 obtain⟨t,pt,st,lt⟩:=ha
 refine⟨_,Cv F hr hg hm hk hb .nil Fc pt hdb he hpl,fun Z α G H σ ρ μ Q R g=>?_⟩
 refine st Z α G H σ ρ μ _ R (GA.stepE (G:=GE X.K EX Z α G Q) g (fun _ _ h=>h) (fun h=>h) fun ds μ1 vs α1 F1 H1 hm1 R1 e1 p1 g1=>?_)
 rw[List.append_nil]
 exact⟨Z,α1,F1,ds,μ1,R1,p1,(lt _ _ _ _ hm1).trans hl,GE.noX (GE.ext e1 g1)⟩
theorem a43 {x:Str}{p:Pos}{k:Nat}{f:Addr}{fd:FuncData}{φ:Fn}(F:FnOk X.prog X.w X.K X.mg X.base CX0 k f fd [] (spM X.K 0 φ)) (hr:Room k X.A) (hg:Gl X x) (hm:X.mg x=some (.ref f)) (hk:PySem.W.keepIn X.K (.ref f)=true) (hb:z8 X.K fd [] [])
  (hdb:(x==("__debug__":Str))=false:=by decide):ME X EX (.Call (.Name x p) [] [] pos) (j9 φ mNil):=by
 refine⟨_,a16 F hr hg hm hk hb .nil Fc hdb,fun Z α G H σ ρ μ Q R g=>?_⟩
 exact⟨Z,α,G,[],μ,R.hp,J5,rfl,GE.noX g⟩
variable {st:Stmt}{sts:List Stmt}{n n1 n2:MSt}{t:MB}
noncomputable def jf:MSt:=fun ρ μ=>.ok (.nx ρ) μ
noncomputable def j7 (n1 n2:MSt):MSt:=fun ρ μ=>(n1 ρ μ).bind fun o μ1=>match o with
 |.nx ρ1=>n2 ρ1 μ1
 |o=>.ok o μ1
noncomputable def jh (m:MX):MSt:=fun ρ μ=>(m ρ μ).bind fun d μ1=>.ok (.rt d) μ1
noncomputable def Jr (m:MX):MSt:=fun ρ μ=>(m ρ μ).bind fun _ μ1=>.ok (.nx ρ) μ1
noncomputable def jr (i:Nat) (m:MX):MSt:=fun ρ μ=>(m ρ μ).bind fun d μ1=>.ok (.nx (ρ.set i (some d))) μ1
noncomputable def Js (t:MB) (n1 n2:MSt):MSt:=fun ρ μ=>(t ρ μ).bind fun k μ1=>match k with
 |true=>n1 ρ μ1
 |false=>n2 ρ μ1
theorem jq:MSs X EX [] jf:=⟨_,ab1,fun Z α F H σ ρ μ N R g=>g σ α F H R (Ext.refl _ _)⟩
theorem j4 (h:MS X EX st n):MSs X EX [st] n:=let⟨t,p,s⟩:=h;⟨t,C9 p,s⟩
theorem j3 (h1:MS X EX st n1) (h2:MSs X EX sts n2):MSs X EX (st::sts) (j7 n1 n2):=by
 obtain⟨t,p,s⟩:=h1
 obtain⟨u,q,r⟩:=h2
 refine⟨_,Ff p q,fun Z α F H σ ρ μ N R g=>?_⟩
 refine s Z α F H σ ρ μ _ R ?_
 unfold j7 at g
 cases e:n1 ρ μ with
 |ok o μ1 =>
  rw[e] at g
  cases o with
  |nx ρ1=>exact fun σ' α' F' H' R' e'=>r Z α' F' H' σ' ρ1 μ1 N R' (GS.ext e' g)
  |rt d=>exact g
  |bk ρ1=>exact g
  |ct ρ1=>exact g
 |exc x μ1=>rw[e] at g;exact g
 |bad=>rw[e] at g;exact g
theorem jy (h:ME X EX e m):MS X EX (.Return (some e) pos) (jh m):=by
 obtain⟨t,p,s⟩:=h
 refine⟨_,ap8 p,fun Z α F H σ ρ μ N R g=>?_⟩
 exact s Z α F H σ ρ μ _ R (GE.step (G:=GS X.K EX Z α F N) g (fun _ _ h=>h) (fun h=>h) fun d μ1 v α1 F1 H1 R1 e1 p1 g1=>g1 v α1 F1 H1 R1 e1 p1)
theorem Jv (h:ME X EX e m) (hs:swapsWith e none pos.line X.env=pure false:=by rfl):MS X EX (.Expr e pos) (Jr m):=by
 obtain⟨t,p,s⟩:=h
 refine⟨_,Cz p hs,fun Z α F H σ ρ μ N R g=>?_⟩
 exact s Z α F H σ ρ μ _ R (GE.step (G:=GS X.K EX Z α F N) g (fun _ _ h=>h) (fun h=>h) fun d μ1 v α1 F1 H1 R1 e1 p1 g1=>g1 σ α1 F1 H1 (R.to R1 e1) e1)
theorem RS.set {K:PySem.W.Frag}{Z:ZS}{F H:Hp}{α:List Addr}{σ:L2.St}{ρ:En}{μ:Mu}{d:D}{v:V}(i:Nat) (R:RS K Z α F H σ ρ μ) (p:Rep K F α d v):RS K Z α F H (σ.set i (some v)) (ρ.set i (some d)) μ:=by
 refine⟨R.hp,by simpa using R.len,fun j e h=>?_⟩
 by_cases hj:j=i
 ·subst hj
  have hl:j<ρ.length:=by
   have:=(List.getElem?_eq_some_iff.mp h).1
   simpa using this
  rw[List.getElem?_set_self hl] at h
  cases h
  exact⟨v,List.getElem?_set_self (by rw[←R.len];exact hl),p⟩
 ·rw[List.getElem?_set_ne (Ne.symm hj)] at h
  obtain⟨u,h1,h2⟩:=R.sl j e h
  exact⟨u,by rw[List.getElem?_set_ne (Ne.symm hj)];exact h1,h2⟩
theorem a37 {i:Nat}{x:Str}{pos':Pos}(hN:X.nd) (hi:X.N[i]? =some x) (hx:Loc X.env.scope x) (hf:X.fn x=true\/X.env.scope.names.lookup x=some .local) (h:ME X EX e m) (hs:swapsWith e (some (.Name x pos')) pos.line X.env=pure false:=by rfl) :
  MS X EX (.Assign [.Name x pos'] e pos) (jr i m):=by
 obtain⟨t,p,s⟩:=h
 refine⟨_,ap7 hN hi hx p hs hf,fun Z α F H σ ρ μ N R g=>?_⟩
 exact s Z α F H σ ρ μ _ R (GE.step (G:=GS X.K EX Z α F N) g (fun _ _ h=>h) (fun h=>h) fun d μ1 v α1 F1 H1 R1 e1 p1 g1=>g1 _ α1 F1 H1 ((R.to R1 e1).set i p1) e1)
theorem J7 {sa sb:List Stmt}(hc:MT X EX c t) (ha:MSs X EX sa n1) (hb:MSs X EX sb n2):MS X EX (.If c sa sb pos) (Js t n1 n2):=by
 obtain⟨tc,pc,sc⟩:=hc
 obtain⟨ta,pa,ga⟩:=ha
 obtain⟨tb,pb,gb⟩:=hb
 refine⟨_,aB5 pc pa pb,fun Z α F H σ ρ μ N R g=>?_⟩
 refine sc Z α F H σ ρ μ _ R (GB.step (G:=GS X.K EX Z α F N) g (fun _ _ h=>h) (fun h=>h) fun k μ1 α1 F1 H1 R1 e1 g1=>?_)
 cases k with
 |true=>exact ga Z α1 F1 H1 σ ρ μ1 N (R.to R1 e1) (GS.ext e1 g1)
 |false=>exact gb Z α1 F1 H1 σ ρ μ1 N (R.to R1 e1) (GS.ext e1 g1)
noncomputable abbrev MG:=D->En->Option En
noncomputable def MTg (X:Cx) (tg:Expr) (mg:MG):Prop:=∃g:TG,PG X tg g/\∀Z α F H σ ρ μ v d ρ' Q,RS X.K Z α F H σ ρ μ->Rep X.K F α d v->mg d ρ=some ρ'->(∀σ',RS X.K Z α F H σ' ρ' μ->Q σ' H)->g v σ H Q
noncomputable def gN (i:Nat):MG:=fun d ρ=>some (ρ.set i (some d))
theorem Cn {i:Nat}{x:Str}(hN:X.nd) (hi:X.N[i]? =some x) (hx:Loc X.env.scope x) (hf:X.fn x=true\/X.env.scope.names.lookup x=some .local):MTg X (.Name x pos) (gN i) :=
 ⟨_,ab8 hN hi hx hf,fun Z α F H σ ρ μ v d ρ' Q R p h k=>by cases h;exact k _ (R.set i p)⟩
noncomputable def y8 (tg:MG) (n:MSt):List D->En->Mu->Res Out
 |[],ρ,μ=>.ok (.nx ρ) μ
 |d::ds,ρ,μ=>match tg d ρ with
  |none=>.bad
  |some ρ1=>(n ρ1 μ).bind fun o μ1=>match o with
   |.nx ρ2=>y8 tg n ds ρ2 μ1
   |.ct ρ2=>y8 tg n ds ρ2 μ1
   |.bk ρ2=>.ok (.nx ρ2) μ1
   |.rt d=>.ok (.rt d) μ1
noncomputable abbrev MIt:=En->Mu->Res (List D)
noncomputable def V5 (tg:MG) (it:MIt) (n:MSt):MSt:=fun ρ μ=>(it ρ μ).bind fun ds μ1=>y8 tg n ds ρ μ1
noncomputable def Qe (K:PySem.W.Frag) (α:List Addr) (F:Hp) (J:It) (ds:List D):Prop :=
 ∀(Z:ZS) α' F' H' (μ':Mu),RH K Z α' F' H' μ'->Ext α F α' F'->∀i,(i<ds.length->J.go i H'/\∀x H2,J.yld i H' x H2->∃d F2,ds[i]? =some d/\RH K Z α' F2 H2 μ'/\ja F' F2/\Rep K F2 α' d x)/\(ds.length=i->J.stop i H')
noncomputable def MI (X:Cx) (EX:EXT) (tg e:Expr) (m:MIt):Prop:=∃wi:TI,PI X tg e wi/\∀Z α F H σ ρ μ Rr,RS X.K Z α F H σ ρ μ ->
 (match m ρ μ with
  |.ok ds μ'=>∀J α' F' H',RH X.K Z α' F' H' μ'->Ext α F α' F'->Qe X.K α' F' J ds->Rr J H'
  |.exc x μ'=>EX.P Z x μ'
  | .bad=>False)->wi σ H Rr
theorem Gi {tg it:Expr}{body:List Stmt}{mi:MIt}{g:MG}(hp:PassesOwn (model X.prog X.w) X.A X.env X.xe) (hc:X.calm=true) (hi:MI X EX tg it mi) (hg:MTg X tg g) (hb:MSs X EX body n)
  (hs:∀x,foldedSetIterable it X.env x=pure x:=by intro _;rfl):MS X EX (.For tg it body [] pos) (V5 g mi n):=by
 obtain⟨wi,pi,si⟩:=hi
 obtain⟨tgt,pg,sg⟩:=hg
 obtain⟨tb,pb,sb⟩:=hb
 refine⟨_,ap9 hp hc pi pg pb hs,fun Z α F H σ ρ μ N R gd=>?_⟩
 refine si Z α F H σ ρ μ _ R ?_
 unfold V5 at gd
 cases hm:mi ρ μ with
 |exc x μ1=>rw[hm] at gd;exact gd
 |bad=>rw[hm] at gd;exact gd
 |ok ds μ1 =>
  rw[hm] at gd
  intro J α1 F1 H1 R1 e1 wk
  let W:Nat->Nat->L2.St->Hp->Prop:=fun i k σ' H'=>k=ds.length-i/\i<=ds.length/\∃α' F' ρ' μ',RS X.K Z α' F' H' σ' ρ' μ'/\Ext α1 F1 α' F'/\GS X.K EX Z α' F' N (y8 g n (ds.drop i) ρ' μ')
  refine⟨W,⟨ds.length,rfl,Nat.zero_le _,α1,F1,ρ,μ1,R.to R1 e1,Ext.refl _ _,GS.ext e1 gd⟩,?_⟩
  rintro i k σ2 H2 ⟨rfl,hi2,α2,F2,ρ2,μ2,R2,e2,g2⟩
  obtain⟨w1,w2⟩:=wk Z α2 F2 H2 μ2 R2.hp e2 i
  by_cases hlt:i<ds.length
  ·obtain⟨w3,w4⟩:=w1 hlt
   refine .inr ⟨w3,fun σ' H'=>W (i+1) (ds.length-(i+1)) σ' H',fun σ' H' h=>⟨_,by omega,h⟩,fun x H3 y=>?_⟩
   obtain⟨d,F3,hd,R3,s3,p3⟩:=w4 x H3 y
   have e3:Ext α2 F2 α2 F3:=⟨s3,fun _ _ h=>h⟩
   rw[List.drop_eq_getElem_cons hlt] at g2
   have hd':ds[i]=d:=by
    rw[List.getElem?_eq_getElem hlt] at hd
    exact Option.some.inj hd
   rw[hd'] at g2
   have R3':RS X.K Z α2 F3 H3 σ2 ρ2 μ2:=R2.to R3 e3
   simp only[y8] at g2
   cases ht:g d ρ2 with
   |none=>rw[ht] at g2;exact g2.elim
   |some ρ4 =>
    rw[ht] at g2
    simp only at g2
    refine sg Z α2 F3 H3 σ2 ρ2 μ2 x d ρ4 _ R3' p3 ht fun σ4 R4=>?_
    refine sb Z α2 F3 H3 σ4 ρ4 μ2 _ R4 ?_
    cases hn:n ρ4 μ2 with
    |exc x μ1=>rw[hn] at g2;exact g2
    |bad=>rw[hn] at g2;exact g2
    |ok o μ5 =>
     rw[hn] at g2
     cases o with
     |nx ρ5=>exact fun σ' α' F' H' R' e'=>⟨rfl,hlt,α',F',ρ5,μ5,R',e2.trans (e3.trans e'),GS.ext (e3.trans e') g2⟩
     |ct ρ5=>exact fun σ' α' F' H' R' e'=>⟨rfl,hlt,α',F',ρ5,μ5,R',e2.trans (e3.trans e'),GS.ext (e3.trans e') g2⟩
     |bk ρ5=>exact fun σ' α' F' H' R' e'=>g2 σ' α' F' H' R' (e3.trans e')
     |rt d=>exact fun v α' F' H' R' e' q=>g2 v α' F' H' R' (e3.trans e') q
  ·refine .inl ⟨w2 (by omega),?_⟩
   rw[List.drop_eq_nil_of_le (by omega)] at g2
   exact g2 σ2 α2 F2 H2 R2 (Ext.refl _ _)
noncomputable def Xg (n:Nat):List D:=(List.range n).map fun k=>.int (k:Nat)
noncomputable def Xr (ds:List D):Option (List D):=match ds with
 |[.int j]=>if -(2 ^ 62)<=j/\j<2 ^ 62 then some (Xg j.toNat) else none
 |_=>none
noncomputable def Y8 (m:MX):MIt:=fun ρ μ=>(m ρ μ).bind fun d μ1=>ofO μ1 (Xr [d])
theorem Eb {K:PySem.W.Frag}{F:Hp}{α:List Addr}(n:Nat):Qe K α F (Itr 0 n) (Xg n):=by
 intro Z α' F' H' μ' R e i
 have hl:(Xg n).length=n:=by simp[Xg]
 refine⟨fun h=>⟨by rw[hl] at h;exact h,fun x H2 y=>?_⟩,fun h=>by rw[hl] at h;exact Nat.le_of_eq h⟩
 obtain⟨rfl,rfl⟩:=y
 rw[hl] at h
 refine⟨.int (i:Nat),F',by simp[Xg,h],R,ja.refl _,?_⟩
 rw[Int.zero_add]
 exact rep_int _
theorem Xa {tg:Expr}{p:Pos}(hg:Gl X "range") (hm:X.mg "range"=none) (ha:ME X EX a m) (hs:starEach [a] X.env=[(false,eval a X.env)]:=by rfl):MI X EX tg (.Call (.Name "range" p) [a] [] pos) (Y8 m):=by
 obtain⟨t,pt,st⟩:=ha
 refine⟨_,Bu hg hm (Ua pt Qw hs) hs,fun Z α F H σ ρ μ Rr R g=>?_⟩
 unfold Y8 at g
 refine st Z α F H σ ρ μ _ R ?_
 cases h1:m ρ μ with
 |exc x μ1=>rw[h1] at g;exact g
 |bad=>rw[h1] at g;exact g
 |ok d μ1 =>
  rw[h1] at g
  intro v α' F' H' R' e' p
  cases d with
  |int j =>
   unfold Rep at p
   subst p
   simp only[bind_ok,Xr] at g
   by_cases hj:-(2 ^ 62)<=j/\j<2 ^ 62
   ·rw[if_pos hj] at g
    exact⟨j,rfl,hj.1,hj.2,g _ α' F' H' R' e' (Eb _)⟩
   ·rw[if_neg hj] at g;exact g.elim
  |_=>exact g.elim
noncomputable def a88 (d:D):Option (List D):=match d with
 |.lst xs=>some xs
 |_=>none
noncomputable def uo (m:MX):MIt:=fun ρ μ=>(m ρ μ).bind fun d μ1=>ofO μ1 (a88 d)
theorem B7 {K:PySem.W.Frag}{F:Hp}{α:List Addr}{a:Addr}{ds:List D}{vs:List V}(hs:SqL K F a vs) (hr:Reps K F α ds vs):Qe K α F (Itl K a) ds:=by
 intro Z α' F' H' μ' R e i
 have hl:=hr.length
 have hq:SqL K H' a vs:=(e.fr.trans R.sub).seq hs
 refine⟨fun h=>?_,fun h=>⟨vs,hq,by omega⟩⟩
 obtain⟨v,h1,h2⟩:=hr.get (List.getElem?_eq_getElem h)
 refine⟨⟨vs,v,hq,h1⟩,fun x H2 y=>?_⟩
 obtain⟨rfl,y⟩:=y
 have hx:=y vs hq
 rw[h1] at hx
 cases hx
 exact⟨_,F',List.getElem?_eq_getElem h,R,ja.refl _,h2.mono e⟩
theorem xp {tg:Expr}(ha:ME X EX a m):MI X EX tg a (uo m):=by
 obtain⟨t,pt,st⟩:=ha
 refine⟨_,ab6 pt,fun Z α F H σ ρ μ Rr R g=>?_⟩
 unfold uo at g
 refine st Z α F H σ ρ μ _ R ?_
 cases h1:m ρ μ with
 |exc x μ1=>rw[h1] at g;exact g
 |bad=>rw[h1] at g;exact g
 |ok d μ1 =>
  rw[h1] at g
  intro v α' F' H' R' e' p
  cases d with
  |lst ds =>
   unfold Rep at p
   obtain⟨b,vs,rfl,hs,hr⟩:=p
   exact⟨b,rfl,⟨vs,R'.sub.seq hs⟩,g _ α' F' H' R' e' (B7 hs hr)⟩
  |_=>exact g.elim
end
noncomputable def fin (r:Res Out):Res D:=r.bind fun o μ1=>match o with
 |.rt d=>.ok d μ1
 |.nx _=>.ok .non μ1
 |_=>.bad
noncomputable def fnOf (k:Nat) (n:MSt):Fn:=fun ds μ=>fin (n (ds.map some++List.replicate k none) μ)
section
variable {P:Program}{w:World}{K:PySem.W.Frag}{mg:Str->Option Value}{base:Heap}
theorem Fm {Z:ZS}{F H:Hp}{α:List Addr}{μ:Mu}{ds:List D}{vs:List V}(N:List Str) (k:Nat) (hk:N.length-vs.length=k) (R:RH K Z α F H μ) (r:Reps K F α ds vs):RS K Z α F H (start N vs) (ds.map some++List.replicate k none) μ:=by
 have hl:=r.length
 refine⟨R,by simp[L2.start,hl,hk],fun i d h=>?_⟩
 by_cases hi:i<ds.length
 ·rw[List.getElem?_append_left (by simpa using hi),List.getElem?_map] at h
  cases e:ds[i]? with
  |none=>rw[e] at h;cases h
  |some d' =>
   rw[e] at h
   cases h
   obtain⟨v,h1,h2⟩:=r.get e
   refine⟨v,?_,h2⟩
   unfold L2.start
   rw[List.getElem?_append_left (by rw[List.length_map];omega),List.getElem?_map,h1]
   rfl
 ·rw[List.getElem?_append_right (by simp;omega)] at h
  have:=List.getElem?_replicate (a:=(none:Option D)) (n:=k) (i:=i-(ds.map some).length)
  rw[this] at h
  split at h<;>cases h
theorem am0 {x qual:Str}{st:Stmt}{f:Addr}{fd:FuncData}{N ps:List Str}{k j:Nat}{n:MSt}(F:Fun K x qual st f fd) (S:FnScope N ps (defScope st)) (hj:N.length-ps.length=j)
  (hb:∀(cdv:Value) (A:Around) (outer:List Env) (s:Shared) (H:Hp) (E:XK),Room k (A.deeper (envOfC qual (defScope st) s.heap.objs.size f cdv)) ->
   MSs (uv CX0 P w K mg base N qual (defScope st) f cdv A outer s H E).nox NoX (defBody st) n):FnOk P w K mg base CX0 (k+1) f fd ps (spM K ps.length (fnOf j n)):=by
 refine F.ok S (fun vs H Q E h=>?_) (fun cdv A outer s H vs Q E hr h=>?_)
 ·obtain⟨Z,α,G,ds,μ,R,r,hl,_⟩:=h
  rw[←hl,r.length]
 ·obtain⟨Z,α,G,ds,μ,R,r,hl,g⟩:=h
  obtain⟨t,p,s'⟩:=hb cdv A outer s H E hr
  refine⟨t,p,s' Z α G H (start N vs) (ds.map some++List.replicate j none) μ _ (Fm N j (by rw[←r.length,hl];exact hj) R r) ?_⟩
  unfold fnOf fin at g
  cases e:n (ds.map some++List.replicate j none) μ with
  |exc x μ1=>rw[e] at g;exact g
  |bad=>rw[e] at g;exact g
  |ok o μ1 =>
   rw[e] at g
   cases o with
   |rt d=>exact g
   |nx ρ=>exact fun σ' α' F' H' R' e'=>g .non α' F' H' R'.hp e' G4
   |bk ρ=>exact g.elim
   |ct ρ=>exact g.elim
structure Ct (X:Cx) (N G:List Str):Prop where
 hN:X.N=N
 nd:N.Nodup
 loc:∀x∈N,Loc X.env.scope x/\(x==("__debug__":Str))=false/\(x==("__classdict__":Str))=false
 gl:∀x∈G,Gl X x
 fn:∀x,X.fn x=true
 calm:X.calm=true
 un:X.A.units+200<cLine
theorem Ct.ndX {X:Cx}{N G:List Str}(C:Ct X N G):X.N.Nodup:=by rw[C.hN];exact C.nd
theorem Ct.at {X:Cx}{N G:List Str}(C:Ct X N G) {i:Nat}{x:Str}(h:N[i]? =some x):X.N[i]? =some x:=by rw[C.hN];exact h
theorem uq {N:List Str}{i:Nat}{x:Str}(h:N[i]? =some x):x∈N:=List.mem_of_getElem? h
theorem Loc.vis {sc:Scope}{x:Str}(h:Loc sc x):Vis sc x:=h.elim .inl fun z=>.inr (.inl z)
theorem sv {X:Cx}{EX:EXT}{N G:List Str}(C:Ct X N G) (i:Nat) {x:Str}{pos:Pos}(h:N[i]? =some x):ME X EX (.Name x pos) (mVar i) :=
 Dh (C.at h) (Loc.vis (C.loc x (uq h)).1) (C.loc x (uq h)).2.1 (C.loc x (uq h)).2.2
theorem sa {X:Cx}{EX:EXT}{N G:List Str}(C:Ct X N G) (i:Nat) {x:Str}{pos pos':Pos}{e:Expr}{m:MX}(h:N[i]? =some x) (he:ME X EX e m) (hs:swapsWith e (some (.Name x pos')) pos.line X.env=pure false:=by rfl) (hk:X.kn=none:=by rfl) :
  MS X EX (.Assign [.Name x pos'] e pos) (jr i m):=a37 ⟨C.ndX,hk⟩ (C.at h) (C.loc x (uq h)).1 (.inl (C.fn x)) he hs
theorem st {X:Cx}{N G:List Str}(C:Ct X N G) (i:Nat) {x:Str}{pos:Pos}(h:N[i]? =some x) (hk:X.kn=none:=by rfl):MTg X (.Name x pos) (gN i):=Cn ⟨C.ndX,hk⟩ (C.at h) (C.loc x (uq h)).1 (.inl (C.fn x))
theorem Ct.g {X:Cx}{N G:List Str}(C:Ct X N G) (j:Nat) {x:Str}(h:G[j]? =some x):Gl X x:=C.gl x (uq h)
theorem bg {CX:CXT}{N G:List Str}{qual:Str}{sc:Scope}{f:Addr}{cdv:Value}{A:Around}{outer:List Env}{s:Shared}{H:Hp}{E:XK}{k:Nat}(nd:N.Nodup)
  (loc:∀x∈N,Loc sc x/\(x==("__debug__":Str))=false/\(x==("__classdict__":Str))=false) (gl:∀x∈G,sc.names.lookup x=some .globalImplicit) (hr:Room k (A.deeper (envOfC qual sc s.heap.objs.size f cdv))) :
  Ct (uv CX P w K mg base N qual sc f cdv A outer s H E).nox N G :=
 ⟨rfl,nd,loc,gl,fun _=>rfl,rfl,by have:=hr.un;show(A.deeper _).units+200<cLine;omega⟩
end
noncomputable def au3 (m:MX):MX:=fun ρ μ=>(m ρ μ).bind fun d μ1=>ofO μ1 (match d with
 |.int i=>some (.int (-i))
 | _=>none)
theorem a40 {X:Cx}{EX:EXT}{e:Expr}{pos:Pos}{m:MX}(h:ME X EX e m):ME X EX (.UnaryOp .USub e pos) (au3 m):=by
 obtain⟨t,p,s⟩:=h
 refine⟨_,aB7 ao2 p,fun Z α F H σ ρ μ Q R g=>?_⟩
 refine s Z α F H σ ρ μ _ R (GE.step (G:=GE X.K EX Z α F Q) g (fun _ _ h=>h) (fun h=>h) fun d μ1 v α1 F1 H1 R1 e1 p1 g1=>?_)
 cases d with
 |int i=>unfold Rep at p1;exact⟨i,p1,g1 _ α1 F1 H1 R1 e1 (rep_int _)⟩
 |_=>exact g1.elim
theorem boot_bool:bootBuiltins "bool"=some (.type "bool"):=by decide +kernel
theorem boot_str:bootBuiltins "str"=some (.type "str"):=by decide +kernel
noncomputable def Yx (K:PySem.W.Frag) (mg:Str->Option Value) (x:Str) (d:D):Prop:=∃v u,mg x=some u/\J3 v u/\∀F α,Rep K F α d v
theorem Yl {X:Cx}{EX:EXT}{x:Str}{d:D}{pos:Pos}(c:Yx X.K X.mg x d) (hg:Gl X x) (hd:(x==("__debug__":Str))=false:=by decide):ME X EX (.Name x pos) (mC d):=by
 obtain⟨v,u,h1,h2,h3⟩:=c
 exact af5 (Cw hg h1 h2 hd) h3
noncomputable def yz (fd:FuncData) (ps:List Str):Prop:=∀us:List Value,us.length=ps.length->bindArgs fd ⟨us,[]⟩=pure (ps.zip us)
noncomputable def Jx (K:PySem.W.Frag) (mg:Str->Option Value) (x:Str) (st:Stmt) (ps:List Str):Prop:=∃f fd,mg x=some (.ref f)/\Fun K x x st f fd/\yz fd ps
noncomputable def ui (P:Program) (w:World) (K:PySem.W.Frag) (mg:Str->Option Value) (base:Heap) (x:Str) (k n:Nat) (φ:Fn):Prop :=
 ∃f fd ps,mg x=some (.ref f)/\PySem.W.keepIn K (.ref f)=true/\yz fd ps/\ps.length=n/\FnOk P w K mg base CX0 k f fd ps (spM K n φ)
theorem bt {P:Program}{w:World}{K:PySem.W.Frag}{mg:Str->Option Value}{base:Heap}{x:Str}{st:Stmt}{N ps:List Str}{k j n:Nat}{b:MSt}{f:Addr}{fd:FuncData}(F:Fun K x x st f fd) (S:FnScope N ps (defScope st)) (hj:N.length-ps.length=j) (hn:ps.length=n)
  (hb:∀(cdv:Value) (A:Around) (outer:List Env) (s:Shared) (H:Hp) (E:XK),Room k (A.deeper (envOfC x (defScope st) s.heap.objs.size f cdv)) ->
   MSs (uv CX0 P w K mg base N x (defScope st) f cdv A outer s H E).nox NoX (defBody st) b):FnOk P w K mg base CX0 (k+1) f fd ps (spM K n (fnOf j b)):=by
 subst hn
 exact am0 F S hj hb
theorem bq {P:Program}{w:World}{K:PySem.W.Frag}{mg:Str->Option Value}{base:Heap}{x:Str}{st:Stmt}{ps:List Str}{k n:Nat}{φ:Fn}(D:Jx K mg x st ps) (hn:ps.length=n)
  (hb:∀(f:Addr) (fd:FuncData),Fun K x x st f fd->FnOk P w K mg base CX0 k f fd ps (spM K n φ)):ui P w K mg base x k n φ:=by
 obtain⟨f,fd,h1,h2,h3⟩:=D
 exact⟨f,fd,ps,h1,h2.kp,h3,hn,hb f fd h2⟩
theorem aw7 {K:PySem.W.Frag}{mg:Str->Option Value}{h:Heap}{x:Str}{st:Stmt}{ps:List Str}{f:Addr}{oc:Value}{od an:Option Addr}{osl:Array (Option Value)}{kV doc pm cdv ct:Value}(X:K.In h) (G:h.Ns mainGlobals mg)
  (a:PySem.W.nsIn K mainGlobals x=some (some (.ref f))) (l:K.lookup f=some ⟨oc,od,.func (PySem.W.fnOf x x (defArgs st) (defBody st) (defScope st) .none kV doc pm an cdv ct),osl⟩)
  (c:PySem.W.codeIn K cdv x=true) (k:PySem.W.keepIn K (.ref f)=true) (hb:yz (PySem.W.fnOf x x (defArgs st) (defBody st) (defScope st) .none kV doc pm an cdv ct) ps):Jx K mg x st ps :=
 ⟨f,_,PySem.W.mg_of X G a,Zx (st:=st) l c k,hb⟩
theorem wn {K:PySem.W.Frag}{mg:Str->Option Value}{h:Heap}{x:Str}{i:Int}{t:Tok}(X:K.In h) (G:h.Ns mainGlobals mg) (a:PySem.W.nsIn K mainGlobals x=some (some (.int i t))):Yx K mg x (.int i) :=
 ⟨.int i,_,PySem.W.mg_of X G a,⟨t,rfl⟩,fun _ _=>rep_int i⟩
theorem wo {K:PySem.W.Frag}{mg:Str->Option Value}{h:Heap}{x:Str}{p:Addr}{od:Option Addr}{its:Array Value}{n:Nat}{sl:Array (Option Value)}{ds:List D}{vs:List V}(X:K.In h) (G:h.Ns mainGlobals mg)
  (a:PySem.W.nsIn K mainGlobals x=some (some (.ref p))) (l:K.lookup p=some ⟨.type "tuple",od,.seq its n,sl⟩) (hz:its.size<=16777216) (hv:J8 vs its.toList) (hr:∀F α,Reps K F α ds vs):Yx K mg x (.tup ds) :=
 ⟨.ref p,_,PySem.W.mg_of X G a,rfl,fun F α=>by unfold Rep;exact⟨p,vs,rfl,.inr ⟨_,its,n,l,rfl,rfl,by rw[sizeLine_eq];exact hz,hv⟩,hr F α⟩⟩
theorem K6 {K:PySem.W.Frag}{F:Hp}{α:List Addr}:∀ns:List Int,Reps K F α (ns.map D.int) (ns.map V.int)
 |[]=>J5
 |n::ns=>j5 (rep_int n) (K6 ns)
theorem me_fn {X:Cx}{EX:EXT}{x:Str}{p pos:Pos}{k n:Nat}{φ:Fn}{e:Expr}{es:List Expr}{ms:MAs}(F:ui X.prog X.w X.K X.mg X.base x k n φ) (hr:Room k X.A) (hg:Gl X x)
  (ha:MA X EX (e::es) ms) (hl:(e::es).length=n) (hdb:(x==("__debug__":Str))=false:=by decide) (he:starEach (e::es) X.env=(false,eval e X.env)::starEach es X.env:=by rfl) (hpl:(backTo pos (starEach es X.env)).any (·.1)=false:=by rfl) :
  ME X EX (.Call (.Name x p) (e::es) [] pos) (j9 φ ms):=by
 obtain⟨f,fd,ps,h1,h2,h3,h4,h5⟩:=F
 subst h4
 exact af4 h5 hr hg h1 h2 (.all h3) ha hl hdb he hpl
theorem Dg {X:Cx}{EX:EXT}{x:Str}{p pos:Pos}{k:Nat}{φ:Fn}(F:ui X.prog X.w X.K X.mg X.base x k 0 φ) (hr:Room k X.A) (hg:Gl X x) (hdb:(x==("__debug__":Str))=false:=by decide):ME X EX (.Call (.Name x p) [] [] pos) (j9 φ mNil):=by
 obtain⟨f,fd,ps,h1,h2,h3,h4,h5⟩:=F
 obtain rfl:ps=[]:=List.length_eq_zero_iff.mp h4
 exact a43 h5 hr hg h1 h2 (.all h3) hdb
noncomputable def Yb (sc:Scope) (N:List Str):Bool:=N.all fun x=>(sc.names.lookup x==some .local||sc.names.lookup x==some .cell)&&!(x==("__debug__":Str))&&!(x==("__classdict__":Str))
noncomputable def glB (sc:Scope) (N:List Str):Bool:=N.all fun x=>sc.names.lookup x==some .globalImplicit
theorem Qs {sc:Scope}{N:List Str}(h:Yb sc N=true):∀x∈N,Loc sc x/\(x==("__debug__":Str))=false/\(x==("__classdict__":Str))=false:=fun x hx=>by
 have:=List.all_eq_true.mp h x hx
 simp only[Bool.and_eq_true,Bool.or_eq_true,beq_iff_eq,Bool.not_eq_true'] at this
 exact⟨this.1.1,this.1.2,this.2⟩
theorem Vn {sc:Scope}{N:List Str}(h:glB sc N=true):∀x∈N,sc.names.lookup x=some .globalImplicit:=fun x hx=>by
 have:=List.all_eq_true.mp h x hx
 simpa using this
section
variable (ρ:En) (μ:Mu) (m ma mb mc:MX) (ms:MAs) (t t1 t2:MB) (n n1 n2:MSt) (x y d:D) (ds:List D) (g g':G2) (gl:GL) (b:Bool) (φ:Fn) (i:Nat) (tg:MG) (it:MIt)
noncomputable def aE4 (g:G2) (x y:D) (μ:Mu):Res D:=ofO μ (g (deref μ x) (deref μ y))
noncomputable def aE3 (g g':G2) (mb mc:MX) (ρ:En) (x:D) (μ1:Mu):Res D:=(mb ρ μ1).bind fun y μ2=>(ofO μ2 ((g (deref μ2 x) (deref μ2 y)).bind asB)).bind fun k μ3=>match k with
 |true=>(mc ρ μ3).bind fun z μ4=>ofO μ4 (g' (deref μ4 y) (deref μ4 z))
 |false=>.ok (.bl false) μ3
noncomputable def aE2 (g g':G2) (mc:MX) (ρ:En) (x y:D) (μ2:Mu):Res D:=(ofO μ2 ((g (deref μ2 x) (deref μ2 y)).bind asB)).bind fun k μ3=>match k with
 |true=>(mc ρ μ3).bind fun z μ4=>ofO μ4 (g' (deref μ4 y) (deref μ4 z))
 |false=>.ok (.bl false) μ3
noncomputable def aE1 (g':G2) (mc:MX) (ρ:En) (y:D) (k:Bool) (μ3:Mu):Res D:=match k with
 |true=>(mc ρ μ3).bind fun z μ4=>ofO μ4 (g' (deref μ4 y) (deref μ4 z))
 |false=>.ok (.bl false) μ3
theorem aF8:q0 g g' ma mb mc ρ μ=(ma ρ μ).bind (aE3 g g' mb mc ρ):=rfl
theorem am3:aE3 g g' mb mc ρ x μ=(mb ρ μ).bind (aE2 g g' mc ρ x):=rfl
theorem am2:aE2 g g' mc ρ x y μ=(ofO μ ((g (deref μ x) (deref μ y)).bind asB)).bind (aE1 g' mc ρ y):=rfl
theorem aw5:aE1 g' mc ρ y true μ=(mc ρ μ).bind (aE4 g' y):=rfl
noncomputable def aD9 (d:D) (μ:Mu):Res D:=.ok (.bl (!isN d)) μ
theorem aw4:E3 m ρ μ=(m ρ μ).bind aD9:=rfl
noncomputable def a54 (ms:MAs) (ρ:En) (d:D) (μ1:Mu):Res (List D):=(ms ρ μ1).bind fun ds μ2=>.ok (d::ds) μ2
noncomputable def a53 (d:D) (ds:List D) (μ2:Mu):Res (List D):=.ok (d::ds) μ2
theorem wp:mCons m ms ρ μ=(m ρ μ).bind (a54 ms ρ):=rfl
theorem Wj:a54 ms ρ d μ=(ms ρ μ).bind (a53 d):=rfl
theorem ah5:a53 d ds μ=.ok (d::ds) μ:=rfl
noncomputable def Ba (n2:MSt) (o:Out) (μ1:Mu):Res Out:=match o with
 |.nx ρ1=>n2 ρ1 μ1
 |o=>.ok o μ1
noncomputable def b7 (d:D) (μ1:Mu):Res (List D):=ofO μ1 (Xr [d])
theorem a76:Y8 m ρ μ=(m ρ μ).bind b7:=rfl
theorem ar:b7 d μ=ofO μ (Xr [d]):=rfl
noncomputable def av1 (d:D) (μ1:Mu):Res (List D):=ofO μ1 (a88 d)
theorem ah4:uo m ρ μ=(m ρ μ).bind av1:=rfl
noncomputable def aE0 (o:Out) (μ1:Mu):Res D:=match o with
 |.rt d=>.ok d μ1
 |.nx _=>.ok .non μ1
 |_=>.bad
theorem aF7 (r:Res Out):fin r=r.bind aE0:=by cases r with
 |ok o μ=>cases o<;>rfl
 |exc _ _=>rfl
 |bad=>rfl
theorem c8 (k:Nat):fnOf k n ds μ=(n (ds.map some++List.replicate k none) μ).bind aE0:=aF7 _
noncomputable def kTurn (tg:MG) (n:MSt) (ds:List D) (o:Out) (μ1:Mu):Res Out:=match o with
 |.nx ρ2=>y8 tg n ds ρ2 μ1
 |.ct ρ2=>y8 tg n ds ρ2 μ1
 |.bk ρ2=>.ok (.nx ρ2) μ1
 |.rt d=>.ok (.rt d) μ1
theorem Kk (i:Nat):y8 (gN i) n (d::ds) ρ μ=(n (ρ.set i (some d)) μ).bind (kTurn (gN i) n ds):=by
 simp only[y8,gN]
 cases n (ρ.set i (some d)) μ with
 |ok o μ=>cases o<;>rfl
 |exc _ _=>rfl
 |bad=>rfl
end
section
variable (i j:Int) (a b:List Nat) (xs ys:List D) (k l:Bool)
theorem Da (h:-18446744073709551616<i) (h2:i<18446744073709551616):zj (.int i) (.int j)=some (.int (i*j)):=by
 simp only[zj,X7];rw[if_pos (.inl ⟨h,h2⟩)];rfl
theorem a65 (h:-18446744073709551616<j) (h2:j<18446744073709551616):zj (.int i) (.int j)=some (.int (i*j)):=by
 simp only[zj,X7];rw[if_pos (.inr ⟨h,h2⟩)];rfl
theorem al6 (h:0<j) (h2:j<18446744073709551616):Zy (.int i) (.int j)=some (.int (i / j)):=by
 simp only[Zy,X7];rw[if_pos ⟨h,h2⟩];rfl
theorem W5 (h:0<j):Jl (.int i) (.int j)=some (.int (i % j)):=by
 simp only[Jl,X7];rw[if_pos h];rfl
theorem aF1:gLt (.int i) (.int j)=some (.bl (decide (i<j))):=rfl
theorem g_le:gLe (.int i) (.int j)=some (.bl (decide (i<=j))):=rfl
theorem aF2:gGt (.int i) (.int j)=some (.bl (decide (j<i))):=rfl
theorem Kn:gEq (.int i) (.int j)=some (.bl (i==j)):=by
 unfold gEq;rw[if_pos (by rfl)];simp[eqD]
theorem Yy {β:Type}{xs:List β}{i:Int}(h0:0<=i):atI xs i=xs[i.toNat]?:=by
 unfold atI ixN
 rw[if_pos h0]
 by_cases h:i<xs.length
 ·rw[if_pos h];rfl
 ·rw[if_neg h]
  simp only[Option.bind_none]
  symm
  rw[List.getElem?_eq_none_iff]
  omega
end
noncomputable def closL (env:Env):List (Str×NameKind)->List (Str×Addr)->List (Str×Addr)
 |[],acc=>acc
 |p::r,acc=>closL env r (if(p.2==.free)=true then(p.1,(env.cells.lookup p.1).getD 0)::acc else acc)
theorem Vd {env:Env}{scope:Scope}(h:∀p∈scope.names,p.2=.free->∃c,env.cells.lookup p.1=some c):closureFor scope env=pure (closL env scope.names []):=by
 simp only[closureFor]
 generalize ([]:List (Str×Addr))=acc
 generalize scope.names=l at h
 induction l generalizing acc with
 |nil=>rfl
 |cons p r ih =>
  obtain⟨n,k⟩:=p
  rw[List.forIn_cons]
  by_cases hk:(k==NameKind.free)=true
  ·obtain⟨c,hc⟩:=h (n,k) List.mem_cons_self (by simpa using hk)
   have hc':cellOf env n=pure c:=by unfold cellOf;rw[hc]
   simp only[hk,if_true,hc',pure_bind,closL]
   rw[hc]
   exact ih _ (fun p hp=>h p (List.mem_cons_of_mem _ hp))
  ·simp only[hk,if_false,pure_bind,closL]
   exact ih _ (fun p hp=>h p (List.mem_cons_of_mem _ hp))
theorem Kf {env:Env}:∀(l:List (Str×NameKind)) (acc:List (Str×Addr)),(∀p∈l,p.2=.free->∃c,env.cells.lookup p.1=some c)->(∀p∈acc,env.cells.lookup p.1=some p.2)->∀p∈closL env l acc,env.cells.lookup p.1=some p.2
 |[],_,_,ha=>ha
 |q::r,acc,h,ha=>by
  refine Kf r _ (fun p hp=>h p (List.mem_cons_of_mem _ hp)) ?_
  by_cases hk:(q.2==NameKind.free)=true
  ·rw[if_pos hk]
   intro p hp
   rcases List.mem_cons.mp hp with rfl|hp
   ·obtain⟨c,hc⟩:=h q List.mem_cons_self (by simpa using hk)
    simp[hc]
   ·exact ha p hp
  ·rw[if_neg hk];exact ha
theorem Z8 {β:Type}{l:List (Str×β)}{x:Str}{c:β}(h:l.lookup x=some c):(x,c)∈l:=by
 induction l with
 |nil=>cases h
 |cons p r ih =>
  obtain⟨n,k⟩:=p
  rw[List.lookup_cons] at h
  by_cases e:x=n
  ·subst e
   simp at h
   subst h
   exact List.mem_cons_self
  ·have e':(x==n)=false:=by simpa using e
   rw[e'] at h
   exact List.mem_cons_of_mem _ (ih h)
theorem Di {β:Type}{l:List (Str×β)}{x:Str}{c:β}(h:(x,c)∈l):∃c',l.lookup x=some c':=by
 induction l with
 |nil=>cases h
 |cons p r ih =>
  obtain⟨n,k⟩:=p
  rw[List.lookup_cons]
  by_cases e:x=n
  ·subst e;exact⟨k,by simp⟩
  ·rcases List.mem_cons.mp h with h|h
   ·cases h;exact absurd rfl e
   ·obtain⟨c',hc⟩:=ih h
    have e':(x==n)=false:=by simpa using e
    exact⟨c',by rw[e'];exact hc⟩
theorem Ke {env:Env}:∀(l:List (Str×NameKind)) (acc:List (Str×Addr)) (p:Str×Addr),p∈acc->p∈closL env l acc
 |[],_,_,h=>h
 |q::r,acc,p,h=>by
  refine Ke r _ p ?_
  split
  ·exact List.mem_cons_of_mem _ h
  ·exact h
theorem wm {env:Env}:∀(l:List (Str×NameKind)) (acc:List (Str×Addr)) (x:Str),(x,NameKind.free)∈l->∃c,(closL env l acc).lookup x=some c
 |[],_,_,h=>nomatch h
 |q::r,acc,x,h=>by
  rcases List.mem_cons.mp h with rfl|h
  ·exact Di (Ke r _ (x,(env.cells.lookup x).getD 0) (by simp))
  ·exact wm r _ x h
structure CompScope (scope:Scope) (env:Env):Prop where
 kind:scope.kind=.function
 nocell:∀y∈scope.names,y.2≠.cell
 loc:∀y∈scope.names,y.2=.local->scope.names.lookup y.1=some .local
 cap:∀y∈scope.names,y.2=.free->env.kindOf y.1=some .cell\/env.kindOf y.1=some .free
noncomputable abbrev Vc (scope:Scope) (env:Env):List (Str×Addr):=closL env scope.names []
theorem G5 {scope:Scope}{env:Env}{x:Str}(hn:∀y∈scope.names,y.2≠.cell) (h:(relabel scope env).names.lookup x=some .cell\/(relabel scope env).names.lookup x=some .free):(x,NameKind.free)∈scope.names:=by
 have:∃k,(x,k)∈(relabel scope env).names/\(k=.cell\/k=.free):=by
  rcases h with h|h
  ·exact⟨_,Z8 h,.inl rfl⟩
  ·exact⟨_,Z8 h,.inr rfl⟩
 obtain⟨k,hm,hk⟩:=this
 unfold relabel at hm
 obtain⟨⟨n,k'⟩,hq,e⟩:=List.mem_map.mp hm
 simp only at e
 split at e
 ·rename_i hc
  simp only[Bool.and_eq_true,beq_iff_eq] at hc
  cases e
  rw[hc.1.1] at hq
  exact hq
 ·cases e
  rcases hk with rfl|rfl
  ·exact absurd rfl (hn _ hq)
  ·exact hq
noncomputable abbrev NoE:Value->Shared->Prop:=fun _ _=>False
theorem fc {prog:Program}{w:World}{A:Around}{R:Result->Shared->Prop}{s:Shared}{elt target iter:Expr}{ifs:List Expr}{scope:Scope}{pos:Pos}{it acc:Value}{env:Env}(I:Nat->Shared->Prop)
  (turn:∀n s,I n s->wpAny (model prog w) A (pyNext it) (fun r s₁=>match r with
   |none=>R (.ok .next) s₁
   | some v=>wpAny (model prog w) A (letOwnedTupleGo target it v) (fun _ s₁'=>wpAny (model prog w) A (assign target env v) (fun _ s₂ =>
     wpAny (model prog w) A (forIn ifs true fun c r=>if r=true then do let ok ←isTrue c env (eval c env);pure (ForInStep.yield ok) else pure (ForInStep.yield r)) (fun ok s₃ =>
      if ok=true then wpAny (model prog w) A (eval elt env) (fun x s₄ =>
       wpAny (model prog w) A (call (.builtin "list.append") [acc,x]) (fun _ s₅=>∃m,m<n/\I m s₅) NoE s₄) NoE s₃
      else ∃m,m<n/\I m s₃) NoE s₂) NoE s₁') NoE s₁) NoE s)
  (n:Nat) (h:I n s):codeAny (model prog w) A (.compLoop (.ListComp elt [⟨target,iter,ifs,0⟩] scope pos) 0 it acc env) R s:=by
 refine codeAny_loop rfl I (fun n s hI=>?_) n h
 show wpAny _ A ((compTurn (.ListComp elt [⟨target,iter,ifs,0⟩] scope pos) 0 it acc env).onRaise (fun x=>do noteFrame x env;theTreesLotGoes x)) _ _ s
 refine wpAny_noted ?_
 rw[compTurn_list]
 refine wpAny_bind (wpAny_standAt (wpAny_bind (wpAny_mono (turn n s hI) (fun r s₁ h₁=>?_) fun _ _ h'=>h'.elim)))
 cases r with
 |none=>exact wpAny_pure h₁
 |some v =>
  refine wpAny_bind (wpAny_mono h₁ (fun _ s₁' h₁'=>?_) fun _ _ h'=>h'.elim)
  refine wpAny_bind (wpAny_mono h₁' (fun _ s₂ h₂=>wpAny_bind (wpAny_mono h₂ (fun ok s₃ h₃=>?_) fun _ _ h'=>h'.elim)) fun _ _ h'=>h'.elim)
  cases ok with
  |false=>exact wpAny_pure ⟨rfl,h₃⟩
  |true =>
   exact wpAny_bind (wpAny_bind (wpAny_mono h₃ (fun x s₄ h₄=>wpAny_bind (wpAny_mono h₄ (fun _ s₅ h₅=>wpAny_pure (wpAny_pure ⟨rfl,h₅⟩)) fun _ _ h'=>h'.elim)) fun _ _ h'=>h'.elim))
noncomputable def yd (X:Cx) (N':List Str) (scope:Scope) (C:Addr) (s:Shared) (H:Hp) (ex:List Addr):Cx :=
 { X with N:=N',s₀:=s,H₀:=H,env:=compEnvC scope (Vc scope X.env) C X.env,outer:=X.stack,ex:=ex,fn:=fun _=>false,pn:=[],xe:=NoE,kn:=none}
section
variable {X:Cx}{EX:EXT}{pins:List (Addr×Obj)}{σ:L2.St}{H:Hp}{s:Shared}{scope:Scope}{C:Addr}{ex:List Addr}{N':List Str}
theorem CompScope.had (cs:CompScope scope X.env) (ok:X.Ok):∀p∈scope.names,p.2=.free->∃c,X.env.cells.lookup p.1=some c:=fun p hp hk=>ok.has p.1 (cs.cap p hp hk)
theorem Yu (cs:CompScope scope X.env) (ok:X.Ok) {x:Str}{c:Addr}(h:(Vc scope X.env).lookup x=some c):X.env.cells.lookup x=some c :=
 Kf scope.names [] (cs.had ok) (fun _ z=>nomatch z) (x,c) (Z8 h)
theorem ak (I:Inv X pins σ H s) (cs:CompScope scope X.env) (hC:s.heap.objs.size<=C) (hex:∀b∈ex,qo X pins H b/\∃o,s.heap.get? b=some o):(yd X N' scope C s H ex).Ok:=by
 refine⟨I.ok.mod,cs.kind,I.ok.glob,I.ok.blt,hC,fun x y c h1 h2=>I.ok.inj x y c (Yu cs I.ok h1) (Yu cs I.ok h2),fun x h=>?_,fun x c h=>(by cases h),I.ok.hd,I.ok.frames,.inl rfl,fun b hb=>⟨?_,fun x c h=>?_⟩,I.bs,Nat.le_trans I.ok.bsz I.sz,fun b o e hb=>?_,fun b hb hf=>?_,I.stack,I.stkFree⟩
 ·exact wm scope.names [] x (G5 cs.nocell h)
 ·obtain⟨o,e⟩:=(hex b hb).2
  exact Nat.ne_of_lt (Nat.lt_of_lt_of_le (Heap.lt_size e) hC)
 ·exact(hex b hb).1.2.2.2.2.1 x c (Yu cs I.ok h)
 ·rcases(hex b hb).1.2.2.2.1 with z|z
  ·exact I.ok.noex b o e z
  ·exact absurd (Nat.lt_of_lt_of_le (Heap.lt_size e) (Nat.le_trans I.ok.bsz z)) (Nat.lt_irrefl _)
 ·rcases List.mem_cons.mp (I.stkSub b hf) with z|z
  ·exact(hex b hb).1.2.1 z
  ·exact(hex b hb).1.2.2.1 z
theorem xv {env:Env}{scope:Scope}{x:Str}(h:scope.names.lookup x=some .free):(relabel scope env).names.lookup x=some .cell\/(relabel scope env).names.lookup x=some .free:=by
 unfold relabel
 generalize scope.names=l at h
 simp only
 induction l with
 |nil=>cases h
 |cons p r ih =>
  obtain⟨n,k⟩:=p
  rw[List.lookup_cons] at h
  simp only[List.map_cons]
  by_cases e:(x==n)=true
  ·rw[e] at h
   cases h
   split
   ·left;rw[List.lookup_cons,e]
   ·right;rw[List.lookup_cons,e]
  ·have e':(x==n)=false:=by simpa using e
   rw[e'] at h
   have:=ih h
   split
   ·rw[List.lookup_cons,e'];exact this
   ·rw[List.lookup_cons,e'];exact this
structure Caps (X:Cx) (scope:Scope) (T caps:List Str) (ix:List Nat):Prop where
 len:ix.length=caps.length
 at':∀(j:Nat) (x:Str) (i:Nat),caps[j]? =some x->ix[j]? =some i->X.N[i]? =some x/\scope.names.lookup x=some .free
noncomputable def blk {β:Type}(k:Nat) (ix:List Nat) (σ:List (Option β)):List (Option β):=List.replicate k none++ix.map fun i=>(σ[i]?).getD none
theorem cw {T caps:List Str}{ix:List Nat}(I:Inv X pins σ H s) (cs:CompScope scope X.env) (cp:Caps X scope T caps ix) {h':Heap}{tk:Nat}(hC:C=s.heap.objs.size) (hex:∀b∈ex,qo X pins H b/\∃o,s.heap.get? b=some o)
  (hn:h'.Ns C fun _=>none) (hk:∀b o,s.heap.get? b=some o->h'.get? b=some o) :
  Inv (yd X (T++caps) scope C s H ex) [] (blk T.length ix σ) H { s with heap:=h',toks:=tk}:=by
 have ok:=ak (N':=T++caps) (C:=C) I cs (by rw[hC];exact Nat.le_refl _) hex
 refine⟨ok,rfl,I.bare,Un.kept hk,⟨_,hn,fun i x v e1 e2 e3=>?_⟩,fun x c e=>?_,?_,fun x c e=>I.freeC x c (Yu cs I.ok e),fun p hp=>(by simp[yd] at hp),I.hok.kept hk,by simp[blk,yd,cp.len],fun f e=>by cases(show(none:Option (Str->Option Value))=some f from e)⟩
 ·have e1:(T++caps)[i]? =some x:=e1
  unfold blk at e2
  by_cases hi:i<T.length
  ·rw[List.getElem?_append_left (by simpa using hi),List.getElem?_replicate] at e2
   split at e2<;>cases e2
  ·rw[List.getElem?_append_right (by simp;omega)] at e2
   rw[List.getElem?_append_right (by omega)] at e1
   simp only[List.length_replicate,List.getElem?_map] at e2
   cases q:ix[i-T.length]? with
   |none=>rw[q] at e2;cases e2
   |some j =>
    rw[q] at e2
    obtain⟨hN,hl⟩:=cp.at' _ x j e1 q
    have e2:(σ[j]?).getD none=some v:=by simpa using e2
    have hσ:σ[j]? =some (some v):=by
     cases z:σ[j]? with
     |none=>rw[z] at e2;cases e2
     |some o=>rw[z] at e2;simp at e2;rw[e2]
    have hm:(x,NameKind.free)∈scope.names:=Z8 hl
    have hkind:=cs.cap (x,.free) hm rfl
    obtain⟨m,hns,hloc⟩:=I.loc
    obtain⟨u,ru,look⟩:=hloc j x v hN hσ (hkind.elim (fun z=>.inr (.inl z)) fun z=>.inr (.inr z))
    refine⟨u,ru,.inr ⟨xv hl,?_⟩⟩
    rcases look with⟨z,_⟩|⟨_,c,hc,hcell⟩
    ·rcases hkind with y|y
     ·rw[z] at y;cases y
     ·rw[z] at y;cases y
    ·obtain⟨c',hc'⟩:=wm (env:=X.env) scope.names [] x hm
     have:=Yu cs I.ok hc'
     rw[hc] at this
     cases this
     obtain⟨o,ho,hd⟩:=hcell
     exact⟨c,hc',o,hk _ _ ho,hd⟩
 ·obtain⟨v,o,ho,hd⟩:=I.cell x c (Yu cs I.ok e)
  exact⟨v,o,hk _ _ ho,hd⟩
 ·show H C=none
  rw[hC]
  exact I.fresh
theorem am {T caps:List Str}{σ':L2.St}{H1 H':Hp}{s2 s3 s':Shared}{D:Addr}{o:HO}(I2:Inv X pins σ H1 s2) (hD:s2.heap.objs.size<=D) (h3:s3.os=s2.os) (hk:∀b u,s2.heap.get? b=some u->s3.heap.get? b=some u)
  (hex:∀b∈ex,qo X pins H1 b) (I':Inv (yd X (T++caps) scope C s3 (upd H1 D o) ex) [] σ' H' s'):Inv X pins σ H' s':=by
 have hos:s'.os=s2.os:=I'.os.trans h3
 have u0:Un (frs X.stack) ex H1 (upd H1 D o) s2.heap s3.heap:=Un.laid hk hD (I2.hok.fresh hD)
 have u:Un (frs X.stack) ex H1 H' s2.heap s'.heap:=u0.trans I'.base
 exact I2.call' hos u I'.hok I'.bare fun b hb=>⟨(hex b hb).2.2.2.1,(hex b hb).2.1,(hex b hb).2.2.2.2.1,(hex b hb).2.2.2.2.2⟩
end
noncomputable def J6 (tg:MG) (t:MB) (m:MX):List D->En->Mu->List D->Res (List D)
 |[],_,μ,acc=>.ok acc μ
 |d::ds,ρ,μ,acc=>match tg d ρ with
  |none=>.bad
  |some ρ1=>(noX (t ρ1 μ)).bind fun k μ1=>if k=true then(noX (m ρ1 μ1)).bind fun x μ2=>J6 tg t m ds ρ1 μ2 (acc++[x]) else J6 tg t m ds ρ1 μ1 acc
noncomputable def Ul (k:Nat) (ix:List Nat) (tg:MG) (it:MIt) (t:MB) (m:MX):MX:=fun ρ μ=>(it ρ μ).bind fun ds μ1=>if ds.length<=16777216 then(J6 tg t m ds (blk k ix ρ) μ1 []).bind fun xs μ2=>.ok (.lst xs) μ2 else .bad
noncomputable def mTT:MB:=fun _ μ=>.ok true μ
noncomputable def ai9 (X:Cx) (ifs:List Expr) (t:MB):Prop:=∀pins s Z α F H σ ρ μ Q,Inv X pins σ H s->RS X.K Z α F H σ ρ μ->GB X.K NoX Z α F Q (t ρ μ) ->
 wpAny (model X.prog X.w) X.A (forIn ifs true fun c r=>if r=true then do let ok ←isTrue c X.env (eval c X.env);pure (ForInStep.yield ok) else pure (ForInStep.yield r)) (TP X pins σ Q) X.xe s
theorem mifs_nil {X:Cx}:ai9 X [] mTT:=fun pins s Z α F H σ ρ μ Q I R g=>wpAny_tests_nil ⟨H,I,g α F H R.hp (Ext.refl _ _)⟩
theorem mifs_one {X:Cx}{c:Expr}{t:MB}(h:MT X NoX c t):ai9 X [c] t:=by
 obtain⟨tt,pt,st⟩:=h
 exact fun pins s Z α F H σ ρ μ Q I R g=>wpAny_tests_one (pt pins s σ H Q I (st Z α F H σ ρ μ Q R g))
theorem ap1 {K:PySem.W.Frag}{Z:ZS}{F H:Hp}{α:List Addr}{σ:L2.St}{ρ:En}{μ:Mu}(k:Nat) (ix:List Nat) (R:RS K Z α F H σ ρ μ):RS K Z α F H (blk k ix σ) (blk k ix ρ) μ:=by
 refine⟨R.hp,by simp[blk],fun i d h=>?_⟩
 unfold blk at h ⊢
 by_cases hi:i<k
 ·rw[List.getElem?_append_left (by simpa using hi),List.getElem?_replicate] at h
  split at h<;>cases h
 ·rw[List.getElem?_append_right (by simp;omega)] at h ⊢
  simp only[List.length_replicate,List.getElem?_map] at h ⊢
  cases q:ix[i-k]? with
  |none=>rw[q] at h;cases h
  |some j =>
   rw[q] at h
   have e2:(ρ[j]?).getD none=some d:=by simpa using h
   have hρ:ρ[j]? =some (some d):=by
    cases z:ρ[j]? with
    |none=>rw[z] at e2;cases e2
    |some o=>rw[z] at e2;simp at e2;rw[e2]
   obtain⟨v,h1,h2⟩:=R.sl j d hρ
   exact⟨v,by simp[h1],h2⟩
theorem RH.rehold {K:PySem.W.Frag}{Z:ZS}{F H:Hp}{α:List Addr}{μ:Mu}{p:Addr}{o:HO}(o':HO) (r:RH K (ZS.up Z p o) α F H μ):RH K (ZS.up Z p o') α F (upd H p o') μ:=by
 have fp:F p=none:=r.zf p o Ud
 have nc:∀(k:Nat) (a:Addr) (c:Cell),α[k]? =some a->μ[k]? =some c->c≠.dead->a≠p:=fun k a c ha hc hd z=>by
  have:=r.zc k a c ha hc hd
  rw[z,Ud] at this
  cases this
 refine⟨fun b u e=>?_,r.len,fun k a c ha hc=>?_,fun b u e=>?_,fun b u e=>?_,fun k a c ha hc hd=>?_,r.dis,r.ext⟩
 ·rw[jz (js e fp)];exact r.sub b u e
 ·exact(r.cell k a c ha hc).go (Ext.refl _ _) (fun _=>rfl) fun hd=>jz (nc k a c ha hc hd)
 ·by_cases hb:b=p
  ·subst hb;rw[Ud] at e;rw[jt];exact e
  ·rw[yy hb] at e;rw[jz hb];exact r.zs b u (by rw[yy hb];exact e)
 ·by_cases hb:b=p
  ·subst hb;exact fp
  ·rw[yy hb] at e;exact r.zf b u (by rw[yy hb];exact e)
 ·have:=r.zc k a c ha hc hd
  rw[yy (nc k a c ha hc hd)] at this ⊢
  exact this
theorem ao1 {H:Hp}{p:Addr}{o:HO}(h:H p=some o):upd H p o=H:=by
 funext b
 unfold upd
 split
 ·rename_i e;rw[e,h]
 ·rfl
section
variable {X:Cx}{EX:EXT}{elt tg iter:Expr}{ifs:List Expr}{scope:Scope}{pos:Pos}{T caps:List Str}{ix:List Nat}{g:MG}{t:MB}{m:MX}
noncomputable def B1 (K:PySem.W.Frag) (z:Hp) (α:List Addr) (F:Hp) (J:It) (ds:List D):Prop :=
 ∀(Z:ZS) α' F' H' (μ':Mu),ja z Z.z->RH K Z α' F' H' μ'->Ext α F α' F'->∀i,(i<ds.length->J.go i H'/\∀x H2,J.yld i H' x H2->∃d F2,ds[i]? =some d/\RH K Z α' F2 H2 μ'/\ja F' F2/\Rep K F2 α' d x)/\(ds.length=i->J.stop i H')
theorem Qe.z {K:PySem.W.Frag}{z:Hp}{α:List Addr}{F:Hp}{J:It}{ds:List D}(h:Qe K α F J ds):B1 K z α F J ds:=fun Z α' F' H' μ' _=>h Z α' F' H' μ'
noncomputable def Blk (X:Cx) (scope:Scope) (N':List Str) (tg:Expr) (ifs:List Expr) (elt:Expr) (g:MG) (t:MB) (m:MX):Prop :=
 ∀C s H ex,MTg (yd X N' scope C s H ex) tg g/\ai9 (yd X N' scope C s H ex) ifs t/\ME (yd X N' scope C s H ex) NoX elt m
theorem RH.drop {K:PySem.W.Frag}{Z:ZS}{F H:Hp}{α:List Addr}{μ:Mu}{p:Addr}{o:HO}(r:RH K (ZS.up Z p o) α F H μ) (hz:Z.z p=none):RH K Z α F H μ:=by
 refine⟨r.sub,r.len,r.cell,fun b u e=>?_,fun b u e=>?_,fun k a c ha hc hd=>?_,r.dis,r.ext⟩
 ·exact r.zs b u (by rw[yy (js e hz)];exact e)
 ·exact r.zf b u (by rw[yy (js e hz)];exact e)
 ·have:=r.zc k a c ha hc hd
  by_cases ha':a=p
  ·rw[ha'];exact hz
  ·rw[yy ha'] at this;exact this
inductive CSt (Y:Cx) (Z:ZS) (D':Addr) (fp:List Addr) (tn:Nat->Heap->Prop) (α:List Addr) (F:Hp) (g:MG) (t:MB) (m:MX) (ds:List D) (G:Res (List D)->Prop):Nat->Shared->Prop
 |mk {i:Nat}{σ':L2.St}{H':Hp}{α':List Addr}{F':Hp}{ρ':En}{μ':Mu}{xs:List D}{vs:List V}{s':Shared}:i<=ds.length->xs.length<=i->Inv Y [] σ' H' s'->tn i s'.heap->(∀b∈fp,H' b=none)->RS Y.K (ZS.up Z D' (.lst vs)) α' F' H' σ' ρ' μ'->Ext α F α' F'->Reps Y.K F' α' xs vs->G (J6 g t m (ds.drop i) ρ' μ' xs)->CSt Y Z D' fp tn α F g t m ds G (ds.length+1-i) s'
theorem ao {Y:Cx}{Rr:Result->Shared->Prop}{s:Shared}{σ:L2.St}{Z:ZS}{H F:Hp}{α:List Addr}{ρ:En}{μ:Mu}{ds:List D}{J:It}{fp:List Addr}{it D':Addr}{tn:Nat->Heap->Prop}{G:Res (List D)->Prop}(hxe:Y.xe=NoE) (hcalm:Y.calm=true)
  (hgt:MTg Y tg g) (hif:ai9 Y ifs t) (he:ME Y NoX elt m) (Tn:Turn Y.prog Y.w Y.K tg J fp it tn) (stat:∀H',(∀b∈fp,H' b=none)->∀b∈fp,qo Y [] H' b) (I:Inv Y [] σ H s) (ht0:tn 0 s.heap) (hf0:∀b∈fp,H b=none)
  (R:RS Y.K (ZS.up Z D' (.lst [])) α F H σ ρ μ) (hZ0:Z.z D'=none) (wk:B1 Y.K Z.z α F J ds) (hds:ds.length<=16777216) (hG:G (J6 g t m ds ρ μ [])) (hbad:¬G .bad)
  (hR:∀(σ':L2.St) (H':Hp) (s':Shared) (α':List Addr) (F':Hp) (xs:List D) (vs:List V) (μ':Mu),Inv Y [] σ' H' s'->RH Y.K (ZS.up Z D' (.lst vs)) α' F' H' μ'->Ext α F α' F'->Reps Y.K F' α' xs vs->G (.ok xs μ')->Rr (.ok .next) s') :
  codeAny (model Y.prog Y.w) Y.A (.compLoop (.ListComp elt [⟨tg,iter,ifs,0⟩] scope pos) 0 (.ref it) (.ref D') Y.env) Rr s:=by
 obtain⟨tgt,pg,sg⟩:=hgt
 obtain⟨te,pe,se⟩:=he
 have nox:∀{α:Type}{tr:Sem α}{Q:α->Shared->Prop}{s:Shared},wpAny (model Y.prog Y.w) Y.A tr Q Y.xe s->wpAny (model Y.prog Y.w) Y.A tr Q NoE s:=fun h=>by rw[hxe] at h;exact h
 refine fc (CSt Y Z D' fp tn α F g t m ds G) ?_ (ds.length+1) (.mk (i:=0) (xs:=[]) (vs:=[]) (Nat.zero_le _) (Nat.zero_le _) I ht0 hf0 R (Ext.refl _ _) J5 hG)
 rintro n s1 (@⟨i,σ1,H1,α1,F1,ρ1,μ1,xs,vs,_,hi,hxl,I1,t1,f1,R1,e1,r1,g1⟩)
 obtain⟨w1,w2⟩:=wk _ α1 F1 H1 μ1 (fun b u e=>by rw[yy (js e hZ0)];exact e) R1.hp e1 i
 by_cases hlt:i<ds.length
 ·obtain⟨w3,w4⟩:=w1 hlt
  refine wpAny_mono (Tn.item Y rfl rfl rfl hcalm i [] s1 σ1 H1 NoE I1 (stat H1 f1) t1 w3) (fun r s2 h2=>?_) fun _ _ z=>z
  obtain⟨u,rfl,h2⟩:=h2
  refine wpAny_mono h2 (fun _ s3 h3=>?_) fun _ _ z=>z
  obtain⟨x,H3,I3,rx,yl,t3,f3⟩:=h3
  obtain⟨d,F3,hd,R3,sf3,p3⟩:=w4 x H3 yl
  have e3:Ext α1 F1 α1 F3:=⟨sf3,fun _ _ h=>h⟩
  rw[List.drop_eq_getElem_cons hlt] at g1
  have hd':ds[i]=d:=by
   rw[List.getElem?_eq_getElem hlt] at hd
   exact Option.some.inj hd
  rw[hd'] at g1
  simp only[J6] at g1
  cases ht:g d ρ1 with
  |none=>rw[ht] at g1;exact absurd g1 hbad
  |some ρ4 =>
   rw[ht] at g1
   simp only at g1
   have I3':=I3.pinned (stat H3 f3) (Tn.obj _ _ t3)
   have R3':RS Y.K (ZS.up Z D' (.lst vs)) α1 F3 H3 σ1 ρ1 μ1:=R1.to R3 e3
   refine wpAny_mono (nox (pg _ s3 σ1 H3 x u (fun σ4 H4=>H4=H3/\RS Y.K (ZS.up Z D' (.lst vs)) α1 F3 H3 σ4 ρ4 μ1) I3' rx (sg _ α1 F3 H3 σ1 ρ1 μ1 x d ρ4 _ R3' p3 ht fun σ4 R4=>⟨rfl,R4⟩))) (fun _ s4 h4=>?_) fun _ _ z=>z
   obtain⟨σ4,H4,I4,rfl,R4⟩:=h4
   have back:∀{σ5:L2.St}{H5:Hp}{s5:Shared},Inv Y ([]++vh fp s3.heap) σ5 H5 s5->Inv Y [] σ5 H5 s5/\tn (i+1) s5.heap/\∀b∈fp,H5 b=none:=fun{σ5 H5 s5} I5=>by
    refine⟨I5.unpinned,Tn.keep _ _ _ t3 fun b hb o e=>(I5.pin (b,o) (List.mem_append_right _ (List.mem_append_right _ (Z5 hb e)))).1,fun b hb=>?_⟩
    obtain⟨o,e,_⟩:=Tn.obj _ _ t3 b hb
    exact(I5.pin (b,o) (List.mem_append_right _ (List.mem_append_right _ (Z5 hb e)))).2.1
   refine wpAny_mono (nox (hif _ s4 _ α1 F3 H4 σ4 ρ4 μ1 (fun k H5=>∃μ5 α5 F5,RH Y.K (ZS.up Z D' (.lst vs)) α5 F5 H5 μ5/\Ext α1 F3 α5 F5/\G (if k=true then(noX (m ρ4 μ5)).bind fun x μ2=>J6 g t m (ds.drop (i+1)) ρ4 μ2 (xs++[x]) else J6 g t m (ds.drop (i+1)) ρ4 μ5 xs)) I4 R4 ?_)) (fun k s5 h5=>?_) fun _ _ z=>z
   ·cases hk:t ρ4 μ1 with
    |ok k μ5=>rw[hk] at g1;exact fun α5 F5 H5 R5 e5=>⟨μ5,α5,F5,R5,e5,g1⟩
    |exc x μ5=>rw[hk] at g1;exact absurd g1 hbad
    |bad=>rw[hk] at g1;exact absurd g1 hbad
   obtain⟨H5,I5,μ5,α5,F5,R5,e5,g5⟩:=h5
   cases k with
   |false =>
    obtain⟨b1,b2,b3⟩:=back I5
    exact⟨_,by omega,.mk (i:=i+1) hlt (Nat.le_succ_of_le hxl) b1 b2 b3 (R4.to R5 e5) (e1.trans (e3.trans e5)) ((r1.mono e3).mono e5) g5⟩
   |true =>
    simp only[if_true] at g5 ⊢
    refine wpAny_mono (nox (pe _ s5 σ4 H5 (fun v6 H6=>∃x6 μ6 α6 F6,RH Y.K (ZS.up Z D' (.lst vs)) α6 F6 H6 μ6/\Ext α5 F5 α6 F6/\Rep Y.K F6 α6 x6 v6/\G (J6 g t m (ds.drop (i+1)) ρ4 μ6 (xs++[x6]))) I5 (se _ α5 F5 H5 σ4 ρ4 μ5 _ (R4.to R5 e5) ?_))) (fun y s6 h6=>?_) fun _ _ z=>z
    ·cases hm:m ρ4 μ5 with
     |ok x6 μ6=>rw[hm] at g5;exact fun v6 α6 F6 H6 R6 e6 p6=>⟨x6,μ6,α6,F6,R6,e6,p6,g5⟩
     |exc x μ5=>rw[hm] at g5;exact absurd g5 hbad
     |bad=>rw[hm] at g5;exact absurd g5 hbad
    obtain⟨v6,H6,I6,rv,x6,μ6,α6,F6,R6,e6,p6,g6⟩:=h6
    have hHD:H6 D'=some (.lst vs):=R6.zs _ _ Ud
    have hvl:vs.length<sizeLine:=by rw[←r1.length,sizeLine_eq];omega
    refine wpAny_mono (nox (K9 (X:=Y) _ s6 σ4 H6 (.ref D') [v6] (.ref D') [y] (fun _ H7=>H7=upd H6 D' (.lst (vs++[v6]))) I6 rfl (.cons rv .nil) ⟨D',vs,v6,rfl,rfl,hHD,hvl,rfl⟩)) (fun z s7 h7=>?_) fun _ _ z=>z
    obtain⟨_,H7,I7,_,rfl⟩:=h7
    obtain⟨b1,b2,b3⟩:=back I7
    have R7:=R6.rehold (.lst (vs++[v6]))
    refine⟨_,by omega,.mk (i:=i+1) (xs:=xs++[x6]) (vs:=vs++[v6]) hlt ?_ b1 b2 b3 ?_ (e1.trans (e3.trans (e5.trans e6))) ?_ g6⟩
    ·rw[List.length_append,List.length_singleton];exact Nat.succ_le_succ hxl
    ·exact⟨R7,R4.len,fun j dd h=>let⟨v,h1,h2⟩:=R4.sl j dd h;⟨v,h1,(h2.mono e5).mono e6⟩⟩
    ·exact((((r1.mono e3).mono e5).mono e6).append (j5 p6 J5))
 ·refine wpAny_mono (Tn.done Y rfl rfl rfl hcalm i [] s1 σ1 H1 NoE I1 (stat H1 f1) t1 (w2 (by omega))) (fun r s2 h2=>?_) fun _ _ z=>z
  obtain⟨rfl,I2⟩:=h2
  rw[List.drop_eq_nil_of_le (by omega)] at g1
  exact hR σ1 H1 s2 α1 F1 xs vs μ1 I2 R1.hp e1 r1 g1
theorem cv {pins:List (Addr×Obj)}{σ:L2.St}{H1:Hp}{s2:Shared}{E:Value->Shared->Prop}{RR:Value->Addr->Result->Shared->Prop}{it:Addr}{fp:List Addr}{tn:Nat->Heap->Prop}{J:It}{Z:ZS}{α:List Addr}{F:Hp}{ρ:En}{μ:Mu}{ds:List D}{G:Res (List D)->Prop}
  (cs:CompScope scope X.env) (cp:Caps X scope T caps ix) (hcalm:X.calm=true) (hb:Blk X scope (T++caps) tg ifs elt g t m)
  (I2:Inv X pins σ H1 s2) (Tn:Turn X.prog X.w X.K tg J fp it tn) (ht0:tn 0 s2.heap) (hfp:∀b∈fp,qo X pins H1 b) (R:RS X.K Z α F H1 σ ρ μ) (wk:B1 X.K Z.z α F J ds) (hds:ds.length<=16777216)
  (hG:G (J6 g t m ds (blk T.length ix ρ) μ [])) (hbad:¬G .bad)
  (hRR:∀(D' C:Addr) (H':Hp) (s':Shared) (α':List Addr) (F':Hp) (xs:List D) (vs:List V) (μ':Mu) (mm:Str->Option Value),Inv X pins σ H' s'->qo X pins H' C->s'.heap.Ns C mm->RH X.K (ZS.up Z D' (.lst vs)) α' F' H' μ'->Z.z D'=none->Ext α F α' F'->Reps X.K F' α' xs vs->G (.ok xs μ')->RR (.ref D') C (.ok .next) s') :
  wpAny (model X.prog X.w) X.A (newList []) (fun acc s₃=>wpAny (model X.prog X.w) X.A (newFunctionEnv scope X.env.globals (Vc scope X.env) [] X.env.qual none .none (some X.env)) (fun cenv s₄ =>
   codeAny (model X.prog X.w) X.A (.compStart (.ListComp elt [⟨tg,iter,ifs,0⟩] scope pos) 0 (.ref it) acc { cenv with scope:=relabel scope X.env}) (RR acc cenv.locals) s₄) E s₃) E s2:=by
 have hD:H1 s2.heap.objs.size=none:=I2.fresh
 have hZ:Z.z s2.heap.objs.size=none:=by
  cases e:Z.z s2.heap.objs.size with
  |none=>rfl
  |some u=>rw[R.hp.zs _ _ e] at hD;cases hD
 have I3:Inv X pins σ (upd H1 s2.heap.objs.size (.lst [])) { s2 with heap:=s2.heap.push { cls:=.type "list",data:=.seq ([]:List Value).toArray},toks:=s2.toks}:=I2.lnew (its:=[]) (ys:=[]) .nil (Nat.zero_le _)
 have k3:∀b u,s2.heap.get? b=some u->(s2.heap.push { cls:=.type "list",data:=.seq ([]:List Value).toArray}).get? b=some u:=fun b u e=>Heap.get?_push_of_some _ e
 refine wpAny_newObj_type (wpAny_newFunctionEnv cs.nocell (by intro y hy;simp at hy) (fun h₁ hns₁ hsb₁=>?_) cs.kind)
 have hobj:∀b∈fp,∃o,s2.heap.get? b=some o:=fun b hb=>let⟨o,e,_⟩:=Tn.obj 0 _ ht0 b hb;⟨o,e⟩
 have hnD:∀b∈fp,b≠s2.heap.objs.size:=fun b hb=>let⟨o,e⟩:=hobj b hb;Nat.ne_of_lt (Heap.lt_size e)
 have hex3:∀b∈fp,qo X pins (upd H1 s2.heap.objs.size (.lst [])) b/\∃o,(s2.heap.push { cls:=.type "list",data:=.seq ([]:List Value).toArray}).get? b=some o:=fun b hb=>by
  obtain⟨f0,f1⟩:=hfp b hb
  obtain⟨o,e⟩:=hobj b hb
  exact⟨⟨by rw[jz (hnD b hb)];exact f0,f1⟩,o,k3 b o e⟩
 have keep1:∀b o,(s2.heap.push { cls:=.type "list",data:=.seq ([]:List Value).toArray}).get? b=some o->h₁.get? b=some o:=fun b o e =>
  hsb₁.extBut b o (Nat.ne_of_lt (Heap.lt_size e)) (Heap.get?_push_of_some _ e)
 have I4:=cw (scope:=scope) (T:=T) (caps:=caps) (ix:=ix) (ex:=fp) (tk:=s2.toks+([]:List (Str×Value)).length) I3 cs cp rfl hex3 (by simpa using hns₁) keep1
 obtain⟨hgt,hif,he⟩:=hb (s2.heap.push { cls:=.type "list",data:=.seq ([]:List Value).toArray}).objs.size { s2 with heap:=s2.heap.push { cls:=.type "list",data:=.seq ([]:List Value).toArray},toks:=s2.toks} (upd H1 s2.heap.objs.size (.lst [])) fp
 have t1:tn 0 h₁:=Tn.keep 0 _ _ ht0 fun b _ o e=>keep1 b o (k3 b o e)
 have stat:∀H':Hp,(∀b∈fp,H' b=none)->∀b∈fp,qo (yd X (T++caps) scope (s2.heap.push { cls:=.type "list",data:=.seq ([]:List Value).toArray}).objs.size { s2 with heap:=s2.heap.push { cls:=.type "list",data:=.seq ([]:List Value).toArray},toks:=s2.toks} (upd H1 s2.heap.objs.size (.lst [])) fp) [] H' b:=fun H' hn b hb=>by
  refine⟨hn b hb,(I4.ok.exf b hb).1,I4.ok.exfs b hb,.inl hb,(I4.ok.exf b hb).2,fun p hp=>?_⟩
  exact absurd hp (by simp[yd])
 have loop:codeAny (model X.prog X.w) X.A (.compLoop (.ListComp elt [⟨tg,iter,ifs,0⟩] scope pos) 0 (.ref it) (.ref s2.heap.objs.size) (compEnvC scope (Vc scope X.env) (s2.heap.push { cls:=.type "list",data:=.seq ([]:List Value).toArray}).objs.size X.env))
   (RR (.ref s2.heap.objs.size) (s2.heap.push { cls:=.type "list",data:=.seq ([]:List Value).toArray}).objs.size) { s2 with heap:=h₁,toks:=s2.toks+([]:List (Str×Value)).length}:=by
  refine ao (Y:=yd X (T++caps) scope (s2.heap.push { cls:=.type "list",data:=.seq ([]:List Value).toArray}).objs.size { s2 with heap:=s2.heap.push { cls:=.type "list",data:=.seq ([]:List Value).toArray},toks:=s2.toks} (upd H1 s2.heap.objs.size (.lst [])) fp) (Z:=Z) (G:=G) rfl hcalm hgt hif he Tn stat I4 t1 (fun b hb=>by rw[jz (hnD b hb)];exact(hfp b hb).1)
   (ap1 T.length ix ⟨R.hp.hold (.lst []) hD,R.len,R.sl⟩) hZ wk hds hG hbad fun σ' H' s' α' F' xs vs μ' I' R' e' r' g'=>?_
  have Ib:=am (T:=T) (caps:=caps) (s3:={ s2 with heap:=s2.heap.push { cls:=.type "list",data:=.seq ([]:List Value).toArray},toks:=s2.toks}) I2 (Nat.le_refl _) rfl k3 hfp I'
  obtain⟨mm,hmm,_⟩:=I'.loc
  exact hRR _ _ H' s' α' F' xs vs μ' mm Ib (I3.fpOk (Nat.le_refl _) I'.free) hmm R' hZ e' r' g'
 exact codeAny_compStart_list loop (Tn.self X.A 0 _ _ _ t1 loop)
theorem Kh {pins:List (Addr×Obj)}{σ:L2.St}{H1:Hp}{s2:Shared}{E:Value->Shared->Prop}{RR:Value->Addr->Result->Shared->Prop}{it:Addr}{fp:List Addr}{tn:Nat->Heap->Prop}{J:It}{Z:ZS}{α:List Addr}{F:Hp}{ρ:En}{μ:Mu}{ds:List D}{G:Res (List D)->Prop}
  (cs:CompScope scope X.env) (cp:Caps X scope T caps ix) (hcalm:X.calm=true) (hb:Blk X scope (T++caps) tg ifs elt g t m)
  (I2:Inv X pins σ H1 s2) (Tn:Turn X.prog X.w X.K tg J fp it tn) (ht0:tn 0 s2.heap) (hfp:∀b∈fp,qo X pins H1 b) (R:RS X.K Z α F H1 σ ρ μ) (wk:B1 X.K Z.z α F J ds) (hds:ds.length<=16777216)
  (hG:G (J6 g t m ds (blk T.length ix ρ) μ [])) (hbad:¬G .bad)
  (hRR:∀(D' C:Addr) (H':Hp) (s':Shared) (α':List Addr) (F':Hp) (xs:List D) (μ':Mu) (mm:Str->Option Value),Inv X pins σ H' s'->qo X pins H' C->s'.heap.Ns C mm->RH X.K Z α' F' H' μ'->Ext α F α' F'->Rep X.K F' α' (.lst xs) (.ref D')->G (.ok xs μ')->RR (.ref D') C (.ok .next) s') :
  wpAny (model X.prog X.w) X.A (newList []) (fun acc s₃=>wpAny (model X.prog X.w) X.A (newFunctionEnv scope X.env.globals (Vc scope X.env) [] X.env.qual none .none (some X.env)) (fun cenv s₄ =>
   codeAny (model X.prog X.w) X.A (.compStart (.ListComp elt [⟨tg,iter,ifs,0⟩] scope pos) 0 (.ref it) acc { cenv with scope:=relabel scope X.env}) (RR acc cenv.locals) s₄) E s₃) E s2:=by
 refine cv (G:=G) cs cp hcalm hb I2 Tn ht0 hfp R wk hds hG hbad fun D' C H' s' α' F' xs vs μ' mm I' fC hn R' hZ e' r' g'=>?_
 have hHD:H' D'=some (.lst vs):=R'.zs _ _ Ud
 obtain⟨R2,s2'⟩:=R'.unhold (.lst vs) hZ
 rw[ao1 hHD] at R2
 refine hRR _ _ H' s' α' _ xs μ' mm I' fC hn R2 (e'.trans ⟨s2',fun _ _ h=>h⟩) ?_ g'
 unfold Rep
 exact⟨_,vs,rfl,SqL.of jt,r'.mono ⟨s2',fun _ _ h=>h⟩⟩
theorem bx {pins:List (Addr×Obj)}{σ:L2.St}{H:Hp}{s:Shared}{C:Addr}{h':Heap}(I:Inv X pins σ H s) (f:qo X pins H C) (hs:Heap.SameBut C s.heap h'):Inv X pins σ H { s with heap:=h'} :=
 I.turned (t':=s.toks) (fun b o hb e=>hs.extBut b o hb e) f.1 f.2.1 f.2.2.2.1 f.2.2.2.2.1 f.2.2.2.2.2
theorem Cf {mi:MIt}(cs:CompScope scope X.env) (cp:Caps X scope T caps ix) (hcalm:X.calm=true) (hi:MI X EX tg iter mi) (hb:Blk X scope (T++caps) tg ifs elt g t m) (hs:∀x,foldedSetIterable iter X.env x=pure x:=by intro _;rfl) :
  ME X EX (.ListComp elt [⟨tg,iter,ifs,0⟩] scope pos) (Ul T.length ix g mi t m):=by
 obtain⟨wi,pi,si⟩:=hi
 refine⟨fun σ H Q=>∀pins s,Inv X pins σ H s->wpAny (model X.prog X.w) X.A (eval (.ListComp elt [⟨tg,iter,ifs,0⟩] scope pos) X.env) (EP X pins σ Q) X.xe s,fun pins s σ H Q I h=>h pins s I,fun Z α F H σ ρ μ Q R gd pins s I=>?_⟩
 rw[eval_ListComp]
 refine wpAny_comprehension_free (use:=none) rfl hs (Vd (cs.had I.ok)) cs.kind cs.loc ?_
 unfold Ul at gd
 cases hm:mi ρ μ with
 |exc x μ1 =>
  rw[hm] at gd
  have hw:wi σ H fun _ _=>False:=si Z α F H σ ρ μ _ R (by rw[hm];exact gd)
  refine thn (pi pins s σ H _ I hw) fun v s1 h1=>thn h1 fun itv s2 h2=>?_
  obtain⟨_,_,_,_,_,_,_,_,_,_,z⟩:=h2
  exact z.elim
 |bad=>rw[hm] at gd;exact gd.elim
 |ok ds μ1 =>
  rw[hm] at gd
  simp only[bind_ok] at gd
  by_cases hds:ds.length<=16777216
  ·rw[if_pos hds] at gd
   have hw:wi σ H fun J H1=>∃α1 F1,RH X.K Z α1 F1 H1 μ1/\Ext α F α1 F1/\Qe X.K α1 F1 J ds:=si Z α F H σ ρ μ _ R (by rw[hm];exact fun J α' F' H' R' e' w'=>⟨α',F',R',e',w'⟩)
   refine thn (pi pins s σ H _ I hw) fun v s1 h1=>thn h1 fun itv s2 h2=>?_
   obtain⟨it,fp,tn,J,H2,rfl,I2,Tn,t0,f2,α1,F1,R1,e1,wk⟩:=h2
   refine Kh (G:=fun r=>GE X.K NoX Z α F Q (r.bind fun xs μ2=>.ok (.lst xs) μ2)\/GE X.K EX Z α F Q (r.bind fun xs μ2=>.ok (.lst xs) μ2)) cs cp hcalm hb I2 Tn t0 f2 (R.to R1 e1) wk.z hds (.inr gd) (fun z=>z.elim id id) fun D' C H' s' α' F' xs μ' mm I' fC hn R' e' rp gg=>?_
   refine⟨mm,hn,fun h' hs'=>⟨.ref D',H',bx I' fC hs',rfl,?_⟩⟩
   rcases gg with gg|gg
   ·exact gg _ α' F' H' R' (e1.trans e') rp
   ·exact gg _ α' F' H' R' (e1.trans e') rp
  ·rw[if_neg hds] at gd;exact gd.elim
theorem ae7 {i:Nat}{x:Str}{pos':Pos}{mi:MIt}{spos:Pos}(hN:X.nd) (hi':X.N[i]? =some x) (hx:Loc X.env.scope x) (hf:X.fn x=true\/X.env.scope.names.lookup x=some .local) (cs:CompScope scope X.env) (cp:Caps X scope T caps ix) (hcalm:X.calm=true) (hi:MI X EX tg iter mi)
  (hb:Blk X scope (T++caps) tg ifs elt g t m) (hsw:swapsWith (.ListComp elt [⟨tg,iter,ifs,0⟩] scope pos) (some (.Name x pos')) spos.line X.env=pure true) (hs:∀x,foldedSetIterable iter X.env x=pure x:=by intro _;rfl) :
  MS X EX (.Assign [.Name x pos'] (.ListComp elt [⟨tg,iter,ifs,0⟩] scope pos) spos) (jr i (Ul T.length ix g mi t m)):=by
 obtain⟨wi,pi,si⟩:=hi
 refine⟨fun N σ H=>∀pins s,Inv X pins σ H s->wpAny (model X.prog X.w) X.A (exec (.Assign [.Name x pos'] (.ListComp elt [⟨tg,iter,ifs,0⟩] scope pos) spos) X.env) (SP X pins N) X.xe s,fun pins s σ H N I h=>h pins s I,fun Z α F H σ ρ μ N R gd pins s I=>?_⟩
 rw[exec_Assign_Name_used _ _ _ _ hsw]
 refine wpAny_bind (wpAny_standAt (wpAny_bind ?_))
 show wpAny _ X.A (do let _ ←comprehension (.ListComp elt [⟨tg,iter,ifs,0⟩] scope pos) scope X.env _ (newList []) false (eval iter X.env) (some (assign (.Name x pos') X.env))) _ _ s
 refine wpAny_bind (wpAny_mono (wpAny_comprehension_free (use:=some (assign (.Name x pos') X.env)) (Q:=fun _ s'=>SP X pins N .next s') rfl hs (Vd (cs.had I.ok)) cs.kind cs.loc ?_) (fun _ s' hq=>wpAny_pure (wpAny_pure hq)) fun _ _ e=>e)
 unfold jr Ul at gd
 cases hm:mi ρ μ with
 |exc y μ1 =>
  rw[hm] at gd
  have hw:wi σ H fun _ _=>False:=si Z α F H σ ρ μ _ R (by rw[hm];exact gd)
  refine thn (pi pins s σ H _ I hw) fun v s1 h1=>thn h1 fun itv s2 h2=>?_
  obtain⟨_,_,_,_,_,_,_,_,_,_,z⟩:=h2
  exact z.elim
 |bad=>rw[hm] at gd;exact gd.elim
 |ok ds μ1 =>
  rw[hm] at gd
  simp only[bind_ok] at gd
  by_cases hds:ds.length<=16777216
  ·rw[if_pos hds] at gd
   have hw:wi σ H fun J H1=>∃α1 F1,RH X.K Z α1 F1 H1 μ1/\Ext α F α1 F1/\Qe X.K α1 F1 J ds:=si Z α F H σ ρ μ _ R (by rw[hm];exact fun J α' F' H' R' e' w'=>⟨α',F',R',e',w'⟩)
   refine thn (pi pins s σ H _ I hw) fun v s1 h1=>thn h1 fun itv s2 h2=>?_
   obtain⟨it,fp,tn,J,H2,rfl,I2,Tn,t0,f2,α1,F1,R1,e1,wk⟩:=h2
   refine Kh (G:=fun r=>GS X.K EX Z α F N ((r.bind fun xs μ2=>.ok (.lst xs) μ2).bind fun d μ1=>.ok (.nx (ρ.set i (some d))) μ1)) cs cp hcalm hb I2 Tn t0 f2 (R.to R1 e1) wk.z hds gd (fun z=>z) fun D' C H' s' α' F' xs μ' mm I' fC hn R' e' rp gg=>?_
   show wpAny _ X.A (assign (.Name x pos') X.env (.ref D')) _ _ _
   refine wpAny_assign_Name (K1 (v:=.ref D') I' hN hi' hx rfl (fun s'' I'' hsb=>?_) hf)
   obtain⟨a,hsb,ha⟩:=hsb
   have hCa:C≠a:=by
    rcases ha with rfl|ha
    ·exact fC.2.1
    ·exact fun z=>fC.2.2.2.2.1 x a ha z.symm
   refine⟨mm,hn.sameBut hsb hCa,fun h' hs'=>⟨_,H',bx I'' fC hs',?_⟩⟩
   exact gg _ α' F' H' ((R.to R' (e1.trans e')).set i rp) (e1.trans e')
  ·rw[if_neg hds] at gd;exact gd.elim
end
section
variable {prog:Program}{w:World}{A:Around}
variable {E:Value->Shared->Prop}{s:Shared}{z tI tO i1 i2:Addr}{f1 f2:List Addr}{n1 n2 k:Nat}{P1 P2:Nat->Value->Prop}{S1 S2:Nat->Heap->Prop}{p q:Value}
end
section
variable {X:Cx}{pins:List (Addr×Obj)}{σ:L2.St}{H:Hp}{s:Shared}{h':Heap}{fp:List Addr}
end
section
variable {X:Cx}{EX:EXT}{a b:Expr}{pos p tpos:Pos}{ma mb:MX}{elts:List Expr}{x1:Nat}
end
noncomputable abbrev MGs:=List D->En->Option En
noncomputable def al3:MGs:=fun ds ρ=>match ds with
 |[]=>some ρ
 |_=>none
noncomputable def Vs (g:MG) (gs:MGs):MGs:=fun ds ρ=>match ds with
 |d::r=>(g d ρ).bind (gs r)
 |[]=>none
noncomputable def al7 (gs:MGs):MG:=fun d ρ=>match d with
 |.tup ds=>gs ds ρ
 |_=>none
noncomputable def ai8 (X:Cx) (es:List Expr) (n:Nat) (mg:MGs):Prop:=∃g:TGs,PGs X es g/\(∀ds ρ ρ',mg ds ρ=some ρ'->ds.length=n)/\∀Z α F H σ ρ μ vs ds ρ' Q,RS X.K Z α F H σ ρ μ->Reps X.K F α ds vs->mg ds ρ=some ρ'->(∀σ',RS X.K Z α F H σ' ρ' μ->Q σ' H)->g vs σ H Q
section
variable {X:Cx}{EX:EXT}{e a b c:Expr}{pos:Pos}{m ma mb mc:MX}{es:List Expr}
theorem ae4:ai8 X [] 0 al3:=by
 refine⟨aF4,ab7,fun ds ρ ρ' h=>?_,fun Z α F H σ ρ μ vs ds ρ' Q R r h k=>?_⟩
 ·cases ds with
  |nil=>rfl
  |cons _ _=>cases h
 ·cases ds with
  |nil =>
   have:=r.length
   cases vs with
   |nil=>cases h;exact⟨rfl,k σ R⟩
   |cons _ _=>simp at this
  |cons _ _=>cases h
theorem Fa {n:Nat}{g:MG}{gs:MGs}(h1:MTg X e g) (h2:ai8 X es n gs) (hs:(assignEach (e::es) X.env).map (·.2)=assign e X.env::(assignEach es X.env).map (·.2):=by rfl):ai8 X (e::es) (n+1) (Vs g gs):=by
 obtain⟨t,p,s⟩:=h1
 obtain⟨ts,ps,hn,ss⟩:=h2
 refine⟨_,a11 p ps hs,fun ds ρ ρ' h=>?_,fun Z α F H σ ρ μ vs ds ρ' Q R r h k=>?_⟩
 ·cases ds with
  |nil=>cases h
  |cons d r =>
   simp only[Vs,Option.bind_eq_some_iff] at h
   obtain⟨ρ1,_,h2⟩:=h
   simp[hn _ _ _ h2]
 ·cases ds with
  |nil=>cases h
  |cons d dr =>
   simp only[Vs,Option.bind_eq_some_iff] at h
   obtain⟨ρ1,h1,h2⟩:=h
   unfold Reps at r
   obtain⟨v,vr,rfl,r1,r2⟩:=r
   exact⟨v,vr,rfl,s Z α F H σ ρ μ v d ρ1 _ R r1 h1 fun σ' R'=>ss Z α F H σ' ρ1 μ vr dr ρ' Q R' r2 h2 k⟩
theorem at0 {x1 n:Nat}{gs:MGs}(hc:X.calm=true) (h:ai8 X es n gs) (hn:(assignEach es X.env).length=n:=by rfl) (hst:(assignEach es X.env).findIdx? (·.1)=none:=by rfl):MTg X (.Tuple es x1 pos) (al7 gs):=by
 obtain⟨ts,ps,hl,ss⟩:=h
 refine⟨_,aq3 hc ps hn hst,fun Z α F H σ ρ μ v d ρ' Q R r h k=>?_⟩
 cases d with
 |tup ds =>
  unfold Rep at r
  obtain⟨p,vs,rfl,hs,hr⟩:=r
  exact⟨p,vs,rfl,ja.tup R.hp.sub hs,by rw[←hr.length];exact hl _ _ _ h,ss Z α F H σ ρ μ vs ds ρ' Q R hr h k⟩
 |_=>cases h
noncomputable abbrev MOp:=En->Mu->Res (Option Int)
noncomputable def Jh:MOp:=fun _ μ=>.ok none μ
noncomputable def jk (m:MX):MOp:=fun ρ μ=>(m ρ μ).bind fun d μ1=>match d with
 |.int i=>.ok (some i) μ1
 |_=>.bad
noncomputable def GO (K:PySem.W.Frag) (EX:EXT) (Z:ZS) (α:List Addr) (F:Hp) (Q:Option Int->Hp->Prop):Res (Option Int)->Prop
 |.ok o μ=>∀α' F' H',RH K Z α' F' H' μ->Ext α F α' F'->Q o H'
 |.exc x μ=>EX.P Z x μ
 |.bad=>False
theorem GO.step {K:PySem.W.Frag}{Z:ZS}{α:List Addr}{F:Hp}{r:Res (Option Int)}{β:Type}{f:Option Int->Mu->Res β}{G:Res β->Prop}{Q:Option Int->Hp->Prop}(h:G (r.bind f)) (hx:∀x μ,G (.exc x μ)->EX.P Z x μ) (hb:¬G .bad)
  (hk:∀d μ' α' F' H',RH K Z α' F' H' μ'->Ext α F α' F'->G (f d μ')->Q d H'):GO K EX Z α F Q r:=by
 cases r with
 |ok d μ=>exact fun α' F' H' R e=>hk d μ α' F' H' R e h
 |exc x μ=>exact hx _ _ h
 |bad=>exact hb h
noncomputable def MPt (X:Cx) (EX:EXT) (o:Option Expr) (mo:MOp):Prop:=∃t:TO,PO X o t/\∀Z α F H σ ρ μ Q,RS X.K Z α F H σ ρ μ->GO X.K EX Z α F Q (mo ρ μ)->t σ H Q
theorem y1:MPt X EX none Jh:=⟨_,ab5,fun Z α F H σ ρ μ Q R g=>g α F H R.hp (Ext.refl _ _)⟩
theorem ur (h:ME X EX e m):MPt X EX (some e) (jk m):=by
 obtain⟨t,p,s⟩:=h
 refine⟨_,ab4 p,fun Z α F H σ ρ μ Q R g=>?_⟩
 refine s Z α F H σ ρ μ _ R (GE.step (G:=GO X.K EX Z α F Q) g (fun _ _ h=>h) (fun h=>h) fun d μ1 v α1 F1 H1 R1 e1 p1 g1=>?_)
 cases d with
 |int i=>unfold Rep at p1;exact⟨i,p1,g1 α1 F1 H1 R1 e1⟩
 |_=>exact g1.elim
noncomputable def cutD (xs:List D) (lo hi:Option Int):List D:=(xs.drop (HT.sIx xs.length 0 lo)).take (HT.sIx xs.length xs.length hi-HT.sIx xs.length 0 lo)
noncomputable def gSl (d:D) (lo hi:Option Int):Option D:=match d with
 |.tup xs=>if HT.sIx xs.length 0 lo=0/\HT.sIx xs.length xs.length hi=xs.length then none else some (.tup (cutD xs lo hi))
 |.lst xs=>some (.lst (cutD xs lo hi))
 |_=>none
noncomputable def mSl (m:MX) (lo hi:MOp):MX:=fun ρ μ=>(m ρ μ).bind fun d μ1=>(lo ρ μ1).bind fun l μ2=>(hi ρ μ2).bind fun h μ3=>ofO μ3 (gSl (deref μ3 d) l h)
theorem Fk {K:PySem.W.Frag}{F:Hp}{α:List Addr}{ds:List D}{vs:List V}{lo hi:Option Int}(h:Reps K F α ds vs):Reps K F α (cutD ds lo hi) (Ek vs lo hi):=by
 unfold cutD Ek
 rw[h.length]
 exact Reps.take _ (Reps.drop _ h)
theorem U7 {lo hi:Option Expr}{l h:MOp}{p2:Pos}(ha:ME X EX a ma) (hl:MPt X EX lo l) (hh:MPt X EX hi h):ME X EX (.Subscript a (.Slice lo hi none p2) pos) (mSl ma l h):=by
 obtain⟨ta,pa,sa⟩:=ha
 obtain⟨tl,pl,sl⟩:=hl
 obtain⟨th,ph,sh⟩:=hh
 refine⟨_,Fe (SlR.or ao8 aa1) pa pl ph,fun Z α F H σ ρ μ Q R g=>?_⟩
 refine sa Z α F H σ ρ μ _ R (GE.step (G:=GE X.K EX Z α F Q) g (fun _ _ h=>h) (fun h=>h) fun d μ1 v α1 F1 H1 R1 e1 p1 g1=>?_)
 refine sl Z α1 F1 H1 σ ρ μ1 _ (R.to R1 e1) (GO.step (G:=GE X.K EX Z α F Q) g1 (fun _ _ h=>h) (fun h=>h) fun l μ2 α2 F2 H2 R2 e2 g2=>?_)
 refine sh Z α2 F2 H2 σ ρ μ2 _ (R.to R2 (e1.trans e2)) (GO.step (G:=GE X.K EX Z α F Q) g2 (fun _ _ h=>h) (fun h=>h) fun h μ3 α3 F3 H3 R3 e3 g3=>?_)
 have p3:=R3.pk ((p1.mono e2).mono e3)
 cases hd:deref μ3 d with
 |tup xs =>
  rw[hd] at p3 g3
  unfold Pk Rep at p3
  obtain⟨q,vs,rfl,hs,hr⟩:=p3
  simp only[gSl] at g3
  split at g3
  ·exact g3.elim
  ·rename_i hw
   refine .inl ⟨q,vs,rfl,ja.tup R3.sub hs,by rw[←hr.length];exact hw,fun p hp=>?_⟩
   obtain⟨a1,a2,a3⟩:=Gb R3 (Fk (lo:=l) (hi:=h) hr) hp
   exact g3 _ _ _ _ a1 (e1.trans (e2.trans (e3.trans ⟨a2,fun _ _ h=>h⟩))) a3
 |lst xs =>
  rw[hd] at p3 g3
  obtain⟨q,vs,rfl,hs,hr⟩:=p3
  refine .inr ⟨q,vs,rfl,hs,fun p hp=>?_⟩
  obtain⟨a1,a2,a3⟩:=Ga R3 (Fk (lo:=l) (hi:=h) hr) hp
  exact g3 _ _ _ _ a1 (e1.trans (e2.trans (e3.trans ⟨a2,fun _ _ h=>h⟩))) a3
 |_=>rw[hd] at g3;exact g3.elim
noncomputable def gListC:GL:=fun ds=>match ds with
 |[.lst xs]=>some (.lst xs)
 |[.tup xs]=>some (.lst xs)
 |_=>none
noncomputable def Xv:List D->Option (List Bool)
 |[]=>some []
 |.bl b::r=>(Xv r).map (b:: ·)
 |_=>none
noncomputable def ah0:GL:=fun ds=>match ds with
 |[.lst xs]=>(Xv xs).map fun bs=>.bl (bs.all id)
 |_=>none
noncomputable def av6:GL:=fun ds=>match ds with
 |[.lst xs]=>(Xv xs).map fun bs=>.bl (bs.any id)
 |_=>none
theorem vm {K:PySem.W.Frag}{F:Hp}{α:List Addr}:∀{ds:List D}{vs:List V}{bs:List Bool},Reps K F α ds vs->Xv ds=some bs->vs=bs.map V.bl
 |[],vs,bs,h,e=>by
  cases e
  have:=h.length
  cases vs with
  |nil=>rfl
  |cons _ _=>simp at this
 |d::ds,vs,bs,h,e=>by
  unfold Reps at h
  obtain⟨v,vr,rfl,h1,h2⟩:=h
  cases d with
  |bl b =>
   simp only[Xv,Option.map_eq_some_iff] at e
   obtain⟨br,e1,rfl⟩:=e
   unfold Rep at h1
   rw[h1,vm h2 e1]
   rfl
  |_=>cases e
theorem v0:∀{bs:List Bool}{us:List Value},J8 (bs.map V.bl) us->us=bs.map Value.bool
 |[],us,h=>by cases h;rfl
 |b::bs,us,h=>by
  cases h with
  |cons r rr =>
   have r:_=Value.bool b:=r
   rw[r,v0 rr]
   rfl
theorem aa5 (bs:List Bool):((List.range bs.length).all fun i=>(bs[i]?).getD true)=bs.all id:=by
 induction bs with
 |nil=>rfl
 |cons b r ih=>rw[List.length_cons,List.range_succ_eq_map,List.all_cons,List.all_map,List.all_cons,←ih];rfl
theorem aa4 (bs:List Bool):((List.range bs.length).any fun i=>(bs[i]?).getD false)=bs.any id:=by
 induction bs with
 |nil=>rfl
 |cons b r ih=>rw[List.length_cons,List.range_succ_eq_map,List.any_cons,List.any_map,List.any_cons,←ih];rfl
theorem Ku {h h':Heap}{o:Obj}(hk:∀b x,b∉[h.objs.size]->(h.push o).get? b=some x->h'.get? b=some x) (b:Addr) (x:Obj) (e:h.get? b=some x):h'.get? b=some x:=by
 refine hk b x (fun z=>?_) (Heap.get?_push_of_some _ e)
 have z2:=List.mem_singleton.mp z
 have z3:=Heap.lt_size e
 rw[z2] at z3
 exact absurd z3 (Nat.lt_irrefl _)
theorem ac (hc:X.calm=true):ze X (.builtin "all") (fun xs H Q=>∃(p:Addr) (bs:List Bool),xs=[.ref p]/\SqL X.K H p (bs.map V.bl)/\Q (.bl (bs.all id)) H):=by
 intro pins s σ H xs us Q I r h
 obtain⟨p,bs,rfl,hq,q⟩:=h
 obtain⟨u,rfl,rx⟩:=we r
 cases rx
 obtain⟨its,r',pl,hz⟩:=I.list hq
 obtain rfl:=v0 r'
 have hl:=pl.isList
 have hlt:p<s.heap.objs.size:=by obtain⟨_,e,_⟩:=hl;exact Heap.lt_size e
 refine call_all_walk (wpAny_pyIter_list hl ⟨_,[_,p],[_],_,_,_,fun i=>(bs[i]?).getD true,rfl,Walks.list (A:=X.A.in1) (I.ok.hd hc) _ p (Nat.ne_of_lt hlt) _,⟨⟨_,Heap.get?_push_size _ rfl,rfl,rfl⟩,hl.push _⟩,?_,?_⟩)
 ·intro i v s' Q' E' hP hQ
  simp only[List.getElem?_toArray,List.getElem?_map,Option.map_eq_some_iff] at hP
  obtain⟨b,e,rfl⟩:=hP
  simp only[e,Option.getD_some] at hQ
  exact wpAny_truthy_bool hQ
 ·intro h' tk hk
  rw[List.size_toArray,List.length_map,aa5]
  exact⟨.bl _,H,I.kept (t':=tk) (Ku hk),rfl,q⟩
theorem ae (hc:X.calm=true):ze X (.builtin "any") (fun xs H Q=>∃(p:Addr) (bs:List Bool),xs=[.ref p]/\SqL X.K H p (bs.map V.bl)/\Q (.bl (bs.any id)) H):=by
 intro pins s σ H xs us Q I r h
 obtain⟨p,bs,rfl,hq,q⟩:=h
 obtain⟨u,rfl,rx⟩:=we r
 cases rx
 obtain⟨its,r',pl,hz⟩:=I.list hq
 obtain rfl:=v0 r'
 have hl:=pl.isList
 have hlt:p<s.heap.objs.size:=by obtain⟨_,e,_⟩:=hl;exact Heap.lt_size e
 refine call_any_walk (wpAny_pyIter_list hl ⟨_,[_,p],[_],_,_,_,fun i=>(bs[i]?).getD false,rfl,Walks.list (A:=X.A.in1) (I.ok.hd hc) _ p (Nat.ne_of_lt hlt) _,⟨⟨_,Heap.get?_push_size _ rfl,rfl,rfl⟩,hl.push _⟩,?_,?_⟩)
 ·intro i v s' Q' E' hP hQ
  simp only[List.getElem?_toArray,List.getElem?_map,Option.map_eq_some_iff] at hP
  obtain⟨b,e,rfl⟩:=hP
  simp only[e,Option.getD_some] at hQ
  exact wpAny_truthy_bool hQ
 ·intro h' tk hk
  rw[List.size_toArray,List.length_map,aa4]
  exact⟨.bl _,H,I.kept (t':=tk) (Ku hk),rfl,q⟩
theorem ax0 (hc:X.calm=true):W7 X (.builtin "all") ah0:=by
 refine⟨_,ac hc,fun Z α F H μ ds c vs Q R hp hg k=>?_⟩
 match ds,hg with
 |[.lst xs],hg =>
  obtain⟨v,r,rfl,⟨q,us,rfl,hs,hr⟩,hq⟩:=hp
  have hq:r=[]:=hq
  subst hq
  simp only[ah0,Option.map_eq_some_iff] at hg
  obtain⟨bs,e,rfl⟩:=hg
  exact⟨q,bs,rfl,by rw[←vm hr e];exact hs,k _ F H R (ja.refl _) (uh _)⟩
theorem aw9 (hc:X.calm=true):W7 X (.builtin "any") av6:=by
 refine⟨_,ae hc,fun Z α F H μ ds c vs Q R hp hg k=>?_⟩
 match ds,hg with
 |[.lst xs],hg =>
  obtain⟨v,r,rfl,⟨q,us,rfl,hs,hr⟩,hq⟩:=hp
  have hq:r=[]:=hq
  subst hq
  simp only[av6,Option.map_eq_some_iff] at hg
  obtain⟨bs,e,rfl⟩:=hg
  exact⟨q,bs,rfl,by rw[←vm hr e];exact hs,k _ F H R (ja.refl _) (uh _)⟩
end
section
variable {X:Cx}{EX:EXT}{e a b c f:Expr}{pos:Pos}{m ma mb mc:MX}{es:List Expr}
noncomputable def qm (w:World) (K:PySem.W.Frag) (mg:Str->Option Value) (x:Str) (ks:List DK) (ds:List D):Prop :=
 ∃p us vs,mg x=some (.ref p)/\(p==sysModules)=false/\(∀(P:Program) (h:Heap),K.In h->h.DictOf (J0 P w) p us)/\KV ((ks.map dk).zip vs) us/\ks.length=ds.length/\∀F α,Reps K F α ds vs
variable {x:Str}{ks:List DK}{ds:List D}
theorem xl {p:Pos}(c:qm X.w X.K X.mg x ks ds) (hg:Gl X x) (hb:ME X EX b mb) (hs:ai7 b) (hd:(x==("__debug__":Str))=false:=by decide):ME X EX (.Subscript (.Name x p) b pos) (j0 y7 (mC (.dic ks ds)) mb):=by
 obtain⟨q,us,vs,h1,h2,h3,h4,h5,h6⟩:=c
 obtain⟨tb,pb,sb⟩:=hb
 refine⟨fun σ H Q=>tb σ H fun y H1=>∃k v,y=kV k/\Yq ((ks.map dk).zip vs) k=some v/\Q v H1,fun pins s σ H Q I h=>?_,fun Z α F H σ ρ μ Q R g=>?_⟩
 ·refine C3 PySem.F.slot_dict_getitem.lookup hs (y4 I hg h1 (thn (pb pins s σ H _ I h) fun iv s2 ⟨y,H2,I2,ry,k,v,ey,hv,q2⟩=>?_) hd)
  have dd:=h3 X.prog _ I2.kIn
  refine⟨dd.typeIs,?_⟩
  subst ey
  obtain⟨w',hw,rw'⟩:=Zi.some_of (v:=v) (o:=valueAt us k) (by rw[←hv];exact h4.val k)
  exact wpAny_getItem_of (qx ry) dd.mapOf hw ⟨v,H2,I2.tok _,rw',q2⟩
 ·refine sb Z α F H σ ρ μ _ R (GE.step (G:=GE X.K EX Z α F Q) (show GE X.K EX Z α F Q ((mb ρ μ).bind fun d μ1=>ofO μ1 (y7 (deref μ1 (.dic ks ds)) (deref μ1 d))) from g) (fun _ _ h=>h) (fun h=>h) fun d μ1 v α1 F1 H1 R1 e1 p1 g1=>?_)
  simp only[deref_dic,y7] at g1
  cases hk:kl (deref μ1 d) with
  |none=>rw[hk] at g1;exact g1.elim
  |some kk =>
   rw[hk] at g1
   have hy:=fy (R1.pk p1) hk
   rcases q8 (k:=kk) (h6 F1 α1) h5 with⟨d',v',l1,l2,l3⟩|⟨l1,l2⟩
   ·have g1:GE X.K EX Z α F Q (ofO μ1 (yi ks ds kk)):=g1
    rw[l1] at g1
    exact⟨_,v',hy,l2,g1 v' α1 F1 H1 R1 e1 l3⟩
   ·have g1:GE X.K EX Z α F Q (ofO μ1 (yi ks ds kk)):=g1
    rw[l1] at g1
    exact g1.elim
structure Cb (X:Cx) (N G:List Str):Prop where
 hN:X.N=N
 nd:N.Nodup
 vis:∀x∈N,Vis X.env.scope x/\(x==("__debug__":Str))=false/\(x==("__classdict__":Str))=false
 gl:∀x∈G,Gl X x
 calm:X.calm=true
 un:X.A.units+200<cLine
 kn:X.kn=none
end
section
variable {X:Cx}{EX:EXT}{N G:List Str}
theorem Cb.at (C:Cb X N G) {i:Nat}{x:Str}(h:N[i]? =some x):X.N[i]? =some x:=by rw[C.hN];exact h
theorem Cb.ndX (C:Cb X N G):X.nd:=⟨by rw[C.hN];exact C.nd,C.kn⟩
theorem Cb.g (C:Cb X N G) (j:Nat) {x:Str}(h:G[j]? =some x):Gl X x:=C.gl x (uq h)
theorem svb (C:Cb X N G) (i:Nat) {x:Str}{pos:Pos}(h:N[i]? =some x):ME X EX (.Name x pos) (mVar i) :=
 Dh (C.at h) (C.vis x (uq h)).1 (C.vis x (uq h)).2.1 (C.vis x (uq h)).2.2
theorem stb (C:Cb X N G) (i:Nat) {x:Str}{pos:Pos}(h:N[i]? =some x) (hl:X.env.scope.names.lookup x=some .local):MTg X (.Name x pos) (gN i):=Cn C.ndX (C.at h) (.inl hl) (.inr hl)
theorem Qx {env:Env}{scope:Scope}{x:Str}{k:NameKind}(hk:k≠.free) (h:scope.names.lookup x=some k):(relabel scope env).names.lookup x=some k:=by
 unfold relabel
 generalize scope.names=l at h
 simp only
 induction l with
 |nil=>cases h
 |cons p r ih =>
  obtain⟨n,q⟩:=p
  rw[List.lookup_cons] at h
  simp only[List.map_cons]
  by_cases e:(x==n)=true
  ·rw[e] at h
   cases h
   rw[if_neg (by simp[hk]),List.lookup_cons,e]
  ·have e':(x==n)=false:=by simpa using e
   rw[e'] at h
   have:=ih h
   split
   ·rw[List.lookup_cons,e'];exact this
   ·rw[List.lookup_cons,e'];exact this
noncomputable def Eh (sc:Scope) (T caps G:List Str):Bool:=T.all (fun x=>sc.names.lookup x==some .local&&!(x==("__debug__":Str))&&!(x==("__classdict__":Str)))&&caps.all (fun x=>sc.names.lookup x==some .free&&!(x==("__debug__":Str))&&!(x==("__classdict__":Str)))&&G.all fun x=>sc.names.lookup x==some .globalImplicit
noncomputable def Kg (sc out:Scope):Bool:=sc.kind==.function&&sc.names.all fun y=>(match y.2 with
 |.cell=>false
 |.local=>sc.names.lookup y.1==some .local
 |.free=>out.names.lookup y.1==some .cell||out.names.lookup y.1==some .free
 | _=>true)
theorem Yz {scope:Scope}{env:Env}(h:Kg scope env.scope=true):CompScope scope env:=by
 unfold Kg at h
 rw[Bool.and_eq_true] at h
 have hk:=h.1
 have ha:=List.all_eq_true.mp h.2
 refine⟨by simpa using hk,fun y hy e=>?_,fun y hy e=>?_,fun y hy e=>?_⟩
 ·have:=ha y hy;rw[e] at this;cases this
 ·have:=ha y hy;rw[e] at this;simpa using this
 ·have:=ha y hy
  rw[e] at this
  simpa[Env.kindOf] using this
noncomputable def am6 (sc:Scope) (N caps:List Str) (ix:List Nat):Bool:=ix.length==caps.length&&(caps.zip ix).all fun p=>N[p.2]? == some p.1&&sc.names.lookup p.1==some .free
theorem Wi {scope:Scope}{T caps:List Str}{ix:List Nat}(hN:X.N=N) (h:am6 scope N caps ix=true):Caps X scope T caps ix:=by
 unfold am6 at h
 rw[Bool.and_eq_true] at h
 refine⟨by simpa using h.1,fun j x i e1 e2=>?_⟩
 have hm:(x,i)∈caps.zip ix:=by
  refine List.mem_of_getElem? (i:=j) ?_
  rw[List.getElem?_zip_eq_some]
  exact⟨e1,e2⟩
 have:=List.all_eq_true.mp h.2 (x,i) hm
 simp only[Bool.and_eq_true,beq_iff_eq] at this
 rw[hN]
 exact this
theorem bd {scope:Scope}{T caps:List Str}{C:Addr}{s:Shared}{H:Hp}{ex:List Addr}(hc:X.calm=true) (hu:X.A.units+200<cLine) (nd:(T++caps).Nodup) (h:Eh scope T caps G=true):Cb (yd X (T++caps) scope C s H ex) (T++caps) G:=by
 unfold Eh at h
 rw[Bool.and_eq_true,Bool.and_eq_true] at h
 refine⟨rfl,nd,fun x hx=>?_,fun x hx=>?_,hc,hu,rfl⟩
 ·rcases List.mem_append.mp hx with hx|hx
  ·have:=List.all_eq_true.mp h.1.1 x hx
   simp only[Bool.and_eq_true,beq_iff_eq,Bool.not_eq_true'] at this
   exact⟨.inl (Qx (by decide) this.1.1),this.1.2,this.2⟩
  ·have:=List.all_eq_true.mp h.1.2 x hx
   simp only[Bool.and_eq_true,beq_iff_eq,Bool.not_eq_true'] at this
   exact⟨.inr (xv this.1.1),this.1.2,this.2⟩
 ·have:=List.all_eq_true.mp h.2 x hx
  exact Qx (by decide) (by simpa using this)
theorem blk_loc {scope:Scope}{env:Env}{T caps:List Str}(h:Eh scope T caps G=true) {j:Nat}{x:Str}(e:T[j]? =some x):(relabel scope env).names.lookup x=some .local:=by
 unfold Eh at h
 rw[Bool.and_eq_true,Bool.and_eq_true] at h
 have:=List.all_eq_true.mp h.1.1 x (uq e)
 simp only[Bool.and_eq_true,beq_iff_eq,Bool.not_eq_true'] at this
 exact Qx (by decide) this.1.1
theorem sac (C:Ct X N G) (i:Nat) {x:Str}{pos pos' spos:Pos}{scope:Scope}{T caps:List Str}{ix:List Nat}{tg iter:Expr}{ifs:List Expr}{elt:Expr}{g:MG}{t:MB}{m:MX}{mi:MIt}(h:N[i]? =some x) (cs:CompScope scope X.env) (cp:Caps X scope T caps ix) (hcalm:X.calm=true) (hi:MI X EX tg iter mi)
  (hb:Blk X scope (T++caps) tg ifs elt g t m) (hsw:swapsWith (.ListComp elt [⟨tg,iter,ifs,0⟩] scope pos) (some (.Name x pos')) spos.line X.env=pure true:=by rfl) (hs:∀x,foldedSetIterable iter X.env x=pure x:=by intro _;rfl) (hk:X.kn=none:=by rfl) :
  MS X EX (.Assign [.Name x pos'] (.ListComp elt [⟨tg,iter,ifs,0⟩] scope pos) spos) (jr i (Ul T.length ix g mi t m)) :=
 ae7 ⟨C.ndX,hk⟩ (C.at h) (C.loc x (uq h)).1 (.inl (C.fn x)) cs cp hcalm hi hb hsw hs
end
variable {ρ:En}{μ μ1 μ2:Mu}{m ma mb mc:MX}{ms:MAs}{t u:MB}{n a b r:MSt}{d x y z:D}{ds:List D}{k:Bool}{φ:Fn}{g:G2}{o:Out}
theorem v_var (i:Nat) (h:ρ[i]? =some (some d)):mVar i ρ μ=.ok d μ:=by unfold mVar;rw[h]
theorem v_bin (ha:ma ρ μ=.ok x μ1) (hb:mb ρ μ1=.ok y μ2) (hg:g (deref μ2 x) (deref μ2 y)=some z):j0 g ma mb ρ μ=.ok z μ2:=by unfold j0;rw[ha,bind_ok,hb,bind_ok,hg];rfl
theorem v_nil:mNil ρ μ=.ok [] μ:=rfl
theorem v_cons (ha:m ρ μ=.ok d μ1) (hb:ms ρ μ1=.ok ds μ2):mCons m ms ρ μ=.ok (d::ds) μ2:=by rw[wp,ha,bind_ok,Wj,hb,bind_ok,ah5]
theorem v_tup (h:ms ρ μ=.ok ds μ1):Jo ms ρ μ=.ok (.tup ds) μ1:=by unfold Jo;rw[h];rfl
theorem v_lst (h:ms ρ μ=.ok ds μ1):jj ms ρ μ=.ok (.lst ds) μ1:=by unfold jj;rw[h];rfl
theorem v_call (h:ms ρ μ=.ok ds μ1) (hf:φ ds μ1=.ok d μ2):j9 φ ms ρ μ=.ok d μ2:=by unfold j9;rw[h,bind_ok,hf];rfl
theorem v_callB {g:GL}(h:ms ρ μ=.ok ds μ1) (hf:g (ds.map (deref μ1))=some d):jl g ms ρ μ=.ok d μ1:=by unfold jl;rw[h,bind_ok,hf];rfl
theorem v_test (h:m ρ μ=.ok (.bl k) μ1):j8 m ρ μ=.ok k μ1:=by unfold j8;rw[h];rfl
theorem Yp (h:m ρ μ=.ok d μ1) (ht:D3 (deref μ1 d)=some k):u7 m ρ μ=.ok k μ1:=by unfold u7;rw[h,bind_ok,ht];rfl
theorem cg (h:t ρ μ=.ok k μ1):ko t ρ μ=.ok (!k) μ1:=by unfold ko;rw[h];rfl
theorem v_andT (h:t ρ μ=.ok true μ1):Yk t u ρ μ=u ρ μ1:=by unfold Yk;rw[h];rfl
theorem v_andF (h:t ρ μ=.ok false μ1):Yk t u ρ μ=.ok false μ1:=by unfold Yk;rw[h];rfl
theorem v_orT (h:t ρ μ=.ok true μ1):mOr t u ρ μ=.ok true μ1:=by unfold mOr;rw[h];rfl
theorem v_orF (h:t ρ μ=.ok false μ1):mOr t u ρ μ=u ρ μ1:=by unfold mOr;rw[h];rfl
theorem v_andVT (h:ma ρ μ=.ok (.bl true) μ1):Zs ma mb ρ μ=mb ρ μ1:=by unfold Zs;rw[h];rfl
theorem a94 (h:ma ρ μ=.ok (.bl false) μ1):Zs ma mb ρ μ=.ok (.bl false) μ1:=by unfold Zs;rw[h];rfl
theorem v_ifT (h:t ρ μ=.ok true μ1):mIf t ma mb ρ μ=ma ρ μ1:=by unfold mIf;rw[h];rfl
theorem v5 (h:t ρ μ=.ok false μ1):mIf t ma mb ρ μ=mb ρ μ1:=by unfold mIf;rw[h];rfl
theorem v_ret (h:m ρ μ=.ok d μ1):jh m ρ μ=.ok (.rt d) μ1:=by unfold jh;rw[h];rfl
theorem v_set (i:Nat) (h:m ρ μ=.ok d μ1):j7 (jr i m) r ρ μ=r (ρ.set i (some d)) μ1:=by unfold j7 jr;rw[h];rfl
theorem v_iteT (h:t ρ μ=.ok true μ1):Js t a b ρ μ=a ρ μ1:=by unfold Js;rw[h];rfl
theorem v_iteF (h:t ρ μ=.ok false μ1):Js t a b ρ μ=b ρ μ1:=by unfold Js;rw[h];rfl
theorem v_seqN {ρ1:En}(h:n ρ μ=.ok (.nx ρ1) μ1):j7 n r ρ μ=r ρ1 μ1:=by unfold j7;rw[h];rfl
theorem v_seqR (h:n ρ μ=.ok (.rt d) μ1):j7 n r ρ μ=.ok (.rt d) μ1:=by unfold j7;rw[h];rfl
theorem v_skip (h:t ρ μ=.ok false μ1):j7 (Js t a jf) r ρ μ=r ρ μ1:=v_seqN (v_iteF h)
theorem v_take (h:t ρ μ=.ok true μ1) (hm:m ρ μ1=.ok d μ2):j7 (Js t (jh m) b) r ρ μ=.ok (.rt d) μ2:=v_seqR ((v_iteT h).trans (v_ret hm))
theorem u3 (j:Nat) (h:n (ds.map some++List.replicate j none) μ=.ok (.rt d) μ1):fnOf j n ds μ=.ok d μ1:=by rw[c8,h];rfl
theorem D0 (i:Nat) {ρ1:En}(h:n (ρ.set i (some d)) μ=.ok (.nx ρ1) μ1):y8 (gN i) n (d::ds) ρ μ=y8 (gN i) n ds ρ1 μ1:=by rw[Kk,h];rfl
theorem ao0 (i:Nat) (h:n (ρ.set i (some d)) μ=.ok (.rt x) μ1):y8 (gN i) n (d::ds) ρ μ=.ok (.rt x) μ1:=by rw[Kk,h];rfl
theorem gr {L:List D}{i:Int}{n:Nat}(h:ms ρ μ=.ok L μ) (hi:m ρ μ=.ok (.int i) μ) (hl:L.length=n) (h0:0<n):∃d∈L,j0 je (jj ms) (j0 Jl m (mC (.int n))) ρ μ=.ok d μ:=by
 have h1:j0 Jl m (mC (.int n)) ρ μ=.ok (.int (i % n)) μ:=v_bin hi rfl (W5 i n (by omega))
 have hk:(i % n).toNat<L.length:=by
  have a1:=Int.emod_nonneg i (b:=(n:Int)) (by omega)
  have a2:=Int.emod_lt_of_pos i (b:=(n:Int)) (by omega)
  omega
 refine⟨L[(i % n).toNat],List.getElem_mem hk,v_bin (v_lst h) h1 ?_⟩
 show atI L (i % n)=_
 rw[Yy (Int.emod_nonneg _ (by omega)),List.getElem?_eq_getElem hk]
end M
namespace M
open PySem PySem.Spec PyProof.Rows L2
theorem Vl {β:Type}{l:List β}{x y:β}{k:Nat}(h:(l++[x])[k]? =some y):l[k]? =some y\/(k=l.length/\y=x):=by
 by_cases hk:k<l.length
 ·rw[List.getElem?_append_left hk] at h;exact .inl h
 ·rw[List.getElem?_append_right (by omega)] at h
  have:k-l.length=0:=by
   cases e:k-l.length with
   |zero=>rfl
   |succ n=>rw[e] at h;simp at h
  rw[this] at h
  simp at h
  exact .inr ⟨by omega,h.symm⟩
theorem Ur (α:List Addr) (F:Hp) (p:Addr):Ext α F (α++[p]) F:=⟨ja.refl F,fun k a h=>by
 have:k<α.length:=by
  by_cases hk:k<α.length
  ·exact hk
  ·rw[List.getElem?_eq_none (by omega)] at h;cases h
 rw[List.getElem?_append_left this];exact h⟩
section
variable {K:PySem.W.Frag}{Z:ZS}{F H:Hp}{α:List Addr}{μ:Mu}{p:Addr}{o o':HO}{c:Cell}
theorem ya.mono {α':List Addr}{H':Hp}{a:Addr}(h:ya K α F H a c) (e:Ext α F α' F) (hh:c≠.dead->H' a=H a):ya K α' F H' a c:=by
 exact h.go e (fun _=>rfl) hh
theorem RH.unholdC (r:RH K (ZS.up Z p o) α F H μ) (hz:Z.z p=none) (hok:ya K (α++[p]) F (upd H p o') p c):RH K Z (α++[p]) F (upd H p o') (μ++[c]):=by
 have fp:F p=none:=r.zf p o Ud
 have nc:∀(k:Nat) (a:Addr) (c:Cell),α[k]? =some a->μ[k]? =some c->c≠.dead->a≠p:=fun k a c ha hc hd z=>by
  have:=r.zc k a c ha hc hd
  rw[z,Ud] at this
  cases this
 have hlen:=r.len
 have both:∀(k:Nat) (a:Addr) (c':Cell),(α++[p])[k]? =some a->(μ++[c])[k]? =some c'->(α[k]? =some a/\μ[k]? =some c')\/(k=α.length/\a=p/\c'=c):=fun k a c' ha hc=>by
  rcases Vl ha with h1|⟨h1,h2⟩
  ·rcases Vl hc with h3|⟨h3,h4⟩
   ·exact .inl ⟨h1,h3⟩
   ·have:k<α.length:=(List.getElem?_eq_some_iff.mp h1).1
    omega
  ·rcases Vl hc with h3|⟨h3,h4⟩
   ·have:k<μ.length:=(List.getElem?_eq_some_iff.mp h3).1
    omega
   ·exact .inr ⟨h1,h2,h4⟩
 refine⟨fun b u e=>?_,by simp[hlen],fun k a c' ha hc=>?_,fun b u e=>?_,fun b u e=>?_,fun k a c' ha hc hd=>?_,fun j k a c1 c2 hj hk cj ck d1 d2=>?_,r.ext.trans (Ur α F p)⟩
 ·rw[jz (fun z=>by rw[z,fp] at e;cases e)];exact r.sub b u e
 ·rcases both k a c' ha hc with⟨h1,h2⟩|⟨h1,h2,h3⟩
  ·exact(r.cell k a c' h1 h2).mono (Ur α F p) fun hd=>by rw[jz (nc k a c' h1 h2 hd)]
  ·rw[h2,h3];exact hok
 ·have hb:b≠p:=fun z=>by rw[z,hz] at e;cases e
  rw[jz hb]
  exact r.zs b u (by rw[yy hb];exact e)
 ·have hb:b≠p:=fun z=>by rw[z,hz] at e;cases e
  exact r.zf b u (by rw[yy hb];exact e)
 ·rcases both k a c' ha hc with⟨h1,h2⟩|⟨h1,h2,h3⟩
  ·have:=r.zc k a c' h1 h2 hd
   rw[yy (nc k a c' h1 h2 hd)] at this
   exact this
  ·rw[h2];exact hz
 ·rcases both j a c1 hj cj with⟨h1,h2⟩|⟨h1,h2,h3⟩
  ·rcases both k a c2 hk ck with⟨g1,g2⟩|⟨g1,g2,g3⟩
   ·exact r.dis j k a c1 c2 h1 g1 h2 g2 d1 d2
   ·exact absurd g2 (nc j a c1 h1 h2 d1)
  ·rcases both k a c2 hk ck with⟨g1,g2⟩|⟨g1,g2,g3⟩
   ·exact absurd h2 (nc k a c2 g1 g2 d2)
   ·omega
theorem x3 (H:Hp) (p:Addr) (o o':HO):upd (upd H p o) p o'=upd H p o':=by
 funext b
 by_cases hb:b=p
 ·subst hb;rw[jt,jt]
 ·rw[jz hb,jz hb,jz hb]
theorem RH.newCell (r:RH K Z α F H μ) (hp:H p=none) (hok:ya K (α++[p]) F (upd H p o') p c):RH K Z (α++[p]) F (upd H p o') (μ++[c]):=by
 have hz:Z.z p=none:=by
  cases e:Z.z p with
  |none=>rfl
  |some u=>rw[r.zs _ _ e] at hp;cases hp
 have:=RH.unholdC (o:=o') (o':=o') (r.hold o' hp) hz (by rw[x3];exact hok)
 rw[x3] at this
 exact this
theorem a70 (r:RH K Z α F H μ) (hp:H p=none):F p=none:=by
 cases e:F p with
 |none=>rfl
 |some u=>rw[r.sub _ _ e] at hp;cases hp
theorem ae0 {ds:List D}{vs:List V}(r:RH K Z α F H μ) (hr:Reps K F α ds vs) (hp:H p=none) :
  RH K Z (α++[p]) F (upd H p (.lst vs)) (μ++[.lst ds])/\Ext α F (α++[p]) F/\Rep K F (α++[p]) (.ref μ.length) (.ref p):=by
 refine⟨r.newCell hp ⟨a70 r hp,vs,jt,hr.mono (Ur α F p)⟩,Ur α F p,?_⟩
 unfold Rep
 exact⟨p,by rw[←r.len,List.getElem?_append_right (Nat.le_refl _)];simp,rfl⟩
theorem RH.setCell {k:Nat}{a:Addr}{c0:Cell}(r:RH K Z α F H μ) (ha:α[k]? =some a) (hc:μ[k]? =some c0) (hd:c0≠.dead) (hok:ya K α F (upd H a o) a c):RH K Z α F (upd H a o) (μ.set k c):=by
 have hF:F a=none:=by
  exact((r.cell k a c0 ha hc).live hd).1
 have hZ:Z.z a=none:=r.zc k a c0 ha hc hd
 have hk:k<μ.length:=(List.getElem?_eq_some_iff.mp hc).1
 have at':∀(j:Nat) (c':Cell),(μ.set k c)[j]? =some c'->(j=k/\c'=c)\/(j≠k/\μ[j]? =some c'):=fun j c' h=>by
  by_cases e:j=k
  ·subst e;rw[List.getElem?_set_self hk] at h;exact .inl ⟨rfl,(Option.some.inj h).symm⟩
  ·rw[List.getElem?_set_ne (Ne.symm e)] at h;exact .inr ⟨e,h⟩
 refine⟨fun b u e=>?_,by simp[r.len],fun j b c' hj hc'=>?_,fun b u e=>?_,r.zf,fun j b c' hj hc' d'=>?_,fun i j b c1 c2 hi hj ci cj d1 d2=>?_,r.ext⟩
 ·rw[jz (fun z=>by rw[z,hF] at e;cases e)];exact r.sub b u e
 ·rcases at' j c' hc' with⟨e1,e2⟩|⟨e1,e2⟩
  ·subst e1;rw[ha] at hj;cases hj;rw[e2];exact hok
  ·refine(r.cell j b c' hj e2).mono (Ext.refl _ _) fun d'=>?_
   rw[jz (fun z=>e1 (r.dis j k a c' c0 (by rw[←z];exact hj) ha e2 hc d' hd))]
 ·rw[jz (fun z=>by rw[z,hZ] at e;cases e)];exact r.zs b u e
 ·rcases at' j c' hc' with⟨e1,e2⟩|⟨e1,e2⟩
  ·subst e1;rw[ha] at hj;cases hj;exact hZ
  ·exact r.zc j b c' hj e2 d'
 ·rcases at' i c1 ci with⟨e1,e2⟩|⟨e1,e2⟩
  ·rcases at' j c2 cj with⟨g1,g2⟩|⟨g1,g2⟩
   ·omega
   ·subst e1
    exact r.dis i j b c0 c2 hi hj hc g2 hd d2
  ·rcases at' j c2 cj with⟨g1,g2⟩|⟨g1,g2⟩
   ·subst g1
    exact r.dis i j b c1 c0 hi hj e2 hc d1 hd
   ·exact r.dis i j b c1 c2 hi hj e2 g2 d1 d2
end
noncomputable def a47 (ms:MAs):MX:=fun ρ μ=>(ms ρ μ).bind fun ds μ1=>.ok (.ref μ1.length) (μ1++[.lst ds])
section
variable {X:Cx}{EX:EXT}{e a b c:Expr}{pos:Pos}{m ma mb mc:MX}{es:List Expr}{ms:MAs}
theorem Ci (h:MA X EX es ms) (hl:es.length<=16777216:=by decide):ME X EX (.List es pos) (a47 ms):=by
 obtain⟨t,p,s,l⟩:=h
 refine⟨_,a12 p,fun Z α F H σ ρ μ Q R g=>?_⟩
 refine s Z α F H σ ρ μ _ R (GA.stepE (G:=GE X.K EX Z α F Q) g (fun _ _ h=>h) (fun h=>h) fun ds μ1 vs α1 F1 H1 hm R1 e1 p1 g1=>?_)
 refine⟨by rw[←p1.length,sizeLine_eq,l _ _ _ _ hm];exact hl,fun q hq=>?_⟩
 obtain⟨a1,a2,a3⟩:=ae0 R1 p1 hq
 exact g1 _ _ _ _ a1 (e1.trans a2) a3
end
noncomputable def a56:D->Bool
 |.lst _=>true
 |_=>false
noncomputable def ai3 (d y:D) (μ:Mu):Res D:=match d with
 |.ref k=>match μ[k]? with
  |some (.lst ds)=>if ds.length<16777216 then .ok .non (μ.set k (.lst (ds++[y]))) else .bad
  |_=>.bad
 |_=>.bad
noncomputable def Z7 (mo m:MX):MX:=fun ρ μ=>(mo ρ μ).bind fun d μ1=>if a56 (deref μ1 d)=true then(m ρ μ1).bind fun y μ2=>ai3 d y μ2 else .bad
section
variable {X:Cx}{EX:EXT}{e a b c o i:Expr}{pos pos':Pos}{m ma mb mc mo mi mv:MX}{es:List Expr}{ms:MAs}
theorem au4 {K:PySem.W.Frag}{Z:ZS}{F H:Hp}{α:List Addr}{μ:Mu}{k:Nat}{v:V}{ds:List D}(R:RH K Z α F H μ) (p:Rep K F α (.ref k) v) (h:μ[k]? =some (.lst ds)):∃a vs,v=.ref a/\α[k]? =some a/\H a=some (.lst vs)/\Reps K F α ds vs/\F a=none:=by
 unfold Rep at p
 obtain⟨a,ha,hv⟩:=p
 obtain⟨h1,vs,h2,h3⟩:=R.cell k a _ ha h
 exact⟨a,vs,hv,ha,h2,h3,h1⟩
theorem Kx {apos cpos:Pos}(ho:ME X EX o mo) (ha:MA X EX [a] ms) (hm:∀ρ μ,ms ρ μ=(m ρ μ).bind fun d μ1=>.ok [d] μ1)
  (hbase:attributeBase o "append" X.env (eval o X.env)=eval o X.env:=by rfl)
  (hfew:((backTo cpos (starEach [a] X.env)).all (fun x=> !x.1)&&(backToKw cpos (keywordEach [] X.env)).all (fun x=>x.1.isSome)
   && decide ([a].length+([]:List Keyword).length+(if([]:List Keyword).isEmpty then 0 else 1)<30))=true:=by rfl)
  (hline:(apos.endLine==cpos.line)=true:=by rfl) (hs:starEach [a] X.env=(false,eval a X.env)::starEach [] X.env:=by rfl) (hplain:(backTo cpos (starEach [] X.env)).any (·.1)=false:=by rfl) :
  ME X EX (.Call (.Attribute o "append" apos) [a] [] cpos) (Z7 mo m):=by
 obtain⟨to,po,so⟩:=ho
 obtain⟨ta,pa,sa,_⟩:=ha
 refine⟨_,ak5 PySem.F.plainAttrs_list PySem.F.slot_list_append PySem.F.type_list_append K9 po pa hbase hfew hline hs hplain,fun Z α F H σ ρ μ Q R g=>?_⟩
 refine so Z α F H σ ρ μ _ R (GE.step (G:=GE X.K EX Z α F Q) g (fun _ _ h=>h) (fun h=>h) fun d μ1 v α1 F1 H1 R1 e1 p1 g1=>?_)
 by_cases hd:a56 (deref μ1 d)=true
 ·rw[if_pos hd] at g1
  refine⟨?_,?_⟩
  ·have k1:=R1.pk p1
   cases hq:deref μ1 d with
   |lst xs =>
    rw[hq] at k1
    obtain⟨q,us,rfl,hsq,hr⟩:=k1
    exact .inl ⟨rfl,us,hsq⟩
   |_=>rw[hq] at hd;cases hd
  ·refine sa Z α1 F1 H1 σ ρ μ1 _ (R.to R1 e1) ?_
   rw[hm]
   cases hy:m ρ μ1 with
   |exc x μ2=>rw[hy] at g1;exact g1
   |bad=>rw[hy] at g1;exact g1
   |ok y μ2 =>
    rw[hy] at g1
    intro vs α2 F2 H2 R2 e2 p2
    unfold Reps at p2
    obtain⟨vy,r,rfl,p2,hr⟩:=p2
    have hr:r=[]:=hr
    subst hr
    have p1':=p1.mono e2
    have g1:GE X.K EX Z α F Q (ai3 d y μ2):=g1
    unfold ai3 at g1
    cases d with
    |ref k =>
     simp only at g1
     cases hc:μ2[k]? with
     |none=>rw[hc] at g1;exact g1.elim
     |some cc =>
      rw[hc] at g1
      cases cc with
      |lst ds =>
       simp only at g1
       split at g1
       ·rename_i hl
        obtain⟨q,us,rfl,hα,hH,hr,hF⟩:=au4 R2 p1' hc
        refine⟨q,us,vy,rfl,rfl,hH,by rw[←hr.length,sizeLine_eq];exact hl,?_⟩
        exact g1 .non α2 F2 _ (R2.setCell hα hc (by simp) ⟨hF,_,jt,hr.append (j5 p2 J5)⟩) (e1.trans e2) G4
       ·exact g1.elim
      |_=>exact g1.elim
    |_=>exact g1.elim
 ·rw[if_neg hd] at g1;exact g1.elim
end
section
variable {X:Cx}{EX:EXT}{a b:Expr}{pos p tpos:Pos}{ma mb:MX}{elts:List Expr}{x1:Nat}
end
section
variable {X:Cx}{EX:EXT}{e a b c:Expr}{pos pos2:Pos}{m ma mb mc:MX}{es:List Expr}{ms:MAs}
end
noncomputable def Xq (h:Heap) (e:Addr) (C:Value) (dx:Option Addr) (tr:Option Addr):Prop :=
 ∃vs sl,h.get? e=some ⟨C,dx,.fields vs,sl⟩/\1<vs.size/\match tr with
  |none=>vs[1]? =some .none
  |some T=>vs[1]? =some (.ref T)/\T≠e/\∃oT ts,h.get? T=some oT/\oT.data=.fields ts/\ts[3]? =some .none
structure Noted (fs:List Addr) (e:Addr) (tr:Option Addr) (h h':Heap):Prop where
 keep:∀b o,h.get? b=some o->b∉fs->b≠e->tr≠some b->h'.get? b=some o
 slot:∀b o,h.get? b=some o->b≠e->tr≠some b->∃sl,h'.get? b=some { o with slots:=sl}
section
variable {Md:Model}{A:Around}{E:Value->Shared->Prop}{s:Shared}{base:Heap}{env:Env}{outer:List Env}{L e:Addr}
theorem Ve {C:Value}{dx:Option Addr}{vs:Array Value}{sl:Array (Option Value)}{head:Value}{had:Bool}{Q:Unit->Shared->Prop}(hfr:A.frames=some (env::outer)) (hl:s.heap.FunFrames base (env::outer)) (hf:env.frame=some L)
  (he:s.heap.get? e=some ⟨C,dx,.fields vs,sl⟩) (hz:1<vs.size) (q:∀h' T,Xq h' e C dx (some T)->s.heap.objs.size<=T->Noted (frs (env::outer)) e none s.heap h'->Q () { s with heap:=h'}) :
  wpAny Md A (do let a ←frameOf env;let pl ←entryPlaceOf L had;let b ←EntryCells.newEntry head a .none (rawInt L) .none pl;setField (.ref e) 1 b) (fun _ s'=>wpAny Md A (setFlight (.ref e) none) Q E s') E s:=by
 have nf:e∉(env::outer).filterMap (·.frame):=fun hm=>by
  obtain⟨_,o,ho,hn⟩:=hl.mem hm
  rw[he] at ho
  cases ho
  exact hn vs rfl
 refine wpAny_bind (wpAny_frameOf_fun hfr hl hf fun h1 so=>wpAny_bind (wpAny_entryPlaceOf fun pl hpl=>?_))
 unfold EntryCells.newEntry newFields
 refine wpAny_bind (wpAny_newObj_type ?_ (hpl.sizeOk5 _ _ _ _ _))
 generalize hts:([head,Value.ref L,Value.none,rawInt L,Value.none]++if pl.isEmpty=true then List.replicate 6 Value.none else pl).toArray=ts
 have t3:3<ts.size:=by rw[←hts];simp only[List.size_toArray,List.length_append,List.length_cons,List.length_nil];omega
 have e1:h1.get? e=some ⟨C,dx,.fields vs,sl⟩:=(so.2.1 e nf).trans he
 have nT:h1.objs.size≠e:=Nat.ne_of_gt (Heap.lt_size e1)
 have e2:=Heap.get?_push_of_some (h:=h1) { cls:=.type "traceback",data:=.fields ts} e1
 refine wpAny_setField e2 rfl hz ?_
 have e3:((h1.push { cls:=.type "traceback",data:=.fields ts}).update e (Obj.mapFields (·.setIfInBounds 1 (.ref h1.objs.size)))).get? e=some ⟨C,dx,.fields (vs.setIfInBounds 1 (.ref h1.objs.size)),sl⟩:=Heap.get?_update_self _ e2 rfl
 have T3:((h1.push { cls:=.type "traceback",data:=.fields ts}).update e (Obj.mapFields (·.setIfInBounds 1 (.ref h1.objs.size)))).get? h1.objs.size=some { cls:=.type "traceback",data:=.fields ts} :=
  (Heap.get?_update_other _ _ (Ne.symm nT)).trans (Heap.get?_push_size h1 rfl)
 have v1:(vs.setIfInBounds 1 (Value.ref h1.objs.size))[1]? =some (.ref h1.objs.size):=by simp[hz]
 unfold setFlight
 refine wpAny_bind (wpAny_field e3 rfl v1 ?_)
 rw[if_pos (by simp)]
 refine wpAny_setField T3 rfl t3 (q _ h1.objs.size ?_ ?_ ?_)
 ·refine⟨_,sl,(Heap.get?_update_other _ _ nT).trans e3,by simpa using hz,v1,nT,_,_,Heap.get?_update_self _ T3 rfl,rfl,?_⟩
  simp[t3]
 ·exact Nat.le_of_eq so.1.symm
 ·have up:∀b o,h1.get? b=some o->b≠e->(((h1.push { cls:=.type "traceback",data:=.fields ts}).update e (Obj.mapFields (·.setIfInBounds 1 (.ref h1.objs.size)))).update h1.objs.size (Obj.mapFields (·.setIfInBounds 3 ((none:Option Addr).elim Value.none fun f=>rawInt f)))).get? b=some o:=fun b o hb hbe=>by
   rw[Heap.get?_update_other _ _ (Nat.ne_of_gt (Heap.lt_size hb)),Heap.get?_update_other _ _ (Ne.symm hbe)]
   exact Heap.get?_push_of_some _ hb
  refine⟨fun b o hb hn hbe _=>up b o ((so.2.1 b hn).trans hb) hbe,fun b o hb hbe _=>?_⟩
  obtain⟨sl',e'⟩:=so.2.2 b o hb
  exact⟨sl',up b _ e' hbe⟩
theorem av7 {C:Value}{dx tr:Option Addr}{Q:Unit->Shared->Prop}(hfr:A.frames=some (env::outer)) (hl:s.heap.FunFrames base (env::outer)) (hf:env.frame=some L) (x:Xq s.heap e C dx tr)
  (q:∀h' T,Xq h' e C dx (some T)->s.heap.objs.size<=T->Noted (frs (env::outer)) e tr s.heap h'->Q () { s with heap:=h'}) :
  wpAny Md A (noteFrame (.ref e) env) (fun _ s'=>wpAny Md A (setFlight (.ref e) none) Q E s') E s:=by
 obtain⟨vs,sl,he,hz,ht⟩:=x
 unfold noteFrame
 simp only[hf]
 cases tr with
 |none =>
  refine wpAny_bind (wpAny_field he rfl ht ?_)
  rw[if_neg (by decide)]
  exact Ve hfr hl hf he hz q
 |some T0 =>
  obtain⟨h1,hne,oT,ts,hT,hd,h3⟩:=ht
  refine wpAny_bind (wpAny_field he rfl h1 ?_)
  rw[if_pos (by simp)]
  refine wpAny_bind (wpAny_field hT hd h3 ?_)
  rw[if_neg (by simp[rawInt])]
  refine wpAny_bind (wpAny_setField hT hd (Array.getElem?_eq_some_iff.mp h3).1 ?_)
  have ot:∀b,b≠T0->(s.heap.update T0 (Obj.mapFields (·.setIfInBounds 3 Value.none))).get? b=s.heap.get? b:=fun b hb=>Heap.get?_update_other _ _ (Ne.symm hb)
  have nr:∀b o,s.heap.get? b=some o->(∀vs,o.data≠.fields vs)->b≠T0:=fun b o hb hn z=>by
   rw[z,hT] at hb
   cases hb
   exact hn ts hd
  refine Ve (s:={ s with heap:=s.heap.update T0 (Obj.mapFields (·.setIfInBounds 3 Value.none))}) hfr (hl.of_keeps fun b o hb hn=>⟨o,(ot b (nr b o hb hn)).trans hb,rfl⟩) hf ((ot e (Ne.symm hne)).trans he) hz fun h' T x' n' N=>q h' T x' ?_ ?_
  ·have n2:(s.heap.update T0 (Obj.mapFields (·.setIfInBounds 3 Value.none))).objs.size<=T:=n'
   rw[Heap.size_update] at n2
   exact n2
  ·exact⟨fun b o hb hn hbe hbt=>N.keep b o ((ot b fun z=>hbt (by rw[z])).trans hb) hn hbe (by simp),fun b o hb hbe hbt=>N.slot b o ((ot b fun z=>hbt (by rw[z])).trans hb) hbe (by simp)⟩
end
theorem Xq.p {h:Heap}{e:Addr}{C:Value}{dx tr:Option Addr}(x:Xq h e C dx tr):Uw e C dx h:=let⟨vs,sl,he,_⟩:=x;⟨vs,sl,he⟩
theorem c7 {P:Program}{w:World}{H:Hp}{h:Heap}{a:Addr}{C:Value}{dx:Option Addr}(x:Uw a C dx h):uw P w H h a (.ext (Uw a C dx)) :=
 ⟨x,let⟨_,_,e⟩:=x;⟨_,e⟩,fun _ _ ⟨vs,sl,e⟩ k=>⟨vs,sl,k _ e⟩⟩
section
variable {P:Program}{w:World}{H H0 H':Hp}{h h' h0:Heap}{a T L:Addr}{C:Value}{dx tr tr':Option Addr}{fs:List Addr}{env:Env}{outer:List Env}
theorem a9 (x:HOk P w H h) (ha:H a=some (.ext (Uw a C dx))) (ht:∀T,tr=some T->H T=none) (xo:Xq h' a C dx tr') (N:Noted fs a tr h h') (hf:∀b∈fs,H b=none):HOk P w H h':=fun b u e=>by
 by_cases hb:b=a
 ·subst hb
  rw[ha] at e
  cases e
  exact c7 xo.p
 ·refine(x b u e).stay (fun c v hc q=>?_) (fun _ q=>q) fun _ _ q=>q
  have hn:∃u',H c=some u'/\c≠a:=by
   rcases hc with rfl|hc
   ·exact⟨u,e,hb⟩
   ·exact⟨_,hc,fun z=>by rw[z,ha] at hc;cases hc⟩
  obtain⟨u',e',hca⟩:=hn
  exact N.keep c v q (fun z=>by rw[hf c z] at e';cases e') hca (fun z=>by rw[ht c z] at e';cases e')
theorem At {ex:List Addr}(u:Un (frs outer) ex H0 H' h0 h) (N:Noted (frs (env::outer)) a tr h h') (hL:env.frame=some L) (nL:h0.get? L=none) (na:h0.get? a=none) (nt:∀T,tr=some T->h0.get? T=none):Un (frs outer) ex H0 H' h0 h' where
 keep:=fun b o q n hc hx=>by
  refine N.keep b o (u.keep b o q n hc hx) (fun z=>?_) (fun z=>by rw[z,na] at q;cases q) (fun z=>by rw[nt b z] at q;cases q)
  unfold frs at z hc
  rw[List.filterMap_cons,hL] at z
  rcases List.mem_cons.mp z with z|z
  ·rw[z,nL] at q;cases q
  ·exact hc z
 slot:=fun b o q n hc hx=>by
  obtain⟨sl,e⟩:=u.slot b o q n hc hx
  obtain⟨sl',e'⟩:=N.slot b _ e (fun z=>by rw[z,na] at q;cases q) (fun z=>by rw[nt b z] at q;cases q)
  exact⟨sl',e'⟩
 free:=u.free
 there:=fun b o q hx=>by
  obtain⟨o',e⟩:=u.there b o q hx
  obtain⟨sl',e'⟩:=N.slot b _ e (fun z=>by rw[z,na] at q;cases q) (fun z=>by rw[nt b z] at q;cases q)
  exact⟨_,e'⟩
 tups:=u.tups
 frzs:=u.frzs
 tbls:=u.tbls
end
inductive CXRp (P:Program) (w:World) (outer:List Env) (H:Hp) (s:Shared) (E:XK) (e:Value) (s':Shared):Prop
 |mk (a:Addr) (C:Value) (dx:Option Addr) (T:Addr) (H':Hp):e=.ref a->s'.os=s.os->AllBare s'.gens->Un (frs outer) [] H H' s.heap s'.heap->HOk P w H' s'.heap->Xq s'.heap a C dx (some T)->H' a=some (.ext (Uw a C dx))->H' T=none->s.heap.objs.size<=a->s.heap.objs.size<=T->E e (some a) H'->CXRp P w outer H s E e s'
noncomputable abbrev CXR (P:Program) (w:World):CXT:=CXRp P w
section
variable {P:Program}{w:World}{K:PySem.W.Frag}{mg:Str->Option Value}{base:Heap}{N:List Str}{qual:Str}{sc:Scope}{f:Addr}{cdv:Value}{A:Around}{outer:List Env}{s:Shared}{H:Hp}{E:XK}
end
noncomputable abbrev XCs:=Nat->Str×Option Str
noncomputable def del (H:Hp) (a b:Addr):Hp:=fun c=>if c=a\/c=b then none else H c
noncomputable def XH (K:PySem.W.Frag) (c:Str×Option Str) (H:Hp) (a dx:Addr) (v:V):Prop:=match c.2 with
 |some nm=>H a=some (.ext (Uw a (.ref (cA K c.1)) (some dx)))/\H dx=some (.xd [(nm,v)])
 |none=>dx=a/\H a=some (.ext (Uw a (.ref (cA K c.1)) none))
noncomputable def exT (K:PySem.W.Frag) (xc:XCs) (E:XK):EXT where
 P:=fun Z x μ=>∀(a dx:Addr) (v:V) (α':List Addr) (F' H':Hp),RH K Z α' F' (del H' a dx) μ->Rep K F' α' x.d v->XH K (xc x.c) H' a dx v->E (.ref a) (some a) H'
 mono:=fun Z p o x μ hz h a dx v α' F' H' R=>h a dx v α' F' H' (R.drop hz)
noncomputable def ZS.at (Z:ZS) (α:List Addr) (F:Hp):ZS:=⟨Z.z,α,F⟩
theorem RH.rebase {K:PySem.W.Frag}{Z:ZS}{α:List Addr}{F H:Hp}{μ:Mu}(r:RH K Z α F H μ):RH K (Z.at α F) α F H μ:=⟨r.sub,r.len,r.cell,r.zs,r.zf,r.zc,r.dis,Ext.refl _ _⟩
theorem RH.back {K:PySem.W.Frag}{Z:ZS}{α α':List Addr}{F F' H':Hp}{μ:Mu}(r:RH K (Z.at α F) α' F' H' μ) (e:Ext Z.a0 Z.f0 α F):RH K Z α' F' H' μ:=⟨r.sub,r.len,r.cell,r.zs,r.zf,r.zc,r.dis,e.trans r.ext⟩
noncomputable def spX (K:PySem.W.Frag) (xc:XCs) (n:Nat) (φ:Fn):Sp:=fun vs H Q E=>∃Z α F ds μ,RH K Z α F H μ/\Reps K F α ds vs/\ds.length=n/\GE K (exT K xc E) (Z.at α F) α F Q (φ ds μ)
section
variable {P:Program}{w:World}{K:PySem.W.Frag}{mg:Str->Option Value}{base:Heap}{xc:XCs}
theorem a71 {x qual:Str}{st:Stmt}{f:Addr}{fd:FuncData}{N ps:List Str}{k j:Nat}{n:MSt}(F:Fun K x qual st f fd) (S:FnScope N ps (defScope st)) (hj:N.length-ps.length=j)
  (hb:∀(cdv:Value) (A:Around) (outer:List Env) (s:Shared) (H:Hp) (E:XK),Room k (A.deeper (envOfC qual (defScope st) s.heap.objs.size f cdv)) ->
   MSs (uv (CXR P w) P w K mg base N qual (defScope st) f cdv A outer s H E) (exT K xc E) (defBody st) n):FnOk P w K mg base (CXR P w) (k+1) f fd ps (spX K xc ps.length (fnOf j n)):=by
 obtain⟨oc,od,kV,doc,pm,an,cdv,ct,osl,rfl,lk,hcd⟩:=F.ex
 refine a72 lk hcd S (fun vs H Q E h=>?_) fun A outer s H vs Q E hr h=>?_
 ·obtain⟨Z,α,G,ds,μ,R,r,hl,_⟩:=h
  rw[←hl,r.length]
 ·obtain⟨Z,α,G,ds,μ,R,r,hl,g⟩:=h
  obtain⟨t,p,s'⟩:=hb cdv A outer s H E hr
  refine⟨t,p,s' (Z.at α G) α G H (start N vs) (ds.map some++List.replicate j none) μ _ (Fm N j (by rw[←r.length,hl];exact hj) R.rebase r) ?_⟩
  unfold fnOf fin at g
  cases e:n (ds.map some++List.replicate j none) μ with
  |exc x μ1=>rw[e] at g;exact g
  |bad=>rw[e] at g;exact g
  |ok o μ1 =>
   rw[e] at g
   cases o with
   |rt d=>exact g
   |nx ρ=>exact fun σ' α' F' H' R' e'=>g .non α' F' H' R'.hp e' G4
   |bk ρ=>exact g.elim
   |ct ρ=>exact g.elim
end
noncomputable def J9 (φ:Fn) (ms:MAs):MX:=fun ρ μ=>(ms ρ μ).bind φ
section
variable {X:Cx}{e a b c:Expr}{pos:Pos}{m ma mb mc:MX}{es rest:List Expr}{ms:MAs}{E:XK}{xc:XCs}
theorem wq {K:PySem.W.Frag}{Z:ZS}{α1:List Addr}{F1:Hp}{Q:VK}{α:List Addr}{F:Hp}{r:Res D}(e0:Ext Z.a0 Z.f0 α1 F1) (e1:Ext α F α1 F1) (h:GE K (exT K xc E) Z α F Q r):GE K (exT K xc E) (Z.at α1 F1) α1 F1 Q r:=by
 cases r with
 |ok d μ=>exact fun v α' F' H' R e' q=>h v α' F' H' (R.back e0) (e1.trans e') q
 |exc x μ=>exact fun a dx v α' F' H' R p h1=>h a dx v α' F' H' (R.back e0) p h1
 |bad=>exact h
theorem a42 {x:Str}{p:Pos}{k:Nat}{f:Addr}{fd:FuncData}{ps:List Str}{φ:Fn}(hx:Uy (CXR X.prog X.w) X E) (F:FnOk X.prog X.w X.K X.mg X.base (CXR X.prog X.w) k f fd ps (spX X.K xc ps.length φ)) (hr:Room k X.A) (hg:Gl X x) (hm:X.mg x=some (.ref f)) (hk:PySem.W.keepIn X.K (.ref f)=true) (hb:z8 X.K fd ps [])
  (ha:MA X (exT X.K xc E) (e::es) ms) (hl:(e::es).length=ps.length) (hdb:(x==("__debug__":Str))=false:=by decide) (he:starEach (e::es) X.env=(false,eval e X.env)::starEach es X.env:=by rfl) (hpl:(backTo pos (starEach es X.env)).any (·.1)=false:=by rfl) :
  ME X (exT X.K xc E) (.Call (.Name x p) (e::es) [] pos) (J9 φ ms):=by
 obtain⟨t,pt,st,lt⟩:=ha
 refine⟨_,Cv F hr hg hm hk hb .nil hx pt hdb he hpl,fun Z α G H σ ρ μ Q R g=>?_⟩
 refine st Z α G H σ ρ μ _ R (GA.stepE (G:=GE X.K (exT X.K xc E) Z α G Q) g (fun _ _ h=>h) (fun h=>h) fun ds μ1 vs α1 F1 H1 hm1 R1 e1 p1 g1=>?_)
 rw[List.append_nil]
 exact⟨Z,α1,F1,ds,μ1,R1,p1,(lt _ _ _ _ hm1).trans hl,wq R1.ext e1 g1⟩
end
section
variable {prog:Program}{w:World}{A:Around}{E:Value->Shared->Prop}{h:Heap}{g:Array GenState}{d:Drawn}{t:Nat}{os:OsState}
variable {nm q:Str}{C N f:Addr}{bs bm bmB:List Value}{hdct:Bool}{sn:List Str}{sub:List Value}{ab:Bool}{col:Option Bool}{dd:Option Addr}{k0 k1 k2 k3 k5:Option Value}{B newId initId:String}
noncomputable abbrev a02 (C a:Addr):Obj:={ cls:=.ref C,data:=.fields #[.ref a,.none,.none,.none,.bool false,.none]}
noncomputable abbrev Y6 (h:Heap) (C:Addr) (us:List Value):Heap:=(h.push { cls:=.type "tuple",data:=.seq us.toArray}).push (a02 C h.objs.size)
theorem ky (F:ExcBaseFacts B newId initId bmB) (T:OwnTail h bmB bm) {mN:Str->Option Value}{us:List Value}{Q:Fin->Shared->Prop}
  (hC:h.get? C=some (excClassObj nm q C N bs bm hdct sn sub ab col dd k0 k1 k2 k3 k5 newId)) (hn:h.Ns N mN) (hi:mN "__init__"=some (.ref f)) (hu:us.length<=sizeLine)
  (hb:PySem.W.Looks (model prog w) (Y6 h C us) (bindSpecial (.ref f) (.ref (h.objs.size+1))) (.ref f,[.ref (h.objs.size+1)]))
  (hq:wpAny (model prog w) A (call (.ref f) (.ref (h.objs.size+1)::us)) (fun r s'=>r=.none/\Q (.done (.ret (.ref (h.objs.size+1)))) s') E ⟨Y6 h C us,g,d,t,os⟩) :
  wpAny (model prog w) A (Builtin.«type.__call__» ⟨.ref C::us,[]⟩) Q E ⟨h,g,d,t,os⟩:=by
 repeat (first|with_reducible refine wpAny_loadPart_at hC ?_|with_reducible refine wpAny_madeBy_exc hC ?_|wp_step)
 refine codeAny_call_builtin_code (Code.quiet_builtin _ F.quiet) (wpAny_check_new_subT F T hC (codeAny_exc_new_subT F T hC ?_ hu))
 have c1:(Y6 h C us).get? C=some _:=Heap.get?_push_of_some _ (Heap.get?_push_of_some _ hC)
 have n1:(Y6 h C us).Ns N mN:=hn.keeps fun b o e=>Heap.get?_push_of_some _ (Heap.get?_push_of_some _ e)
 have e1:(Y6 h C us).get? (h.objs.size+1)=some (a02 C h.objs.size):=Heap.get?_push_at (by rw[Heap.size_push]) rfl
 have k1:(Value.ref C::bm).contains (.ref C)=true:=by simp
 have t1:OwnTail (Y6 h C us) bmB bm:=T.keeps fun b o e=>Heap.get?_push_of_some _ (Heap.get?_push_of_some _ e)
 show wpAny _ _ _ _ _ _
 unfold isInstance
 repeat (first|with_reducible refine wpAny_loadPart_at e1 ?_|(with_reducible refine wpAny_isSubtype_exc c1 ?_;rw[k1])|wp_step)
 show wpAny _ _ (typeLookup (.ref C) _) _ _ _
 refine wpAny_typeLookup_tail c1 n1 t1 F.mroIs F.init.lookup ?_
 rw[hi]
 refine wpAny_holding (wpAny_bind (hb _ _ _ _ (fun _ _ z=>z) ?_))
 refine wpAny_bind (wpAny_mono hq (fun r s' hr=>wpAny_pure ?_) fun _ _ z=>z)
 obtain⟨rfl,hr⟩:=hr
 exact wpAny_pure hr
theorem F8 (F:ExcBaseFacts B newId initId bmB) (T:OwnTail h bmB bm) {mN:Str->Option Value}{us:List Value}{Q:Value->Shared->Prop}
  (hC:h.get? C=some (excClassObj nm q C N bs bm hdct sn sub ab col dd k0 k1 k2 k3 k5 newId)) (hn:h.Ns N mN) (hi:mN "__init__"=some (.ref f)) (hu:us.length<=sizeLine)
  (hb:PySem.W.Looks (model prog w) (Y6 h C us) (bindSpecial (.ref f) (.ref (h.objs.size+1))) (.ref f,[.ref (h.objs.size+1)]))
  (hq:wpAny (model prog w) (A.under (.builtin "type.__call__" ⟨.ref C::us,[]⟩)) (call (.ref f) (.ref (h.objs.size+1)::us)) (fun r s'=>r=.none/\Q (.ref (h.objs.size+1)) s') E ⟨Y6 h C us,g,d,t,os⟩) :
  wpAny (model prog w) A (call (.ref C) us) Q E ⟨h,g,d,t,os⟩:=by
 have f1:=tc_lookup
 have f2:=tc_bind (.ref C)
 have hT:(⟨h,g,d,t,os⟩:Shared).TypeIs (.ref C) "type":=⟨_,hC,rfl⟩
 refine wpAny_call (codeAny_of_tree ?_)
 show wpAny (model prog w) _ (callAny (.ref C) ⟨us,[]⟩) _ _ _
 repeat (any_goals (first|assumption|with_reducible refine wpAny_loadPart_at hC ?_|wp_step))
 refine⟨rfl,codeAny_call_builtin_at (Code.quiet_builtin _ (by decide +kernel)) entry_typeCall (wpAny_check_type_call_sub hC (ky F T hC hn hi hu hb ?_))⟩
 exact hq
end
open PySem PySem.Spec PyProof.Rows L2 PySem.Builtin PySem.Builtin.ObjectAttr
noncomputable def dc:List Value:=[.type "ValueError",.type "Exception",.type "BaseException",.type "object"]
noncomputable def K7:List Value->Bool
 |.ref _::r=>K7 r
 |l=>l==dc
theorem wa:∀{l:List Value},K7 l=true->l=dc\/∃c r,l=.ref c::r/\K7 r=true
 |[],e=>.inl (beq_iff_eq.mp e)
 |.ref c::r,e=>.inr ⟨c,r,rfl,e⟩
 |.type n::r,e=>.inl (beq_iff_eq.mp e)
 |.none::r,e=>.inl (beq_iff_eq.mp e)
 |.bool _::r,e=>.inl (beq_iff_eq.mp e)
 |.int _ _::r,e=>.inl (beq_iff_eq.mp e)
 |.str _ _::r,e=>.inl (beq_iff_eq.mp e)
 |v::r,e=>by
  cases v<;>first|exact .inl (beq_iff_eq.mp e)|exact .inr ⟨_,r,rfl,e⟩
theorem xu (self:Value):∀(l:List Value),K7 l=true->refuseLoop self "__setattr__" l=pure ()
 |[],e=>by cases e
 |v::r,e=>by
  rcases wa e with q|⟨c,r',q,e'⟩
  ·rw[q];exact F.store_ValueError.passes self
  ·injection q with q1 q2
   subst q1 q2
   rw[refuseLoop_ref]
   exact xu self r e'
theorem Kr {T:String}(hT:dc.contains (.type T)=true):∀(l:List Value),K7 l=true->l.contains (.type T)=true
 |[],e=>by cases e
 |v::r,e=>by
  rcases wa e with q|⟨c,r',q,e'⟩
  ·rw[q];exact hT
  ·injection q with q1 q2
   subst q1 q2
   rw[List.contains_cons,Kr hT r e',Bool.or_true]
noncomputable def Xf (K:PySem.W.Frag) (C:Addr):Bool:=(PySem.W.clsIn K C).any fun cd=>K7 cd.mro
section
variable {prog:Program}{w:World}{A:Around}{E:Value->Shared->Prop}{s:Shared}{K:PySem.W.Frag}{x C:Addr}{name:Str}{v:Value}
theorem Qt {T:String}(X:K.In s.heap) (hp:Xf K C=true) {ox:Obj}{od:Option Obj}(I:PySem.W.InstAt s.heap x ox C od) (hT:dc.contains (.type T)=true) :
  PySem.W.Looks (model prog w) s.heap (isInstance (.ref x) (.type T)) true:=by
 obtain⟨cd,hc,ho⟩:=PySem.W.any_some hp
 have ne:cd.mro.isEmpty=false:=by
  cases q:cd.mro with
  |nil=>rw[q] at ho;cases ho
  |cons _ _=>rfl
 refine I.type.andThen (PySem.W.looks_mroIn X ?_)
 unfold PySem.W.mroIn
 rw[hc,Option.bind_some,if_neg (by rw[ne];decide),Kr hT _ ho]
theorem ah1 {vs:Array Value}{sl:Array (Option Value)}{Q:Unit->Shared->Prop}(X:K.In s.heap) (hx:s.heap.get? x=some ⟨.ref C,none,.fields vs,sl⟩)
  (hs:PySem.W.findIn K (.ref C) "__setattr__"=some (some (.builtin "object.__setattr__"))) (hp:Xf K C=true) (ht:PySem.W.takerIn K C name=some none) (hh:PySem.W.hasDictIn K C=true)
  (h:∀h' t',h'.get? x=some ⟨.ref C,some s.heap.objs.size,.fields vs,sl⟩->h'.Ns1 s.heap.objs.size (fun y=>if y=name then some v else none)->(∀b o,b≠x->s.heap.get? b=some o->h'.get? b=some o) ->
   Q () { s with heap:=h',toks:=t'}):wpAny (model prog w) A (setAttr (.ref x) name v) Q E s:=by
 have J:PySem.W.InstAt s.heap x ⟨.ref C,none,.fields vs,sl⟩ C none:=⟨hx,rfl,rfl,trivial⟩
 refine PySem.W.set_plain X J hs ?_
 have SF:=F.store_ValueError
 refine codeAny_call_builtin SF.slot.plain SF.entry (@PySem.W.check_slot (model prog w) _ _ _ "object.__setattr__" "object" "__setattr__" (.ref x) _ [] _ SF.kind SF.split (Qt (s:={ s with toks:=s.toks+1}) X hp J (by decide)) (SF.args _ _ _) ?_)
 obtain⟨cd,hc,ho⟩:=PySem.W.any_some hp
 obtain⟨cd',hc',hd'⟩:=PySem.W.any_some hh
 cases hc.symm.trans hc'
 have hm:PySem.W.Looks (model prog w) s.heap (mroOf (.ref C)) cd.mro:=(PySem.W.looks_clsIn X hc).andThen .now
 obtain⟨attr,ha,hr⟩:=Option.bind_eq_some_iff.mp ht
 have L3:PySem.W.Looks (model prog w) s.heap (storeTaker? attr) none:=by
  cases attr with
  |none=>exact .now
  |some a =>
   obtain⟨b,hb,z⟩:=Option.map_eq_some_iff.mp hr
   refine(PySem.W.looks_takesIn X hb).andThen ?_
   cases b
   ·exact .now
   ·cases z
 rw[PySem.W.osa_eq,refuse_eq]
 refine wpAny_bind (wpAny_bind (PySem.W.Looks.here (s:={ s with toks:=s.toks+1}) J.type (wpAny_bind (PySem.W.Looks.here (s:={ s with toks:=s.toks+1}) hm ?_))))
 rw[xu _ _ ho]
 refine wpAny_pure (wpAny_bind (PySem.W.Looks.here (s:={ s with toks:=s.toks+1}) J.type (wpAny_bind (PySem.W.Looks.here (s:={ s with toks:=s.toks+1}) (PySem.W.looks_findIn X ha) (wpAny_bind (PySem.W.Looks.here (s:={ s with toks:=s.toks+1}) L3 ?_))))))
 refine wpAny_bind (wpAny_pure (wpAny_bind (wpAny_bind (wpAny_loadPart hx (wpAny_bind (PySem.W.Looks.here (s:={ s with toks:=s.toks+1}) (PySem.W.looks_clsIn X hc) ?_))))))
 rw[hd']
 have hx1:(s.heap.push { cls:=.type "dict",data:=.dict #[]}).get? x=some ⟨.ref C,none,.fields vs,sl⟩:=Heap.get?_push_of_some _ hx
 have hxs:x≠s.heap.objs.size:=Nat.ne_of_lt (Heap.lt_size hx)
 refine wpAny_bind (wpAny_alloc' (h:=s.heap) ?_)
 refine wpAny_bind (wpAny_update' hx1 ?_)
 refine wpAny_pure ?_
 have hgd:((s.heap.push { cls:=.type "dict",data:=.dict #[]}).update x fun o=>{ o with dict:=some s.heap.objs.size}).get? s.heap.objs.size=some { cls:=.type "dict",data:=.dict #[]} :=
  (Heap.get?_update_ne _ _ _ _ hxs.symm).trans (Heap.get?_push_at rfl rfl)
 have hnd:((s.heap.push { cls:=.type "dict",data:=.dict #[]}).update x fun o=>{ o with dict:=some s.heap.objs.size}).Ns s.heap.objs.size (fun _=>none) :=
  ⟨_,#[],_,hgd,rfl,fun e he=>absurd he (by simp),fun _=>rfl⟩
 show wpAny _ _ (storeInDict s.heap.objs.size (.str name s.toks) name v) _ _ _
 unfold storeInDict newKeyGuard
 refine wpAny_bind (wpAny_pure (wpAny_bind (wpAny_nsSet1 (Heap.Ns1.of_empty hnd) fun h' hn' hs'=>?_)))
 obtain⟨oD,esD,epD,hoD,hdD,hcD⟩:=hn'.count (Within.cons name v Within.nil)
 refine wpAny_bind (wpAny_lookBehind hoD (by rw[hdD];exact pastItsLine_dict (Nat.le_trans hcD (by rw[List.length_cons,List.length_nil,sizeLine_eq];omega))) ?_)
 refine wpAny_pure (h h' _ ?_ hn' fun b o hb e=>?_)
 ·exact(hs'.2 x hxs).trans (Heap.get?_update_self _ hx1 rfl)
 ·exact(hs'.2 b (Nat.ne_of_lt (Heap.lt_size e))).trans ((Heap.get?_update_ne _ _ _ _ hb).trans (Heap.get?_push_of_some _ e))
theorem ah2 {ox:Obj}{od:Option Obj}{expr:Bool}{Q:Value->Shared->Prop}(X:K.In s.heap) (I:PySem.W.InstAt s.heap x ox C od) (hga:PySem.W.findIn K (.ref C) "__getattribute__"=some (some (.builtin "BaseException.__getattribute__")))
  (hk:PySem.W.findIn K (.ref C) "__getattr__"=some none) (hp:Xf K C=true) (hf:PySem.W.findObj K C od name=some (.value v)) (hh:PySem.W.handedIn v=true) (h:Q v { s with toks:=s.toks+1}) :
  wpAny (model prog w) A (getAttr (.ref x) name expr) Q E s:=by
 have ga:=F.attrBase_ValueError.ga
 have L0:=I.type (M:=model prog w)
 have L1:=PySem.W.looks_findIn (M:=model prog w) X hga
 refine wpAny_bind (wpAny_mkText (wpAny_holding (wpAny_bind (L0 _ _ _ _ (fun _ _ e=>e) (wpAny_bind (L1 _ _ _ _ (fun _ _ e=>e) ?_))))))
 dsimp only
 rw[show(Value.builtin "BaseException.__getattribute__"==Value.builtin "object.__getattribute__")=false from by decide +kernel,Bool.and_false,if_neg (by decide)]
 refine wpAny_bind ((PySem.W.looks_hook X (r:=none) (by rw[if_pos (show onTheHeap (.ref C)=true from rfl)];exact hk)) _ _ _ _ (fun _ _ e=>e) (wpAny_bind (wpAny_attempt (wpAny_holding ?_))))
 unfold callGetattribute
 rw[show(expr&&onTheHeap (Value.builtin "BaseException.__getattribute__"))=false from Bool.and_false _,if_neg (by decide)]
 unfold boundAndCalled
 rw[ga.bind]
 refine wpAny_bind (wpAny_pure ?_)
 show wpAny _ _ (call (.builtin "BaseException.__getattribute__") [.ref x,.str name s.toks]) _ _ _
 refine wpAny_call (codeAny_call_builtin ga.plain F.entry_bexc_ga ?_)
 refine @PySem.W.check_slot (model prog w) _ _ { s with toks:=s.toks+1} "BaseException.__getattribute__" "BaseException" "__getattribute__" (.ref x) [.str name s.toks] [] _ (by decide +kernel) (by decide +kernel) (Qt (s:={ s with toks:=s.toks+1}) X hp I (by decide)) (F.args_bexc_ga _ _) ?_
 have L2:=PySem.W.looks_find (M:=model prog w) X I hf
 refine wpAny_bind (wpAny_pure (wpAny_bind (wpAny_pure (wpAny_bind (L0 _ _ _ _ (fun _ _ e=>e) (wpAny_bind (L2 _ _ _ _ (fun _ _ e=>e) ?_)))))))
 refine wpAny_pure ?_
 show wpAny _ _ (handedOut v) _ _ _
 rw[PySem.W.handedOut_of hh]
 exact wpAny_pure h
end
noncomputable def Bp (K:PySem.W.Frag) (C f:Addr):Bool:=match K.lookup C with
 | some ⟨.type "type",_,.cls c,ss⟩=>(match c.mro,ss.toList with
  |.ref C1::tl,[_,_,_,_,some (.builtin i),_]=>C1==C&&i=="ValueError.__new__"&&!c.hasDel&&PySem.W.tailIn K dc tl&&PySem.W.nsOkIn K c.ns&&PySem.W.nsIn K c.ns "__init__"==some (some (.ref f))
  | _,_=>false)
 |_=>false
theorem Dp {K:PySem.W.Frag}{h:Heap}{N:Addr}{y:Str}{u:Value}(X:K.In h) (q:PySem.W.nsIn K N y=some (some u)):h.nsMap N y=some u:=by
 unfold PySem.W.nsIn at q
 split at q
 ·rename_i ho
  unfold Heap.nsMap
  rw[X _ _ ho]
  split at q
  ·rename_i z
   have q':=Option.some.inj (Option.some.inj q)
   show nsFind _ _=_
   unfold nsFind findBy
   rw[←Array.find?_toList,z,←q']
   rfl
  ·split at q
   ·cases q
   ·cases Option.some.inj q
 ·cases q
inductive OwnXAt (h:Heap) (C f:Addr):Prop
 |mk (nm qn N bs bm hd sn sub ab col dd k0 k1 k2 k3 k5 mN:_):h.get? C=some (excClassObj nm qn C N bs bm hd sn sub ab col dd k0 k1 k2 k3 k5 "ValueError.__new__")->h.Ns N mN->mN "__init__"=some (.ref f)->OwnTail h dc bm->OwnXAt h C f
theorem Gz {K:PySem.W.Frag}{h:Heap}{C f:Addr}(X:K.In h) (q:Bp K C f=true):OwnXAt h C f:=by
 unfold Bp at q
 split at q
 ·rename_i dd c ss ho
  split at q
  ·rename_i C1 tl k0 k1 k2 k3 i k5 e1 e2
   simp only[Bool.and_eq_true,beq_iff_eq,Bool.not_eq_true'] at q
   obtain⟨⟨⟨⟨⟨rfl,rfl⟩,q1⟩,q2⟩,q3⟩,q4⟩:=q
   obtain⟨nm,bs,mro,ns,qn,hd,sn,sub,ab,col,del⟩:=c
   dsimp only at e1 q1 q3 q4
   subst e1 q1
   obtain⟨l⟩:=ss
   simp only at e2
   subst e2
   exact⟨nm,qn,ns,bs,tl,hd,sn,sub,ab,col,dd,k0,k1,k2,k3,k5,_,X _ _ ho,.of_isNs (PySem.W.isNs_of_in X q3),Dp X q4,PySem.W.tail_of_in X q2⟩
  ·cases q
 ·cases q
section
variable {prog:Program}{w:World}{A:Around}{E:Value->Shared->Prop}{s:Shared}{K:PySem.W.Frag}{x C f:Addr}{name:Str}{v:Value}
theorem aa {vs:Array Value}{sl:Array (Option Value)}{dx:Option Addr}{u:Value}{old:Addr}{Q:Value->Shared->Prop}(X:K.In s.heap) (hx:s.heap.get? x=some ⟨.ref C,dx,.fields vs,sl⟩) (h0:vs[0]? =some (.ref old)) (hq:Bp K C f=true)
  (h:∀h' t',h'.get? x=some ⟨.ref C,dx,.fields (vs.setIfInBounds 0 (.ref s.heap.objs.size)),sl⟩->(∀b o,b≠x->s.heap.get? b=some o->h'.get? b=some o)->Q .none { s with heap:=h',toks:=t'}) :
  wpAny (model prog w) A (call (.builtin "ValueError.__init__") [.ref x,u]) Q E s:=by
 have FB:=F.excBase_ValueError
 obtain⟨nm,qn,N,bs,bm,hd,sn,sub,ab,col,dd,k0,k1,k2,k3,k5,mN,hC,hn,hi,T⟩:=Gz X hq
 obtain⟨hh,g,d,t,os⟩:=s
 refine wpAny_call (codeAny_call_builtin FB.init.plain FB.initEntry (wpAny_check_init_subT FB T hC hx rfl ?_))
 unfold Builtin.«BaseException.__init__»
 have hz:0<vs.size:=(Array.getElem?_eq_some_iff.mp h0).1
 repeat wp_step
 rw[h0]
 have hx1:(hh.push { cls:=.type "tuple",data:=.seq #[u]}).get? x=some ⟨.ref C,dx,.fields vs,sl⟩:=Heap.get?_push_of_some _ hx
 refine wpAny_pure (wpAny_bind (wpAny_setField hx1 rfl hz ?_))
 repeat wp_step
 refine h _ _ ?_ fun b o hb e=>?_
 ·exact Heap.get?_update_self _ hx1 rfl
 ·exact(Heap.get?_update_other _ _ (Ne.symm hb)).trans (Heap.get?_push_of_some _ e)
end
noncomputable def Y5 (e:Addr) (C:Value) (dx:Option Addr):Heap->Prop:=fun h=>∃t,h.get? e=some ⟨C,dx,.fields #[.ref t,.none,.none,.none,.bool false,.none],#[]⟩
theorem D9 {P:Program}{w:World}{H:Hp}{h:Heap}{a:Addr}{C:Value}{dx:Option Addr}(x:Y5 a C dx h):uw P w H h a (.ext (Y5 a C dx)) :=
 ⟨x,let⟨_,e⟩:=x;⟨_,e⟩,fun _ _ ⟨t,e⟩ k=>⟨t,k _ e⟩⟩
theorem Y5.x {h:Heap}{e:Addr}{C:Value}{dx:Option Addr}(x:Y5 e C dx h):Xq h e C dx none:=let⟨t,e'⟩:=x;⟨_,_,e',show 1<6 by decide,rfl⟩
structure XCl (K:PySem.W.Frag) (C f:Addr) (nm:Str):Prop where
 own:Bp K C f=true
 over:Xf K C=true
 set:PySem.W.findIn K (.ref C) "__setattr__"=some (some (.builtin "object.__setattr__"))
 ga:PySem.W.findIn K (.ref C) "__getattribute__"=some (some (.builtin "BaseException.__getattribute__"))
 hook:PySem.W.findIn K (.ref C) "__getattr__"=some none
 dict:PySem.W.hasDictIn K C=true
 taker:PySem.W.takerIn K C nm=some none
 no:PySem.W.findIn K (.ref C) nm=some none
 fn:PySem.W.isFn K (.ref f)=true
 kp:PySem.W.keepIn K (.ref C)=true
structure XUp (K:PySem.W.Frag) (D:Addr):Prop where
 rd:PySem.W.readsIn K D (.type "type")=true
 fd:PySem.W.findCls K (.ref D) (.type "type") "__init__"=some (.val (.builtin "ValueError.__init__"))
 sp:PySem.W.specialIn K (.ref D) "__getattribute__"=some (some (.builtin "type.__getattribute__"))
noncomputable def spI (C:Addr) (nm:Str):Sp:=fun vs H Q _=>∃e i,vs=[.ref e,.int i]/\i.natAbs.log2<1920/\H e=some (.ext (Y5 e (.ref C) none)) /\
 ∀dx,H dx=none->Q .non (upd (upd H e (.ext (Y5 e (.ref C) (some dx)))) dx (.xd [(nm,.int i)]))
section
variable {X:Cx}{pos p1 p2 p3 p4 p5 p6 p7:Pos}{self at_:Str}{txt:Str}{j:Nat}{D C f:Addr}{nm:Str}{xD:Str}
theorem ac0 {i0:Nat}(ha:PE X (.Name at_ p4) (kx i0)) (hl:txt.length<=1000):PE X (.JoinedStr [.Constant (.str txt) j p2,.FormattedValue (.Name at_ p4) (-1) none p5] p6)
  (fun σ H Q=>∃i,σ[i0]? =some (some (.int i))/\i.natAbs.log2<1920/\∀y,Q (.str y) H):=by
 intro pins s σ H Q I h
 obtain⟨i,e,hi,q⟩:=h
 refine JoinedStr_many (joinParts_cons (Calls.Constant_str ⟨?_,joinParts_cons (FormattedValue_plain ?_)⟩))
 ·rw[show(Str.empty++txt)=txt from by rw[PySem.Str.empty_append]]
  exact Nat.le_trans hl (by rw[sizeLine_eq];omega)
 ·refine thn (ha pins _ σ H (fun v H1=>v=.int i/\H1=H) (I.tok _) ⟨_,e,rfl,rfl⟩) fun u s1 ⟨v,H1,I1,r,ev,eH⟩=>?_
  subst ev eH
  obtain⟨tk,rfl⟩:=r
  refine formatField_int_small hi ?_
  have hz:(Str.empty++txt++Str.ofString (toString i)).length<=sizeLine:=by
   rw[strLen_append,show(Str.empty++txt)=txt from by rw[PySem.Str.empty_append]]
   have:=int_text_len_1921 hi
   rw[sizeLine_eq]
   omega
  exact⟨hz,joinParts_nil ⟨.str _,H1,I1.tok _,⟨_,rfl⟩,q _⟩ hz⟩
theorem Bt {i0 i1:Nat}{xD:Str}{pl:Sem Bool}(c:XCl X.K C f nm) (u:XUp X.K D) (hg:Gl X xD) (hm:X.mg xD=some (.ref D)) (hs:PE X (.Name self p3) (kx i0)) (ha:PE X (.Name at_ p4) (kx i1)) (hl:txt.length<=1000)
  (hdb:(xD==("__debug__":Str))=false:=by decide)
  (ht:eval (.Call (.Attribute (.Name xD p1) "__init__" p7) [.Name self p3,.JoinedStr [.Constant (.str txt) j p2,.FormattedValue (.Name at_ p4) (-1) none p5] p6] [] pos) X.env=(do
   let ov ←eval (.Name xD p1) X.env
   standAt p7.atName
   let(f,first) ←holding [ov] (getMethod ov "__init__" pl)
   callWith pos f first (backTo pos (starEach [.Name self p3,.JoinedStr [.Constant (.str txt) j p2,.FormattedValue (.Name at_ p4) (-1) none p5] p6] X.env)) (backToKw pos (keywordEach [] X.env))):=by rfl) :
  PE X (.Call (.Attribute (.Name xD p1) "__init__" p7) [.Name self p3,.JoinedStr [.Constant (.str txt) j p2,.FormattedValue (.Name at_ p4) (-1) none p5] p6] [] pos)
   (fun σ H Q=>∃e i,σ[i0]? =some (some (.ref e))/\σ[i1]? =some (some (.int i))/\i.natAbs.log2<1920/\H e=some (.ext (Y5 e (.ref C) none))/\Q .non H):=by
 intro pins s σ H Q I h
 obtain⟨e,i,h1,h2,hi,he,q⟩:=h
 refine PySem.W.methodCall_KW (pl:=pl) (y4 I hg hm ?_ hdb) ht
 refine PySem.W.method_cls I.kIn u.sp (PySem.W.cls_value I.kIn u.rd u.fd rfl ?_)
 refine PyProof.Rows.callWith_builtin1 (thn ((Ua hs (Ua (ac0 ha hl) Qw)) pos pins _ σ H (fun vs H1=>H1=H/\∃y,vs=[.ref e,.str y]) (I.tok _) ⟨_,h1,i,h2,hi,fun y=>⟨rfl,y,rfl⟩⟩) fun us s1 ⟨vs,H1,I1,r,eH,y,ev⟩=>?_)
 subst eH ev
 obtain⟨u1,u2,rfl,r1,r2⟩:=cm r
 obtain rfl:u1=.ref e:=r1
 obtain⟨⟨t,ht'⟩,-,-⟩:=I1.hok e _ he
 refine aa I1.kIn ht' rfl c.own fun h' t' a b=>?_
 have same:upd H1 e (.ext (Y5 e (.ref C) none))=H1:=by
  funext b
  by_cases z:b=e
  ·subst z;rw[jt,he]
  ·rw[jz z]
 have I2:=I1.write (x:=e) (e:=e) (o:=.ext (Y5 e (.ref C) none)) (h':=h') (t':=t') (by rw[he];trivial) (.inl rfl) b ⟨_,a⟩ (D9 ⟨_,a⟩)
 rw[same] at I2
 exact⟨.non,H1,I2,rfl,q⟩
theorem ab2 {i0 i1:Nat}(c:XCl X.K C f nm) (hs:PE X (.Name self p3) (kx i0)) (ha:PE X (.Name at_ p4) (kx i1)) (hsw:swapsWith (.Name at_ p4) (some (.Attribute (.Name self p3) nm p5)) pos.line X.env=pure false:=by rfl) :
  PS X (.Assign [.Attribute (.Name self p3) nm p5] (.Name at_ p4) pos)
   (fun D σ H=>∃e i,σ[i0]? =some (some (.ref e))/\σ[i1]? =some (some (.int i))/\H e=some (.ext (Y5 e (.ref C) none))/\∀dx,H dx=none->D.nx σ (upd (upd H e (.ext (Y5 e (.ref C) (some dx)))) dx (.xd [(nm,.int i)]))):=by
 intro pins s σ H D I h
 obtain⟨e,i,h1,h2,he,q⟩:=h
 refine plainObj_wpAny_Assign_Attribute (thn (ha pins s σ H (fun v H1=>v=.int i/\H1=H) I ⟨_,h2,rfl,rfl⟩) fun u s1 ⟨y,H1,I1,ry,ey,eH⟩=>thn (hs pins s1 σ H1 (fun v H2=>v=.ref e/\H2=H1) I1 ⟨_,h1,rfl,rfl⟩) fun ov s2 ⟨x,H2,I2,rx,ex,eH2⟩=>?_) hsw
 subst ey eH ex eH2
 obtain rfl:ov=.ref e:=rx
 obtain⟨⟨t,ht'⟩,-,-⟩:=I2.hok e _ he
 refine ah1 I2.kIn ht' c.set c.over c.taker c.dict fun h' t' a n b=>?_
 have nd:H2 s2.heap.objs.size=none:=I2.hok.fresh (Nat.le_refl _)
 have ne:s2.heap.objs.size≠e:=Nat.ne_of_gt (Heap.lt_size ht')
 refine⟨σ,_,?_,q s2.heap.objs.size nd⟩
 have ok1:HOk X.prog X.w (upd H2 e (.ext (Y5 e (.ref C) (some s2.heap.objs.size)))) h':=I2.hok.write (x:=e) (e:=e) (by rw[he];trivial) (.inl rfl) b ⟨_,a⟩ (D9 ⟨_,a⟩)
 have un1:Un X.fs [] H2 (upd H2 e (.ext (Y5 e (.ref C) (some s2.heap.objs.size)))) s2.heap h':=Un.write (x:=e) (e:=e) (by rw[he];trivial) (.inl rfl) b ⟨_,a⟩
 have f1:upd H2 e (.ext (Y5 e (.ref C) (some s2.heap.objs.size))) s2.heap.objs.size=none:=by rw[jz ne];exact nd
 refine I2.un (t':=t') ?_ ?_
 ·refine⟨un1.keep,un1.slot,fun b' o q' n' hx=>?_,un1.there,fun b' xs q'=>?_,fun b' o u q'=>?_,fun b' ps q'=>?_⟩
  ·rw[jz (Nat.ne_of_lt (Heap.lt_size q'))];exact un1.free b' o q' n' hx
  ·have z:=un1.tups b' xs q'
   rw[jz (js z f1)];exact z
  ·have z:=un1.frzs b' o u q'
   rw[jz (js z f1)];exact z
  ·obtain⟨m,z⟩:=un1.tbls b' ps q'
   exact⟨m,by rw[jz (js z f1)];exact z⟩
 ·intro b' o' q'
  by_cases z:b'=s2.heap.objs.size
  ·subst z
   rw[jt] at q'
   cases q'
   refine⟨_,n,fun fl=>?_⟩
   by_cases zf:fl=nm
   ·subst zf
    rw[if_pos rfl,List.lookup_cons_self]
    exact ry
   ·rw[if_neg zf,List.lookup_cons,show(fl==nm)=false from by simpa using zf]
    exact True.intro
  ·rw[jz z] at q'
   refine(ok1 b' o' q').stay (fun c' v hc q=>q) (fun c' q=>?_) fun c' xs q=>?_
   ·rw[jz (js q f1)];exact q
   ·rw[jz (js q f1)];exact q
end
noncomputable abbrev D1 (xD self at_ txt:Str) (j:Nat) (p1 p2 p3 p4 p5 p6 p7 pos:Pos):Expr:=.Call (.Attribute (.Name xD p1) "__init__" p7) [.Name self p3,.JoinedStr [.Constant (.str txt) j p2,.FormattedValue (.Name at_ p4) (-1) none p5] p6] [] pos
theorem ag7 {P:Program}{w:World}{K:PySem.W.Frag}{mg:Str->Option Value}{base:Heap}{x qual self at_ xD txt nm:Str}{st:Stmt}{f C D:Addr}{fd:FuncData}{k j:Nat}{p1 p2 p3 p4 p5 p6 p7 p8 q3 q4 q5 q6 pos:Pos}
  (F:Fun K x qual st f fd) (S:FnScope [self,at_] [self,at_] (defScope st)) (c:XCl K C f nm) (u:XUp K D) (hm:mg xD=some (.ref D)) (hg:(defScope st).names.lookup xD=some .globalImplicit)
  (hb:defBody st=[.Expr (D1 xD self at_ txt j p1 p2 p3 p4 p5 p6 p7 pos) p8,.Assign [.Attribute (.Name self q3) nm q5] (.Name at_ q4) q6])
  (hl:txt.length<=1000) (hv:Vis (defScope st) self) (hv':Vis (defScope st) at_)
  (ht:∀env:Env,∃pl,eval (D1 xD self at_ txt j p1 p2 p3 p4 p5 p6 p7 pos) env=(do
   let ov ←eval (.Name xD p1) env
   standAt p7.atName
   let(f,first) ←holding [ov] (getMethod ov "__init__" pl)
   callWith pos f first (backTo pos (starEach [.Name self p3,.JoinedStr [.Constant (.str txt) j p2,.FormattedValue (.Name at_ p4) (-1) none p5] p6] env)) (backToKw pos (keywordEach [] env))))
  (h1:∀env:Env,swapsWith (D1 xD self at_ txt j p1 p2 p3 p4 p5 p6 p7 pos) none p8.line env=pure false)
  (h2:∀env:Env,swapsWith (.Name at_ q4) (some (.Attribute (.Name self q3) nm q5)) q6.line env=pure false)
  (d1:(self==("__debug__":Str))=false:=by decide) (d2:(self==("__classdict__":Str))=false:=by decide) (d3:(at_==("__debug__":Str))=false:=by decide) (d4:(at_==("__classdict__":Str))=false:=by decide)
  (d5:(xD==("__debug__":Str))=false:=by decide):FnOk P w K mg base CX0 (k+1) f fd [self,at_] (spI C nm):=by
 obtain⟨oc,od,kV,doc,pm,an,cdv,ct,osl,rfl,lk,hcd⟩:=F.ex
 refine a72 lk hcd S (fun vs H Q E ⟨e,i,z,_⟩=>by rw[z];rfl) fun A outer s H vs Q E hr h=>?_
 obtain⟨e,i,rfl,hi,he,q⟩:=h
 generalize hX:uv CX0 P w K mg base [self,at_] qual (defScope st) f cdv A outer s H E=X
 have eK:X.K=K:=by rw[←hX];rfl
 have eg:X.mg=mg:=by rw[←hX];rfl
 have eN:X.N=[self,at_]:=by rw[←hX];rfl
 have es:X.env.scope=defScope st:=by rw[←hX];rfl
 obtain⟨pl,ht⟩:=ht X.env
 have hself:∀p,PE X (.Name self p) (kx 0):=fun p=>G8 (by rw[eN];rfl) (by rw[es];exact hv) d1 d2
 have hat:∀p,PE X (.Name at_ p) (kx 1):=fun p=>G8 (by rw[eN];rfl) (by rw[es];exact hv') d3 d4
 subst eK eg
 have a1:=Bt (X:=X) (pl:=pl) (p5:=p5) (p6:=p6) (p2:=p2) (j:=j) c u (show Gl X xD by show X.env.scope.names.lookup xD=_;rw[es];exact hg) hm (hself p3) (hat p4) hl d5 ht
 have a2:=ab2 (X:=X) (p5:=q5) (pos:=q6) c (hself q3) (hat q4) (h2 X.env)
 refine⟨_,by rw[hb];exact Ff (Cz a1 (h1 X.env)) (C9 a2),?_⟩
 exact⟨e,i,rfl,rfl,hi,he,e,i,rfl,rfl,he,q⟩
theorem Dz {M:Model}{A:Around}{E:Value->Shared->Prop}{env:Env}{s:Shared}{x:Sem Value}{Q:Flow->Shared->Prop}{K:PySem.W.Frag}{C f:Addr}(hq:Bp K C f=true) (hh:A.handled=none)
  (h:wpAny M A x (fun v s₁=>∃e dx,v=.ref e/\K.In s₁.heap/\Y5 e (.ref C) dx s₁.heap/\E (.ref e) s₁) E s):wpAny M A (raiseStmt env (some x) none) Q E s:=by
 unfold raiseStmt
 refine wpAny_bind (wpAny_mono h (fun v s₁ h₁=>?_) fun _ _ x=>x)
 obtain⟨e,dx,rfl,X,⟨t,he⟩,hE⟩:=h₁
 obtain⟨nm,qn,N,bs,bm,hd,sn,sub,ab,col,dd,k0,k1,k2,k3,k5,mN,hC,hn,hi,T⟩:=Gz X hq
 have hcB:(Value.ref C::bm).contains (.type "BaseException")=true:=by rw[List.contains_cons,T.hasType (show dc.contains (.type "BaseException")=true by decide),Bool.or_true]
 obtain⟨hp,g,d,tk,os⟩:=s₁
 repeat (first|with_reducible refine wpAny_loadPart_at he ?_|with_reducible refine wpAny_loadPart_at hC ?_|(with_reducible refine wpAny_isSubtype_exc hC ?_;rw[hcB])|wp_step)
 exact wpAny_raiseNew_none hh hE
section
variable {P:Program}{w:World}{K:PySem.W.Frag}{mg:Str->Option Value}{base:Heap}{N:List Str}{qual:Str}{sc:Scope}{f:Addr}{cdv:Value}{A:Around}{outer:List Env}{s:Shared}{H:Hp}{E:XK}
noncomputable def V4 (k:Nat) (m:MX):MSt:=fun ρ μ=>(m ρ μ).bind fun d μ1=>match d with
 |.int i=>if i.natAbs.log2<1920 then .exc ⟨k,.int i⟩ μ1 else .bad
 |_=>.bad
end
structure Hnd (K:PySem.W.Frag) (D:Addr):Prop where
 ty:PySem.W.typeIn K (.ref D)=some (.type "type")
 cl:(PySem.W.clsIn K D).isSome=true
 sub:PySem.W.subIn K (.ref D) (.type "BaseException")=some true
theorem E6 {K:PySem.W.Frag}{M:Model}{h:Heap}{e C D:Addr}{o:Obj}(X:K.In h) (d:Hnd K D) (he:h.get? e=some o) (hc:o.cls=.ref C) (hs:PySem.W.subIn K (.ref C) (.ref D)=some true):PySem.W.Looks M h (excMatches (.ref e) (.ref D)) true:=by
 have k:=PySem.W.kit_cls (M:=M) (c:=.ref D) (t:=.ref C) (v:=true) X (by unfold PySem.W.kitCls;dsimp only;rw[d.cl,d.ty];simpa using hs)
 have ty:PySem.W.Looks M h (typeOf (.ref e)) (.ref C):=hc▸(PySem.W.Looks.ld he).andThen .now
 have l1:PySem.W.Looks M h (isInstance (.ref D) (.type "tuple")) false:=k.1.andThen (PySem.W.Looks.of_pure tc_notTuple)
 have l2:PySem.W.Looks M h (isExcClass (.ref D)) true:=k.2.1.andThen (PySem.W.looks_subIn X d.sub)
 unfold excMatches
 refine l1.andThen (PySem.W.Looks.now.andThen ?_)
 simp only[List.forIn_cons,List.forIn_nil]
 refine PySem.W.Looks.andThen (a:=()) ?_ (ty.andThen ?_)
 ·refine PySem.W.Looks.andThen (a:=ForInStep.yield ()) (l2.andThen ?_) .now
  exact .now
 ·refine PySem.W.Looks.andThen (a:=(some true,())) (PySem.W.Looks.andThen (a:=ForInStep.done (some true,())) (k.2.2.andThen ?_) ?_) ?_
  ·exact .now
  ·exact .now
  ·exact .now
theorem av {Md:Model}{A:Around}{E:Value->Shared->Prop}{s:Shared}{e T:Addr}{C:Value}{dx:Option Addr}{Q:Unit->Shared->Prop}(x:Xq s.heap e C dx (some T))
  (q:∀h',Xq h' e C dx (some T)->Noted [] e (some T) s.heap h'->Q () { s with heap:=h'}):wpAny Md A (setFlight (.ref e) none) Q E s:=by
 obtain⟨vs,sl,he,hz,h1,ne,oT,ts,hT,hd,h3⟩:=x
 have z3:3<ts.size:=(Array.getElem?_eq_some_iff.mp h3).1
 have ot:∀b o,s.heap.get? b=some o->b≠T->(s.heap.update T (Obj.mapFields (·.setIfInBounds 3 Value.none))).get? b=some o:=fun b o hb n=>(Heap.get?_update_other _ _ (Ne.symm n)).trans hb
 have nw:(s.heap.update T (Obj.mapFields (·.setIfInBounds 3 Value.none))).get? T=some (Obj.mapFields (·.setIfInBounds 3 Value.none) oT):=Heap.get?_update_self _ hT (by
  obtain⟨c,d,dt,sl⟩:=oT
  cases hd
  rfl)
 refine wpAny_setFlight_none he rfl h1 hT hd z3 (q _ ⟨vs,sl,ot _ _ he (Ne.symm ne),hz,h1,ne,_,ts.setIfInBounds 3 .none,nw,?_,?_⟩ ⟨fun b o hb _ _ hn=>ot b o hb fun z=>hn (by rw[z]),fun b o hb _ hn=>⟨o.slots,ot b o hb fun z=>hn (by rw[z])⟩⟩)
 ·obtain⟨c,d,dt,sl⟩:=oT
  cases hd
  rfl
 ·simp[z3]
section
variable {X:Cx}{pins:List (Addr×Obj)}{σ:L2.St}{H:Hp}{s:Shared}{h':Heap}{a:Addr}{C:Value}{dx tr tr':Option Addr}{fs:List Addr}
theorem Ks (I:Inv X pins σ H s) (xo:Xq h' a C dx tr') (N:Noted fs a tr s.heap h') (hfs:∀b∈fs,b∈frs X.stack) (ha:H a=some (.ext (Uw a C dx)))
  (ht:∀T,tr=some T->H T=none/\X.s₀.heap.objs.size<=T/\T≠X.env.locals/\(∀x c,X.env.cells.lookup x=some c->c≠T)/\∀p∈X.pn++pins,p.1≠T):Inv X pins σ H { s with heap:=h'}:=by
 have na:∀b,H b=none->b≠a:=fun b n z=>by rw[z,ha] at n;cases n
 refine I.call' (s':={ s with heap:=h'}) (ch:=tr.toList) rfl ⟨fun b o q n hc hx=>?_,fun b o q n hc hx=>?_,fun b o q n hx=>n,fun b o q hx=>?_,fun b xs q=>q,fun b o u q=>q,fun b ps q=>⟨#[],by rw[q];simp⟩⟩
  (a9 I.hok ha (fun T z=>(ht T z).1) xo N fun b hb=>I.stkFree b (hfs b hb)) I.bare fun b hb=>?_
 ·exact N.keep b o q (fun z=>hc (hfs b z)) (na b n) fun z=>hx (by rw[z];simp)
 ·obtain⟨sl,e⟩:=N.slot b o q (na b n) fun z=>hx (by rw[z];simp)
  exact⟨sl,e⟩
 ·by_cases z:b=a
  ·obtain⟨vs,sl,e,_⟩:=xo
   exact⟨_,by rw[z];exact e⟩
  ·obtain⟨sl,e⟩:=N.slot b o q z fun z=>hx (by rw[z];simp)
   exact⟨_,e⟩
 ·have z:tr=some b:=by
   cases tr with
   |none=>cases hb
   |some T=>simp at hb;rw[hb]
  obtain⟨_,h1,h2,h3,h4⟩:=ht b z
  exact⟨.inr h1,h2,h3,h4⟩
end
section
variable {X:Cx}{pins:List (Addr×Obj)}{σ:L2.St}{H:Hp}{s:Shared}
theorem X9 (I:Inv X pins σ H s) {T:Addr}(h:s.heap.objs.size<=T):X.s₀.heap.objs.size<=T/\T≠X.env.locals/\(∀x c,X.env.cells.lookup x=some c->c≠T)/\∀p∈X.pn++pins,p.1≠T :=
 ⟨Nat.le_trans I.sz h,Nat.ne_of_gt (Nat.lt_of_lt_of_le I.lt h),fun x c e=>let⟨_,_,z,_⟩:=I.cell x c e;Nat.ne_of_lt (Nat.lt_of_lt_of_le (Heap.lt_size z) h),fun p hp=>Nat.ne_of_lt (Nat.lt_of_lt_of_le (Heap.lt_size (I.pin p hp).1) h)⟩
theorem ka {M:Model}{A:Around}{E:Value->Shared->Prop}{i:Nat}{x:Str}{pos:Pos}{Q:Unit->Shared->Prop}(I:Inv X pins σ H s) (hN:X.nd) (hi:X.N[i]? =some x) (hk:X.env.scope.names.lookup x=some .local)
  (h:∀s',Inv X pins (σ.set i none) H s'->Q () s'):wpAny M A (do bindName X.env x .none;unbindBehindTheSuite X.env x pos) Q E s:=by
 obtain⟨m,hn,hl⟩:=id I.loc
 have hcls:(X.env.scope.kind==.class||(X.env.scope.kind==.module&&X.env.locals != X.env.globals))=false:=by rw[I.ok.kind];rfl
 refine wpAny_nameGoes_keeps hk hn hcls fun h' v hn' hs=>h _ ?_
 obtain⟨oL,_,_,hoL,_⟩:=id hn
 have nb:∀b o,X.s₀.heap.get? b=some o->b≠X.env.locals:=fun b o e=>Nat.ne_of_lt (Nat.lt_of_lt_of_le (Heap.lt_size e) I.ok.above)
 refine⟨I.ok,I.os,I.bare,⟨fun b o e n hb hx=>(hs.2 b (nb b o e)).trans (I.base.keep b o e n hb hx),fun b o e n hb hx=>?_,I.base.free,fun b o e hx=>?_,I.base.tups,I.base.frzs,I.base.tbls⟩,⟨_,hn',fun j y v' e1 e2 e3=>?_⟩,fun y c e=>?_,I.free,I.freeC,fun p hp=>?_,fun b ob e=>?_,by simpa using I.len,fun f e=>by rw[hN.2] at e;cases e⟩
 ·obtain⟨sl,e1⟩:=I.base.slot b o e n hb hx
  exact⟨sl,(hs.2 b (nb b o e)).trans e1⟩
 ·obtain⟨o',e1⟩:=I.base.there b o e hx
  exact⟨o',(hs.2 b (nb b o e)).trans e1⟩
 ·have hj:j≠i:=fun z=>by
   subst z
   by_cases hz:j<σ.length
   ·rw[List.getElem?_set_self hz] at e2;cases e2
   ·rw[List.getElem?_eq_none (by rw[List.length_set];omega)] at e2;cases e2
  rw[List.getElem?_set_ne (Ne.symm hj)] at e2
  obtain⟨u',r',q⟩:=hl j y v' e1 e2 e3
  refine⟨u',r',?_⟩
  rcases q with⟨k,e⟩|⟨k,c,e,z⟩
  ·have ne:y≠x:=fun e=>hj (vc hN.1 e1 (e▸hi))
   exact .inl ⟨k,by simp[ne,e]⟩
  ·exact .inr ⟨k,c,e,z.sameBut hs (I.cne y c e)⟩
 ·obtain⟨w',z⟩:=I.cell y c e
  exact⟨w',z.sameBut hs (I.cne y c e)⟩
 ·obtain⟨e,n,ne,nf,d⟩:=I.pin p hp
  exact⟨(hs.2 p.1 ne).trans e,n,ne,nf,d⟩
 ·refine(I.hok b ob e).stay (fun c w' hc q=>(hs.2 c ?_).trans q) (fun _ q=>q) fun _ _ q=>q
  intro z
  subst z
  rcases hc with hc|hc
  ·rw[←hc,I.free] at e;cases e
  ·rw[I.free] at hc;cases hc
end
noncomputable def hand (X:Cx) (a:Addr) (pn:List (Addr×Obj)):Cx:={ X with A:=X.A.mark (some (.ref a)),calm:=false,pn:=pn,xe:=fun _ _=>False}
noncomputable def tryX (X:Cx) (pn:List (Addr×Obj)) (xe:Value->Shared->Prop):Cx:={ X with pn:=pn,xe:=xe}
section
variable {X:Cx}{pins pins':List (Addr×Obj)}{σ:L2.St}{H:Hp}{s:Shared}{xe:Value->Shared->Prop}{a:Addr}
theorem Cx.Ok.tryX {pn:List (Addr×Obj)}(o:X.Ok):(M.tryX X pn xe).Ok:=⟨o.mod,o.kind,o.glob,o.blt,o.above,o.inj,o.has,o.cab,o.hd,o.frames,o.stk,o.exf,o.bs,o.bsz,o.noex,o.exfs,o.funs,o.frf⟩
theorem Cx.Ok.hand {pn:List (Addr×Obj)}(o:X.Ok):(M.hand X a pn).Ok:=⟨o.mod,o.kind,o.glob,o.blt,o.above,o.inj,o.has,o.cab,(fun z=>by cases z),o.frames,o.stk,o.exf,o.bs,o.bsz,o.noex,o.exfs,o.funs,o.frf⟩
theorem Vv (ok:X.Ok) (I:Inv (hand X a (X.pn++pins)) pins' σ H s):Inv X pins σ H s:=⟨ok,I.os,I.bare,I.base,I.loc,I.cell,I.free,I.freeC,fun p hp=>I.pin p (List.mem_append_left _ hp),I.hok,I.len,I.fx⟩
end
noncomputable def xMu (c:Str×Option Str) (d:D) (μ:Mu):Mu:=match c.2 with
 |some nm=>μ++[.xdc nm d]++[.exn c.1 μ.length]
 |none=>μ++[.exz c.1]
noncomputable def xRf (c:Str×Option Str) (μ:Mu):D:=match c.2 with
 |some _=>.ref (μ.length+1)
 |none=>.ref μ.length
theorem RS.unset {K:PySem.W.Frag}{Z:ZS}{α:List Addr}{F H:Hp}{σ:L2.St}{ρ:En}{μ:Mu}(R:RS K Z α F H σ ρ μ) (i:Nat):RS K Z α F H (σ.set i none) (ρ.set i none) μ :=
 ⟨R.hp,by simp[R.len],fun j d hd=>by
  have hj:j≠i:=fun z=>by
   subst z
   by_cases hz:j<ρ.length
   ·rw[List.getElem?_set_self hz] at hd;cases hd
   ·rw[List.getElem?_eq_none (by rw[List.length_set];omega)] at hd;cases hd
  rw[List.getElem?_set_ne (Ne.symm hj)] at hd ⊢
  exact R.sl j d hd⟩
theorem a74 {h:Heap}{a:Addr}{C C':Value}{dx dx':Option Addr}(x:Uw a C dx h) (y:Uw a C' dx' h):C=C'/\dx=dx':=by
 obtain⟨_,_,e⟩:=x
 obtain⟨_,_,e'⟩:=y
 rw[e] at e'
 cases e'
 exact⟨rfl,rfl⟩
theorem am9 {K:PySem.W.Frag}{Z:ZS}{α:List Addr}{F H:Hp}{μ:Mu}{c:Str×Option Str}{a dx:Addr}{v:V}{d:D}(R:RH K Z α F (del H a dx) μ) (rep:Rep K F α d v) (x:XH K c H a dx v) :
  ∃α',RH K Z α' F H (xMu c d μ)/\Ext α F α' F/\Rep K F α' (xRf c μ) (.ref a):=by
 unfold XH at x
 have fn0:∀b,del H a dx b=none->F b=none:=fun b hb=>a70 R hb
 have da:del H a dx a=none:=by unfold del;rw[if_pos (.inl rfl)]
 have dd:del H a dx dx=none:=by unfold del;rw[if_pos (.inr rfl)]
 unfold xMu xRf
 cases hc:c.2 with
 |some nm =>
  rw[hc] at x
  obtain⟨h1,h2⟩:=x
  have nad:a≠dx:=fun z=>by rw[z,h2] at h1;cases h1
  have R1:=R.newCell (o':=.xd [(nm,v)]) (c:=.xdc nm d) dd ⟨fn0 dx dd,v,jt,rep.mono (Ur _ _ _)⟩
  have R2:=R1.newCell (p:=a) (o':=.ext (Uw a (.ref (cA K c.1)) (some dx))) (c:=.exn c.1 μ.length) (by rw[jz nad];exact da) ⟨fn0 a da,dx,by rw[←R.len];simp,jt⟩
  have eH:upd (upd (del H a dx) dx (.xd [(nm,v)])) a (.ext (Uw a (.ref (cA K c.1)) (some dx)))=H:=by
   funext b
   by_cases z:b=a
   ·rw[z,jt,h1]
   ·rw[jz z]
    by_cases z':b=dx
    ·rw[z',jt,h2]
    ·rw[jz z']
     unfold del
     rw[if_neg (fun q=>q.elim z z')]
  rw[eH] at R2
  refine⟨_,R2,(Ur _ _ _).trans (Ur _ _ _),?_⟩
  unfold Rep
  exact⟨a,by rw[←R.len];simp,rfl⟩
 |none =>
  rw[hc] at x
  obtain⟨rfl,h1⟩:=x
  have R1:=R.newCell (p:=dx) (o':=.ext (Uw dx (.ref (cA K c.1)) none)) (c:=.exz c.1) dd ⟨fn0 dx dd,jt⟩
  have eH:upd (del H dx dx) dx (.ext (Uw dx (.ref (cA K c.1)) none))=H:=by
   funext b
   by_cases z:b=dx
   ·rw[z,jt,h1]
   ·rw[jz z]
    unfold del
    rw[if_neg (fun q=>q.elim z z)]
  rw[eH] at R1
  refine⟨_,R1,Ur _ _ _,?_⟩
  unfold Rep
  exact⟨dx,by rw[←R.len];simp,rfl⟩
theorem an0 {K:PySem.W.Frag}{c:Str×Option Str}{H:Hp}{a dx:Addr}{v:V}(x:XH K c H a dx v):∃o,H a=some (.ext (Uw a (.ref (cA K c.1)) o)):=by
 unfold XH at x
 split at x
 ·exact⟨_,x.1⟩
 ·exact⟨_,x.2⟩
noncomputable def tryK (X:Cx) (pn:List (Addr×Obj)) (xe:Value->Shared->Prop) (f:Str->Option Value):Cx:={ X with pn:=pn,xe:=xe,kn:=some f}
section
variable {X:Cx}{pins pins':List (Addr×Obj)}{σ:L2.St}{H:Hp}{s:Shared}{xe:Value->Shared->Prop}{a:Addr}{f:Str->Option Value}
theorem Cx.Ok.tryK {pn:List (Addr×Obj)}(o:X.Ok):(M.tryK X pn xe f).Ok:=⟨o.mod,o.kind,o.glob,o.blt,o.above,o.inj,o.has,o.cab,o.hd,o.frames,o.stk,o.exf,o.bs,o.bsz,o.noex,o.exfs,o.funs,o.frf⟩
theorem a57 (I:Inv X pins σ H s) (hf:s.heap.Ns X.env.locals f):Inv (tryK X (X.pn++pins) xe f) [] σ H s:=⟨Cx.Ok.tryK I.ok,I.os,I.bare,I.base,I.loc,I.cell,I.free,I.freeC,fun p hp=>I.pin p (by rw[List.append_nil] at hp;exact hp),I.hok,I.len,fun g e=>by cases e;exact hf⟩
theorem Dc (ok:X.Ok) (hk:X.kn=none) (I:Inv (tryK X (X.pn++pins) xe f) pins' σ H s):Inv X pins σ H s:=⟨ok,I.os,I.bare,I.base,I.loc,I.cell,I.free,I.freeC,fun p hp=>I.pin p (List.mem_append_left _ hp),I.hok,I.len,fun g e=>by rw[hk] at e;cases e⟩
theorem a6 (ok:X.Ok) (hk:X.kn=none) (I:Inv (tryK X (X.pn++pins) xe f) pins' σ H s):Inv (hand X a (X.pn++pins)) pins' σ H s:=⟨Cx.Ok.hand ok,I.os,I.bare,I.base,I.loc,I.cell,I.free,I.freeC,I.pin,I.hok,I.len,fun g e=>by rw[show(hand X a (X.pn++pins)).kn=none from hk] at e;cases e⟩
theorem a7 {σ0:L2.St}{s0:Shared}{H0:Hp}(I0:Inv X pins σ0 H0 s0) (hl:∀x∈X.N,X.env.kindOf x=some .local) {m:Str->Option Value}(hm:∀(i:Nat) (x:Str) (v:V),X.N[i]? =some x->σ0[i]? =some (some v)->Vis X.env.scope x->∃u,J3 v u/\aH5 X.env s0.heap m x u)
  (I:Inv (hand X a (X.pn++pins)) pins' σ H s) (hf:s.heap.Ns X.env.locals m):Inv (hand X a (X.pn++pins)) pins' σ0 H s:=by
 refine⟨I.ok,I.os,I.bare,I.base,⟨m,hf,fun i x v e1 e2 e3=>?_⟩,I.cell,I.free,I.freeC,I.pin,I.hok,I0.len,I.fx⟩
 obtain⟨u,r,l⟩:=hm i x v e1 e2 e3
 refine⟨u,r,?_⟩
 rcases l with l|⟨l,_⟩
 ·exact .inl l
 ·have:=hl x (List.mem_of_getElem? e1)
  rw[this] at l
  rcases l with l|l<;>cases l
end
section
variable {X:Cx}{EX:EXT}
end
structure XGet (K:PySem.W.Frag) (C:Addr):Prop where
 over:Xf K C=true
 ga:PySem.W.findIn K (.ref C) "__getattribute__"=some (some (.builtin "BaseException.__getattribute__"))
 hook:PySem.W.findIn K (.ref C) "__getattr__"=some none
 dict:PySem.W.hasDictIn K C=true
 cl:PySem.W.findIn K (.ref C) "__class__"=some (some (.builtin "object.__class__"))
 gt:PySem.W.specialIn K (.builtin "object.__class__") "__get__"=some (some (.builtin "getset_descriptor.__get__"))
 tk:PySem.W.takesIn K (.builtin "object.__class__")=some true
 ob:PySem.W.mroIn K C (.type "object")=some true
section
variable {prog:Program}{w:World}{A:Around}{E:Value->Shared->Prop}{s:Shared}{K:PySem.W.Frag}{x C:Addr}{name:Str}{v:Value}{ox:Obj}{od:Option Obj}
theorem au {Q:Option Value->Shared->Prop}(c:XGet K C) (X:K.In s.heap) (I:PySem.W.InstAt s.heap x ox C od) (h:Q (some (.ref C)) { s with toks:=s.toks+1}):wpAny (model prog w) A (getAttr? (.ref x) "__class__") Q E s:=by
 have ga:=F.attrBase_ValueError.ga
 have L0:=I.type (M:=model prog w)
 have L1:=PySem.W.looks_findIn (M:=model prog w) X c.ga
 have hf:PySem.W.findObj K C od "__class__"=some (.bind (.builtin "getset_descriptor.__get__") (.builtin "object.__class__")):=by
  obtain⟨cd,hc,_⟩:=PySem.W.any_some c.dict
  unfold PySem.W.findObj
  rw[hc,Option.bind_some,c.cl,Option.bind_some]
  simp[c.gt,c.tk]
 have L2:=PySem.W.looks_find (M:=model prog w) X I hf
 unfold getAttr? getAttrBy? getAttrBy
 refine wpAny_bind (wpAny_mkText (wpAny_bind (wpAny_attempt (wpAny_holding (wpAny_bind (L0 _ _ _ _ (fun _ _ e=>e) (wpAny_bind (L1 _ _ _ _ (fun _ _ e=>e) ?_))))))))
 dsimp only
 rw[show(Value.builtin "BaseException.__getattribute__"==Value.builtin "object.__getattribute__")=false from by decide +kernel,Bool.and_false,if_neg (by decide)]
 refine wpAny_bind ((PySem.W.looks_hook X (r:=none) (by rw[if_pos (show onTheHeap (.ref C)=true from rfl)];exact c.hook)) _ _ _ _ (fun _ _ e=>e) (wpAny_bind (wpAny_attempt (wpAny_holding ?_))))
 unfold callGetattribute
 rw[show(false&&onTheHeap (Value.builtin "BaseException.__getattribute__"))=false from rfl,if_neg (by decide)]
 unfold boundAndCalled
 rw[ga.bind]
 refine wpAny_bind (wpAny_pure ?_)
 show wpAny _ _ (call (.builtin "BaseException.__getattribute__") [.ref x,.str "__class__" s.toks]) _ _ _
 refine wpAny_call (codeAny_call_builtin ga.plain F.entry_bexc_ga ?_)
 refine @PySem.W.check_slot (model prog w) _ _ { s with toks:=s.toks+1} "BaseException.__getattribute__" "BaseException" "__getattribute__" (.ref x) [.str "__class__" s.toks] [] _ (by decide +kernel) (by decide +kernel) (Qt (s:={ s with toks:=s.toks+1}) X c.over I (by decide)) (F.args_bexc_ga _ _) ?_
 refine wpAny_bind (wpAny_pure (wpAny_bind (wpAny_pure (wpAny_bind (L0 _ _ _ _ (fun _ _ e=>e) (wpAny_bind (L2 _ _ _ _ (fun _ _ e=>e) ?_)))))))
 show wpAny _ _ (holding [Value.builtin "object.__class__"] (call (.builtin "getset_descriptor.__get__") [.builtin "object.__class__",.ref x,.ref C]) >>= ret) _ _ _
 refine wpAny_bind (wpAny_holding (wpAny_call (PySem.W.class_get (s:={ s with toks:=s.toks+1}) (ox:=ox) (od:=od) X I c.ob ?_)))
 refine wpAny_pure ?_
 show wpAny _ _ (handedOut (.ref C)) _ _ _
 rw[PySem.W.handedOut_of (show PySem.W.handedIn (.ref C)=true from rfl)]
 exact wpAny_pure (wpAny_pure h)
theorem Ey (c:XGet K C):PySem.W.KitX K (.ref x) (.ref C) (fun h=>PySem.W.InstAt h x ox C od) where
 ty:=fun _ _ _ I=>I.type
 it:=fun _ _ X _=>by
  obtain⟨cd,hcD,_⟩:=PySem.W.any_some c.dict
  unfold PySem.W.clsIn at hcD
  split at hcD
  ·rename_i ho
   intro A' Q' E' s' k q
   unfold isType loadHead
   exact wpAny_bind (wpAny_loadPart (k _ _ (X _ _ ho)) (wpAny_pure q))
  ·cases hcD
 ne:=fun h tp dd its n sl X htp=>by
  obtain⟨cd,hcD,_⟩:=PySem.W.any_some c.dict
  refine Bool.eq_false_iff.mpr fun q=>?_
  have e:C=tp:=Value.ref.inj (beq_iff_eq.mp q)
  subst e
  unfold PySem.W.clsIn at hcD
  split at hcD
  ·rename_i ho
   have z:=(X _ _ ho).symm.trans htp
   cases z
  ·cases hcD
 ca:=fun X I k=>au c X I k
end
theorem Er {P:Program}{w:World}{H:Hp}{h:Heap}{a dx C:Addr}{fs:List (Str×V)}(hok:HOk P w H h) (h1:H a=some (.ext (Uw a (.ref C) (some dx)))) (h2:H dx=some (.xd fs)) :
  ∃(ox od:Obj) (mA:Str->Option Value),PySem.W.InstAt h a ox C (some od)/\(∀f,Zi (fs.lookup f) (mA f))/\∀name,PySem.W.lookIn name od=some (mA name):=by
 obtain⟨⟨vs,sl,e⟩,-,-⟩:=hok a _ h1
 obtain⟨mA,n,r⟩:=hok dx _ h2
 obtain⟨od,ho,hl⟩:=Kv n
 exact⟨_,od,mA,⟨e,rfl,rfl,ho⟩,r,hl⟩
section
variable {X:Cx}{EX:EXT}{e:Expr}{m:MX}{pos:Pos}
noncomputable def af7 (ok:Str->Bool) (nm:Str) (m:MX):MX:=fun ρ μ=>(m ρ μ).bind fun d μ1=>match d with
 |.ref k=>match μ1[k]? with
  |some (.exn C j)=>match μ1[j]? with
   |some (.xdc nm' d')=>if ok C=true/\nm'=nm then .ok d' μ1 else .bad
   |_=>.bad
  |_=>.bad
 |_=>.bad
theorem at7 {ok:Str->Bool}{nm:Str}(hC:∀C,ok C=true->XGet X.K (cA X.K C)/\PySem.W.findIn X.K (.ref (cA X.K C)) nm=some none) (ha:ME X EX e m) (hb:attributeBase e nm X.env (eval e X.env)=eval e X.env:=by rfl):ME X EX (.Attribute e nm pos) (af7 ok nm m):=by
 obtain⟨t,pt,st⟩:=ha
 refine⟨fun σ H Q=>t σ H fun v H1=>∃a C dx u,v=.ref a/\ok C=true/\H1 a=some (.ext (Uw a (.ref (cA X.K C)) (some dx)))/\H1 dx=some (.xd [(nm,u)])/\Q u H1,fun pins s σ H Q I h=>?_,fun Z α F H σ ρ μ Q R g=>?_⟩
 ·refine ba hb (thn (pt pins s σ H _ I h) fun u0 s1 ⟨v,H1,I1,rx,a,C,dx,u,ev,ok',h1,h2,q⟩=>?_)
  subst ev
  obtain rfl:u0=Value.ref a:=rx
  obtain⟨ox,od,mA,J,r,l⟩:=Er I1.hok h1 h2
  obtain⟨c,no⟩:=hC C ok'
  have rn:=r nm
  rw[List.lookup_cons_self] at rn
  cases em:mA nm with
  |none=>rw[em] at rn;exact rn.elim
  |some u' =>
   rw[em] at rn
   have rn:J3 u u':=rn
   exact ah2 I1.kIn J c.ga c.hook c.over (PySem.W.findObj_own c.dict no rfl (by rw[l,em])) (Kq rn) ⟨u,H1,I1.tok _,rn,q⟩
 ·refine st Z α F H σ ρ μ _ R (GE.step (G:=GE X.K EX Z α F Q) g (fun _ _ h=>h) (fun h=>h) fun d μ1 v α1 F1 H1 R1 e1 p1 g1=>?_)
  cases d with
  |ref k =>
   unfold Rep at p1
   obtain⟨a,ha,rfl⟩:=p1
   dsimp only at g1
   split at g1
   ·rename_i C j hk
    split at g1
    ·rename_i nm' d' hj
     split at g1
     ·rename_i hh
      obtain⟨h0,rfl⟩:=hh
      obtain⟨_,dx,h3,h4⟩:=R1.cell k a _ ha hk
      obtain⟨_,u,h5,h6⟩:=R1.cell j dx _ h3 hj
      exact⟨a,C,dx,u,rfl,h0,h4,h5,g1 u α1 F1 H1 R1 e1 h6⟩
     ·exact g1.elim
    ·exact g1.elim
   ·exact g1.elim
  |_=>exact g1.elim
noncomputable def ag3 (g:Str->Option Bool) (d:D) (μ1:Mu):Res D:=match d with
 |.ref k=>match μ1[k]? with
  |some (.exn C j)=>match μ1[j]? with
   |some (.xdc _ _)=>ofO μ1 ((g C).map .bl)
   |_=>.bad
  |some (.exz C)=>ofO μ1 ((g C).map .bl)
  |_=>.bad
 |_=>.bad
noncomputable def Gf (g:Str->Option Bool) (m:MX):MX:=fun ρ μ=>(m ρ μ).bind (ag3 g)
noncomputable def XI (K:PySem.W.Frag) (H:Hp) (a:Addr) (C:Str):Prop:=(∃dx fs,H a=some (.ext (Uw a (.ref (cA K C)) (some dx)))/\H dx=some (.xd fs))\/H a=some (.ext (Uw a (.ref (cA K C)) none))
theorem XI.inst {P:Program}{w:World}{K:PySem.W.Frag}{H:Hp}{h:Heap}{a:Addr}{C:Str}(x:XI K H a C) (hok:HOk P w H h):∃ox od,PySem.W.InstAt h a ox (cA K C) od:=by
 rcases x with⟨dx,fs,h1,h2⟩|h1
 ·obtain⟨ox,od,mA,J,_,_⟩:=Er hok h1 h2
  exact⟨ox,some od,J⟩
 ·obtain⟨⟨vs,sl,e⟩,_⟩:=hok a _ h1
  exact⟨_,none,⟨e,rfl,rfl,trivial⟩⟩
theorem Ew {g:Str->Option Bool}{α:List Addr}{F:Hp}{Z:ZS}{Q:VK}{d:D}{μ1:Mu}{v:V}{α1:List Addr}{F1 H1:Hp}(R1:RH X.K Z α1 F1 H1 μ1) (e1:Ext α F α1 F1) (p1:Rep X.K F1 α1 d v)
  (g1:GE X.K EX Z α F Q (ag3 g d μ1)):∃a C b,v=.ref a/\g C=some b/\XI X.K H1 a C/\∀v' α' F' H',RH X.K Z α' F' H' μ1->Ext α F α' F'->Rep X.K F' α' (.bl b) v'->Q v' H':=by
 cases d with
 |ref k =>
  unfold Rep at p1
  obtain⟨a,ha,rfl⟩:=p1
  unfold ag3 at g1
  dsimp only at g1
  split at g1
  ·rename_i C j hk
   split at g1
   ·rename_i nm' d' hj
    obtain⟨_,dx,h3,h4⟩:=R1.cell k a _ ha hk
    obtain⟨_,u,h5,h6⟩:=R1.cell j dx _ h3 hj
    cases hg:g C with
    |none=>rw[hg] at g1;exact g1.elim
    |some b =>
     rw[hg] at g1
     exact⟨a,C,b,rfl,hg,.inl ⟨dx,_,h4,h5⟩,g1⟩
   ·exact g1.elim
  ·rename_i C hk
   obtain⟨_,h4⟩:=R1.cell k a _ ha hk
   cases hg:g C with
   |none=>rw[hg] at g1;exact g1.elim
   |some b =>
    rw[hg] at g1
    exact⟨a,C,b,rfl,hg,.inr h4,g1⟩
  ·exact g1.elim
 |_=>exact g1.elim
theorem a83 {g:Str->Option Bool}{c:V}{cl:Value}(rc:J3 c cl) (hu:∀u,J3 c u->u=cl) (hg:∀C b,g C=some b->XGet X.K (cA X.K C)/\PySem.W.kitOne X.K (.ref (cA X.K C)) cl=some b) :
  ze X (.builtin "isinstance") (fun xs H Q=>∃a C b,xs=[.ref a,c]/\g C=some b/\XI X.K H a C/\Q (.bl b) H):=by
 intro pins s σ H xs us Q I r h
 obtain⟨a,C,b,rfl,hb,h1,q⟩:=h
 obtain⟨u,w',rfl,r1,r2⟩:=cm r
 obtain rfl:u=.ref a:=r1
 obtain rfl:=hu _ r2
 obtain⟨ox,od,J⟩:=h1.inst I.hok
 obtain⟨c',kit⟩:=hg C b hb
 exact PySem.W.kia_one (Ey (ox:=ox) (od:=od) c') I.kIn J kit (fun z=>nomatch z) fun tk=>⟨.bl b,H,I.tok _,rfl,q⟩
theorem Ky {g:Str->Option Bool}{c:V}{cl:Value}{ec:Expr}{p:Pos}(rc:J3 c cl) (hu:∀u,J3 c u->u=cl) (hc:PE X ec (tC c)) (hg:∀C b,g C=some b->XGet X.K (cA X.K C)/\PySem.W.kitOne X.K (.ref (cA X.K C)) cl=some b)
  (hG:Gl X "isinstance") (hm:X.mg "isinstance"=none) (ha:ME X EX e m) (hs:starEach [e,ec] X.env=(false,eval e X.env)::starEach [ec] X.env:=by rfl) (hs2:starEach [ec] X.env=[(false,eval ec X.env)]:=by rfl) :
  ME X EX (.Call (.Name "isinstance" p) [e,ec] [] pos) (Gf g m):=by
 obtain⟨t,pt,st⟩:=ha
 refine⟨_,xt (a83 rc hu hg) hG hm PyProof.Rows.boot_isinstance (Ua pt (Ua hc Qw hs2) hs) (by decide) (by decide) hs (by rw[hs2];rfl),fun Z α F H σ ρ μ Q R g=>?_⟩
 refine st Z α F H σ ρ μ _ R (GE.step (G:=GE X.K EX Z α F Q) g (fun _ _ h=>h) (fun h=>h) fun d μ1 v α1 F1 H1 R1 e1 p1 g1=>?_)
 obtain⟨a,C,b,rfl,hb,h1,q⟩:=Ew R1 e1 p1 g1
 exact⟨a,C,b,rfl,hb,h1,q _ α1 F1 H1 R1 e1 (uh _)⟩
theorem au1 {g:Str->Option Bool}{x:Str}{T:Addr}{p p2:Pos}(hg2:Gl X x) (hm2:X.mg x=some (.ref T)) (hg:∀C b,g C=some b->XGet X.K (cA X.K C)/\PySem.W.kitOne X.K (.ref (cA X.K C)) (.ref T)=some b)
  (hG:Gl X "isinstance") (hm:X.mg "isinstance"=none) (ha:ME X EX e m) (hd:(x==("__debug__":Str))=false:=by decide) (hs:starEach [e,.Name x p2] X.env=(false,eval e X.env)::starEach [.Name x p2] X.env:=by rfl) :
  ME X EX (.Call (.Name "isinstance" p) [e,.Name x p2] [] pos) (Gf g m) :=
 Ky (c:=.ref T) (cl:=.ref T) rfl (fun u r=>r) (Cw hg2 hm2 rfl hd) hg hG hm ha hs
theorem af2 {g:Str->Option Bool}{x:Str}{T:String}{p p2:Pos}(hg2:Gl X x) (hm2:X.mg x=none) (hv:bootBuiltins x=some (.type T)) (hg:∀C b,g C=some b->XGet X.K (cA X.K C)/\PySem.W.kitOne X.K (.ref (cA X.K C)) (.type T)=some b)
  (hG:Gl X "isinstance") (hm:X.mg "isinstance"=none) (ha:ME X EX e m) (hn:x≠"__name__":=by decide) (hd:(x==("__debug__":Str))=false:=by decide) (hs:starEach [e,.Name x p2] X.env=(false,eval e X.env)::starEach [.Name x p2] X.env:=by rfl) :
  ME X EX (.Call (.Name "isinstance" p) [e,.Name x p2] [] pos) (Gf g m) :=
 Ky (c:=.ty T) (cl:=.type T) rfl (fun u r=>r) (Cu hg2 hm2 hv rfl hn hd) hg hG hm ha hs
end
structure Ch (X:Cx) (N G:List Str):Prop where
 hN:X.N=N
 nd:N.Nodup
 loc:∀x∈N,Loc X.env.scope x/\(x==("__debug__":Str))=false/\(x==("__classdict__":Str))=false
 gl:∀x∈G,Gl X x
 fn:∀x,X.fn x=true
 un:X.A.units+200<cLine
section
variable {X:Cx}{EX:EXT}{N G:List Str}
theorem aF9 {a:Addr}{pn:List (Addr×Obj)}(C:Ct X N G):Ch (hand X a pn) N G:=⟨C.hN,C.nd,C.loc,C.gl,C.fn,C.un⟩
theorem ah8 {pn:List (Addr×Obj)}{xe:Value->Shared->Prop}{f:Str->Option Value}(C:Ct X N G):Ct (tryK X pn xe f) N G:=⟨C.hN,C.nd,C.loc,C.gl,C.fn,C.calm,C.un⟩
theorem cz {pn:List (Addr×Obj)}{xe:Value->Shared->Prop}(C:Ct X N G):Ct (tryX X pn xe) N G:=⟨C.hN,C.nd,C.loc,C.gl,C.fn,C.calm,C.un⟩
theorem Ch.at (C:Ch X N G) {i:Nat}{x:Str}(h:N[i]? =some x):X.N[i]? =some x:=by rw[C.hN];exact h
theorem Ch.ndX (C:Ch X N G):X.N.Nodup:=by rw[C.hN];exact C.nd
theorem Ch.g (C:Ch X N G) (j:Nat) {x:Str}(h:G[j]? =some x):Gl X x:=C.gl x (uq h)
theorem svh (C:Ch X N G) (i:Nat) {x:Str}{pos:Pos}(h:N[i]? =some x):ME X EX (.Name x pos) (mVar i) :=
 Dh (C.at h) (Loc.vis (C.loc x (uq h)).1) (C.loc x (uq h)).2.1 (C.loc x (uq h)).2.2
theorem sah (C:Ch X N G) (i:Nat) {x:Str}{pos pos':Pos}{e:Expr}{m:MX}(h:N[i]? =some x) (he:ME X EX e m) (hs:swapsWith e (some (.Name x pos')) pos.line X.env=pure false:=by rfl) (hk:X.kn=none:=by rfl) :
  MS X EX (.Assign [.Name x pos'] e pos) (jr i m):=a37 ⟨C.ndX,hk⟩ (C.at h) (C.loc x (uq h)).1 (.inl (C.fn x)) he hs
end
section
variable {P:Program}{w:World}{K:PySem.W.Frag}{mg:Str->Option Value}{base:Heap}{xc:XCs}
theorem cy {CX:CXT}{N G:List Str}{qual:Str}{sc:Scope}{f:Addr}{cdv:Value}{A:Around}{outer:List Env}{s:Shared}{H:Hp}{E:XK}{k:Nat}(nd:N.Nodup)
  (loc:∀x∈N,Loc sc x/\(x==("__debug__":Str))=false/\(x==("__classdict__":Str))=false) (gl:∀x∈G,sc.names.lookup x=some .globalImplicit) (hr:Room k (A.deeper (envOfC qual sc s.heap.objs.size f cdv))) :
  Ct (uv CX P w K mg base N qual sc f cdv A outer s H E) N G :=
 ⟨rfl,nd,loc,gl,fun _=>rfl,rfl,by have:=hr.un;show(A.deeper _).units+200<cLine;omega⟩
noncomputable def uj (P:Program) (w:World) (K:PySem.W.Frag) (mg:Str->Option Value) (base:Heap) (xc:XCs) (x:Str) (k n:Nat) (φ:Fn):Prop :=
 ∃f fd ps,mg x=some (.ref f)/\PySem.W.keepIn K (.ref f)=true/\yz fd ps/\ps.length=n/\FnOk P w K mg base (CXR P w) k f fd ps (spX K xc n φ)
theorem a73 {x:Str}{st:Stmt}{N ps:List Str}{k j n:Nat}{b:MSt}{f:Addr}{fd:FuncData}(F:Fun K x x st f fd) (S:FnScope N ps (defScope st)) (hj:N.length-ps.length=j) (hn:ps.length=n)
  (hb:∀(cdv:Value) (A:Around) (outer:List Env) (s:Shared) (H:Hp) (E:XK),Room k (A.deeper (envOfC x (defScope st) s.heap.objs.size f cdv)) ->
   MSs (uv (CXR P w) P w K mg base N x (defScope st) f cdv A outer s H E) (exT K xc E) (defBody st) b):FnOk P w K mg base (CXR P w) (k+1) f fd ps (spX K xc n (fnOf j b)):=by
 subst hn
 exact a71 F S hj hb
theorem uk {x:Str}{st:Stmt}{ps:List Str}{k n:Nat}{φ:Fn}(D:Jx K mg x st ps) (hn:ps.length=n)
  (hb:∀(f:Addr) (fd:FuncData),Fun K x x st f fd->FnOk P w K mg base (CXR P w) k f fd ps (spX K xc n φ)):uj P w K mg base xc x k n φ:=by
 obtain⟨f,fd,h1,h2,h3⟩:=D
 exact⟨f,fd,ps,h1,h2.kp,h3,hn,hb f fd h2⟩
theorem ux {X:Cx}{x:Str}{p pos:Pos}{k n:Nat}{φ:Fn}{e:Expr}{es:List Expr}{ms:MAs}{E:XK}(F:uj X.prog X.w X.K X.mg X.base xc x k n φ) (hx:Uy (CXR X.prog X.w) X E) (hr:Room k X.A) (hg:Gl X x)
  (ha:MA X (exT X.K xc E) (e::es) ms) (hl:(e::es).length=n) (hdb:(x==("__debug__":Str))=false:=by decide) (he:starEach (e::es) X.env=(false,eval e X.env)::starEach es X.env:=by rfl) (hpl:(backTo pos (starEach es X.env)).any (·.1)=false:=by rfl) :
  ME X (exT X.K xc E) (.Call (.Name x p) (e::es) [] pos) (J9 φ ms):=by
 obtain⟨f,fd,ps,h1,h2,h3,h4,h5⟩:=F
 subst h4
 exact a42 hx h5 hr hg h1 h2 (.all h3) ha hl hdb he hpl
noncomputable def ExAt (K:PySem.W.Frag) (mg:Str->Option Value) (cn nm qual self at_:Str) (st:Stmt):Prop :=
 ∃fi fd,mg cn=some (.ref (cA K cn))/\XCl K (cA K cn) fi nm/\Fun K "__init__" qual st fi fd/\yz fd [self,at_]
noncomputable def aH4 (P:Program) (w:World) (K:PySem.W.Frag) (mg:Str->Option Value) (base:Heap) (cn nm:Str) (ki:Nat):Prop :=
 ∃fi fd self at_,mg cn=some (.ref (cA K cn))/\XCl K (cA K cn) fi nm/\yz fd [self,at_]/\FnOk P w K mg base CX0 ki fi fd [self,at_] (spI (cA K cn) nm)
noncomputable def am7 (K:PySem.W.Frag) (mg:Str->Option Value) (x:Str):Prop:=mg x=some (.ref (cA K x))/\Hnd K (cA K x)
noncomputable def k6 (K:PySem.W.Frag) (mg:Str->Option Value) (x:Str):Prop:=mg x=some (.ref (cA K x))
noncomputable def a89 (N:List Str) (sc:Scope):Bool:=N.all fun x=>sc.names.lookup x==some .local
theorem of_mem {L:List Str}{Q:Str->Prop}(h:∀x∈L,Q x) (C:Str) (hc:L.contains C=true):Q C:=h C (List.contains_iff_mem.mp hc)
theorem Gu {L:List (Str×Bool)}{Q:Str->Bool->Prop}(h:∀x∈L,Q x.1 x.2) (C:Str) (b:Bool) (hc:L.lookup C=some b):Q C b:=h (C,b) (PySem.mem_of_lookup hc)
end
theorem boot_ValueError:bootBuiltins "ValueError"=some (.type "ValueError"):=by decide +kernel
noncomputable def z7:Stmt->List Stmt
 |.ClassDef _ _ _ b .. =>b
 |_=>[]
theorem aa0 {K:PySem.W.Frag}{φ:Fn}{H:Hp}{a:Addr}{ns:List Int}(hS:SqL K H a (ns.map V.int)) (h:∃μ,φ [.lst (ns.map .int)] []=.ok (.bl true) μ):spM K 1 φ [.ref a] H (fun v _=>v=.bl true) (fun _ _ _=>False):=by
 obtain⟨μ,h⟩:=h
 refine⟨⟨fun _=>none,[],fun _=>none⟩,[],H,[.lst (ns.map .int)],[],⟨ja.refl H,rfl,fun k a c hk=>(by simp at hk),fun b o e=>(by cases e),fun b o e=>(by cases e),fun k a c hk=>(by simp at hk),fun j k a c c' hk=>(by simp at hk),⟨fun b o e=>(by cases e),fun k a hk=>(by simp at hk)⟩⟩,?_,rfl,?_⟩
 ·refine j5 ?_ J5
  unfold Rep
  exact⟨a,_,rfl,hS,K6 ns⟩
 ·rw[h]
  intro v α' F' H' _ _ r
  unfold Rep at r
  exact r
theorem walk_lawM {l:PySem.W.OpenLaw}{q:Program}{loose:List Str}{XP:(Str->Option Value)->Heap->Prop}{YP:World->Heap->Prop}{d:DefRec}{K:Params->PySem.W.Frag}{k:Nat}{x:Str}{φ:Fn}(hn:l.most=some 63) (hdf:d.params.defaults=[]) (hr:Room k callerA)
  (hY:∀(w:World) (h:Heap),YP w h->(K w.params).In h)
  (F:∀(w:World) (mg:Str->Option Value) (fa:Addr) (h:Heap),(K w.params).In h->h.Ns mainGlobals mg->mg d.name=some (.ref fa) ->
   ∃fd:FuncData,yz fd [x]/\∀base:Heap,FnOk l.prog w (K w.params) mg base CX0 k fa fd [x] (spM (K w.params) 1 φ))
  (hlaw:∀ns:List Int,ns.length<=63->∃μ,φ [.lst (ns.map .int)] []=.ok (.bl true) μ) :
  PySem.W.WalkO q loose XP YP l.row.toRowW d [] (fun f vs=>PySem.call f vs) :=
 L2.walk_of (n:=63) (k:=k) (x:=x) (CX:=fun _=>CX0) (sp:=fun w=>spM (K w.params) 1 φ) hn (by decide) hdf hr hY
  (fun w mg fa h hK hG hm=>by
   obtain⟨fd,hb,hf⟩:=F w mg fa h hK hG hm
   exact⟨fd,fun s u=>.of_eq (hb [u] rfl),fun base _ _=>hf base⟩)
  (fun w H a ns hl _ hS=>aa0 hS (hlaw ns hl)) fun _ _ _ _ _ z=>z
noncomputable def Ef (h:Heap) (e:Addr) (C:Value) (dx:Option Addr) (tr:Option Addr) (L:Addr):Prop :=
 Xq h e C dx tr\/∃T vs sl,tr=some T/\h.get? e=some ⟨C,dx,.fields vs,sl⟩/\1<vs.size/\vs[1]? =some (.ref T)/\T≠e/\∃oT ts,h.get? T=some oT/\oT.data=.fields ts/\ts[3]? =some (rawInt L)
theorem Ef.p {h:Heap}{e:Addr}{C:Value}{dx tr:Option Addr}{L:Addr}(x:Ef h e C dx tr L):Uw e C dx h:=by
 rcases x with x|⟨T,vs,sl,_,e,_⟩
 ·exact x.p
 ·exact⟨vs,sl,e⟩
section
variable {Md:Model}{A:Around}{E:Value->Shared->Prop}{s:Shared}{base:Heap}{env:Env}{outer:List Env}{L e:Addr}
theorem Vf {C:Value}{dx:Option Addr}{vs:Array Value}{sl:Array (Option Value)}{head:Value}{had:Bool}{Q:Unit->Shared->Prop}(hfr:A.frames=some (env::outer)) (hl:s.heap.FunFrames base (env::outer)) (hf:env.frame=some L)
  (he:s.heap.get? e=some ⟨C,dx,.fields vs,sl⟩) (hz:1<vs.size) (q:∀h' T,Ef h' e C dx (some T) L->s.heap.objs.size<=T->Noted (frs (env::outer)) e none s.heap h'->Q () { s with heap:=h'}) :
  wpAny Md A (do let a ←frameOf env;let pl ←entryPlaceOf L had;let b ←EntryCells.newEntry head a .none (rawInt L) .none pl;setField (.ref e) 1 b) Q E s:=by
 have nf:e∉(env::outer).filterMap (·.frame):=fun hm=>by
  obtain⟨_,o,ho,hn⟩:=hl.mem hm
  rw[he] at ho
  cases ho
  exact hn vs rfl
 refine wpAny_bind (wpAny_frameOf_fun hfr hl hf fun h1 so=>wpAny_bind (wpAny_entryPlaceOf fun pl hpl=>?_))
 unfold EntryCells.newEntry newFields
 refine wpAny_bind (wpAny_newObj_type ?_ (hpl.sizeOk5 _ _ _ _ _))
 generalize hts:([head,Value.ref L,Value.none,rawInt L,Value.none]++if pl.isEmpty=true then List.replicate 6 Value.none else pl).toArray=ts
 have t3:ts[3]? =some (rawInt L):=by rw[←hts];simp
 have e1:h1.get? e=some ⟨C,dx,.fields vs,sl⟩:=(so.2.1 e nf).trans he
 have nT:h1.objs.size≠e:=Nat.ne_of_gt (Heap.lt_size e1)
 have e2:=Heap.get?_push_of_some (h:=h1) { cls:=.type "traceback",data:=.fields ts} e1
 refine wpAny_setField e2 rfl hz (q _ h1.objs.size ?_ ?_ ?_)
 ·refine .inr ⟨h1.objs.size,vs.setIfInBounds 1 (.ref h1.objs.size),sl,rfl,Heap.get?_update_self _ e2 rfl,by simpa using hz,by simp[hz],nT,_,ts,(Heap.get?_update_other _ _ (Ne.symm nT)).trans (Heap.get?_push_size h1 rfl),rfl,t3⟩
 ·exact Nat.le_of_eq so.1.symm
 ·have up:∀b o,h1.get? b=some o->b≠e->((h1.push { cls:=.type "traceback",data:=.fields ts}).update e (Obj.mapFields (·.setIfInBounds 1 (.ref h1.objs.size)))).get? b=some o:=fun b o hb hbe=>by
   rw[Heap.get?_update_other _ _ (Ne.symm hbe)]
   exact Heap.get?_push_of_some _ hb
  refine⟨fun b o hb hn hbe _=>up b o ((so.2.1 b hn).trans hb) hbe,fun b o hb hbe _=>?_⟩
  obtain⟨sl',e'⟩:=so.2.2 b o hb
  exact⟨sl',up b _ e' hbe⟩
theorem Cq {C:Value}{dx tr:Option Addr}{Q:Unit->Shared->Prop}(hfr:A.frames=some (env::outer)) (hl:s.heap.FunFrames base (env::outer)) (hf:env.frame=some L) (x:Ef s.heap e C dx tr L)
  (q:∀h' T,Ef h' e C dx (some T) L->(s.heap.objs.size<=T\/tr=some T)->Noted (frs (env::outer)) e tr s.heap h'->Q () { s with heap:=h'}) :
  wpAny Md A (noteFrame (.ref e) env) Q E s:=by
 rcases x with⟨vs,sl,he,hz,ht⟩|⟨T,vs,sl,rfl,he,hz,h1,ne,oT,ts,hT,hd,h3⟩
 ·unfold noteFrame
  simp only[hf]
  cases tr with
  |none =>
   refine wpAny_bind (wpAny_field he rfl ht ?_)
   rw[if_neg (by decide)]
   exact Vf hfr hl hf he hz fun h' T x' n' N=>q h' T x' (.inl n') N
  |some T0 =>
   obtain⟨h1,hne,oT,ts,hT,hd,h3⟩:=ht
   refine wpAny_bind (wpAny_field he rfl h1 ?_)
   rw[if_pos (by simp)]
   refine wpAny_bind (wpAny_field hT hd h3 ?_)
   rw[if_neg (by simp[rawInt])]
   refine wpAny_bind (wpAny_setField hT hd (Array.getElem?_eq_some_iff.mp h3).1 ?_)
   have ot:∀b,b≠T0->(s.heap.update T0 (Obj.mapFields (·.setIfInBounds 3 Value.none))).get? b=s.heap.get? b:=fun b hb=>Heap.get?_update_other _ _ (Ne.symm hb)
   have nr:∀b o,s.heap.get? b=some o->(∀vs,o.data≠.fields vs)->b≠T0:=fun b o hb hn z=>by
    rw[z,hT] at hb
    cases hb
    exact hn ts hd
   refine Vf (s:={ s with heap:=s.heap.update T0 (Obj.mapFields (·.setIfInBounds 3 Value.none))}) hfr (hl.of_keeps fun b o hb hn=>⟨o,(ot b (nr b o hb hn)).trans hb,rfl⟩) hf ((ot e (Ne.symm hne)).trans he) hz fun h' T x' n' N=>q h' T x' (.inl ?_) ?_
   ·have n2:(s.heap.update T0 (Obj.mapFields (·.setIfInBounds 3 Value.none))).objs.size<=T:=n'
    rw[Heap.size_update] at n2
    exact n2
   ·exact⟨fun b o hb hn hbe hbt=>N.keep b o ((ot b fun z=>hbt (by rw[z])).trans hb) hn hbe (by simp),fun b o hb hbe hbt=>N.slot b o ((ot b fun z=>hbt (by rw[z])).trans hb) hbe (by simp)⟩
 ·exact wpAny_noteFrame_inFlight hf he rfl h1 hT hd h3 (q s.heap T (.inr ⟨T,vs,sl,rfl,he,hz,h1,ne,oT,ts,hT,hd,h3⟩) (.inr rfl) ⟨fun b o hb _ _ _=>hb,fun b o hb _ _=>⟨o.slots,hb⟩⟩)
theorem Vi {C:Value}{dx:Option Addr}{T:Addr}{fl:Option Addr}{Q:Unit->Shared->Prop}(x:Ef s.heap e C dx (some T) L) (hfl:fl=none\/fl=some L)
  (q:∀h',Ef h' e C dx (some T) L->(fl=none->Xq h' e C dx (some T))->Noted [] e (some T) s.heap h'->Q () { s with heap:=h'}):wpAny Md A (setFlight (.ref e) fl) Q E s:=by
 obtain⟨vs,sl,he,hz,h1,ne,oT,ts,hT,hd,z3⟩:∃vs sl,s.heap.get? e=some ⟨C,dx,.fields vs,sl⟩/\1<vs.size/\vs[1]? =some (.ref T)/\T≠e/\∃oT ts,s.heap.get? T=some oT/\oT.data=.fields ts/\3<ts.size:=by
  rcases x with⟨vs,sl,he,hz,h1,ne,oT,ts,hT,hd,h3⟩|⟨T',vs,sl,eT,he,hz,h1,ne,oT,ts,hT,hd,h3⟩
  ·exact⟨vs,sl,he,hz,h1,ne,oT,ts,hT,hd,(Array.getElem?_eq_some_iff.mp h3).1⟩
  ·cases eT;exact⟨vs,sl,he,hz,h1,ne,oT,ts,hT,hd,(Array.getElem?_eq_some_iff.mp h3).1⟩
 obtain⟨w,hw⟩:∃w:Value,w=fl.elim Value.none fun f=>rawInt f:=⟨_,rfl⟩
 have ot:∀b o,s.heap.get? b=some o->b≠T->(s.heap.update T (Obj.mapFields (·.setIfInBounds 3 w))).get? b=some o:=fun b o hb n=>(Heap.get?_update_other _ _ (Ne.symm n)).trans hb
 have nw:(s.heap.update T (Obj.mapFields (·.setIfInBounds 3 w))).get? T=some (Obj.mapFields (·.setIfInBounds 3 w) oT):=Heap.get?_update_self _ hT (by
  obtain⟨c,d,dt,sl⟩:=oT
  cases hd
  rfl)
 have nd:(Obj.mapFields (·.setIfInBounds 3 w) oT).data=.fields (ts.setIfInBounds 3 w):=by
  obtain⟨c,d,dt,sl⟩:=oT
  cases hd
  rfl
 have n3:(ts.setIfInBounds 3 w)[3]? =some w:=by simp[z3]
 have kp:Noted [] e (some T) s.heap (s.heap.update T (Obj.mapFields (·.setIfInBounds 3 w))):=⟨fun b o hb _ _ hn=>ot b o hb fun z=>hn (by rw[z]),fun b o hb _ hn=>⟨o.slots,ot b o hb fun z=>hn (by rw[z])⟩⟩
 unfold setFlight
 refine wpAny_bind (wpAny_field he rfl h1 ?_)
 rw[if_pos (show(Value.ref T != Value.none)=true from by simp),←hw]
 refine wpAny_setField hT hd z3 ?_
 rcases hfl with rfl|rfl
 ·have hw:w=.none:=hw
  subst hw
  have xo:Xq (s.heap.update T (Obj.mapFields (·.setIfInBounds 3 .none))) e C dx (some T):=⟨vs,sl,ot _ _ he (Ne.symm ne),hz,h1,ne,_,_,nw,nd,n3⟩
  exact q _ (.inl xo) (fun _=>xo) kp
 ·have hw:w=rawInt L:=hw
  subst hw
  exact q _ (.inr ⟨T,vs,sl,rfl,ot _ _ he (Ne.symm ne),hz,h1,ne,_,_,nw,nd,n3⟩) (fun z=>by cases z) kp
end
section
variable {X:Cx}{pins:List (Addr×Obj)}{σ:L2.St}{H:Hp}{s:Shared}{h h':Heap}{a:Addr}{C:Value}{dx tr:Option Addr}{fs:List Addr}{P:Program}{w:World}
theorem Vt (x:HOk P w H h) (ha:H a=some (.ext (Uw a C dx))) (ht:∀T,tr=some T->H T=none) (xo:Uw a C dx h') (N:Noted fs a tr h h') (hf:∀b∈fs,H b=none):HOk P w H h':=fun b u e=>by
 by_cases hb:b=a
 ·subst hb
  rw[ha] at e
  cases e
  exact c7 xo
 ·refine(x b u e).stay (fun c v hc q=>?_) (fun _ q=>q) fun _ _ q=>q
  have hn:∃u',H c=some u'/\c≠a:=by
   rcases hc with rfl|hc
   ·exact⟨u,e,hb⟩
   ·exact⟨_,hc,fun z=>by rw[z,ha] at hc;cases hc⟩
  obtain⟨u',e',hca⟩:=hn
  exact N.keep c v q (fun z=>by rw[hf c z] at e';cases e') hca (fun z=>by rw[ht c z] at e';cases e')
theorem Qo (I:Inv X pins σ H s) (xo:Uw a C dx h') (N:Noted fs a tr s.heap h') (hfs:∀b∈fs,b∈frs X.stack) (ha:H a=some (.ext (Uw a C dx)))
  (ht:∀T,tr=some T->H T=none/\X.s₀.heap.objs.size<=T/\T≠X.env.locals/\(∀x c,X.env.cells.lookup x=some c->c≠T)/\∀p∈X.pn++pins,p.1≠T):Inv X pins σ H { s with heap:=h'}:=by
 have na:∀b,H b=none->b≠a:=fun b n z=>by rw[z,ha] at n;cases n
 refine I.call' (s':={ s with heap:=h'}) (ch:=tr.toList) rfl ⟨fun b o q n hc hx=>?_,fun b o q n hc hx=>?_,fun b o q n hx=>n,fun b o q hx=>?_,fun b xs q=>q,fun b o u q=>q,fun b ps q=>⟨#[],by rw[q];simp⟩⟩
  (Vt I.hok ha (fun T z=>(ht T z).1) xo N fun b hb=>I.stkFree b (hfs b hb)) I.bare fun b hb=>?_
 ·exact N.keep b o q (fun z=>hc (hfs b z)) (na b n) fun z=>hx (by rw[z];simp)
 ·obtain⟨sl,e⟩:=N.slot b o q (na b n) fun z=>hx (by rw[z];simp)
  exact⟨sl,e⟩
 ·by_cases z:b=a
  ·obtain⟨vs,sl,e⟩:=xo
   exact⟨_,by rw[z];exact e⟩
  ·obtain⟨sl,e⟩:=N.slot b o q z fun z=>hx (by rw[z];simp)
   exact⟨_,e⟩
 ·have z:tr=some b:=by
   cases tr with
   |none=>cases hb
   |some T=>simp at hb;rw[hb]
  obtain⟨_,h1,h2,h3,h4⟩:=ht b z
  exact⟨.inr h1,h2,h3,h4⟩
end
inductive Rzp (X:Cx) (E:XK) (e:Value) (s':Shared):Prop
 |mk (pins:List (Addr×Obj)) (σ:L2.St) (H':Hp) (a:Addr) (C:Value) (dx tr:Option Addr):e=.ref a->Inv X pins σ H' s'->Ef s'.heap a C dx tr X.env.locals->H' a=some (.ext (Uw a C dx)) ->
 (∀T,tr=some T->H' T=none/\X.s₀.heap.objs.size<=T/\T≠X.env.locals/\(∀x c,X.env.cells.lookup x=some c->c≠T)/\∀p∈X.pn++pins,p.1≠T)->X.s₀.heap.objs.size<=a->E e (some a) H'->Rzp X E e s'
noncomputable abbrev Rz (X:Cx) (E:XK):Value->Shared->Prop:=Rzp X E
section
variable {X:Cx}{E:XK}
theorem zx {xe:Value->Shared->Prop}{pins:List (Addr×Obj)}{σ:L2.St}{H:Hp}{s:Shared}(I:Inv (tryX X X.pn xe) pins σ H s) (ok:X.Ok):Inv X pins σ H s:=⟨ok,I.os,I.bare,I.base,I.loc,I.cell,I.free,I.freeC,I.pin,I.hok,I.len,I.fx⟩
theorem a58 {xe:Value->Shared->Prop}{pins:List (Addr×Obj)}{σ:L2.St}{H:Hp}{s:Shared}(I:Inv X pins σ H s):Inv (tryX X X.pn xe) pins σ H s:=⟨Cx.Ok.tryX I.ok,I.os,I.bare,I.base,I.loc,I.cell,I.free,I.freeC,I.pin,I.hok,I.len,I.fx⟩
theorem Dw (hst:X.stack=X.env::X.outer) (hfr:X.env.frame=some X.env.locals):PassesOwn (model X.prog X.w) X.A X.env (Rz X E):=by
  rintro e s' ⟨pins,σ,H',a,C,dx,tr,rfl,I,x,ha,ht,na,hE⟩
  have fr:X.A.frames=some (X.env::X.outer):=by have:=I.ok.frames;rw[hst] at this;exact this
  have st:s'.heap.FunFrames X.base (X.env::X.outer):=by have:=I.stack;rw[hst] at this;exact this
  show wpAny _ _ (noteFrame (.ref a) X.env) _ _ s'
  refine Cq fr st hfr x fun h1 T x1 hT N1=>?_
  have I1:=Qo I x1.p N1 (fun b hb=>by rw[hst];exact hb) ha ht
  have fT:H' T=none/\X.s₀.heap.objs.size<=T/\T≠X.env.locals/\(∀x c,X.env.cells.lookup x=some c->c≠T)/\∀p∈X.pn++pins,p.1≠T:=by
    rcases hT with hT|hT
    · exact⟨I.hok.fresh hT,X9 I hT⟩
    · exact ht T hT
  obtain⟨vs,sl,he,h1'⟩:∃vs sl,h1.get? a=some ⟨C,dx,.fields vs,sl⟩/\vs[1]? =some (.ref T):=by
    rcases x1 with⟨vs,sl,he,hz,h1',_⟩|⟨T',vs,sl,eT,he,hz,h1',_⟩
    · exact⟨vs,sl,he,h1'⟩
    · cases eT;exact⟨vs,sl,he,h1'⟩
  show wpAny _ _ (do if(←field (.ref a) 1)==.none then unsupported "frame.own-activation:exception-without-traceback"
                     setFlight (.ref a) X.env.frame) _ _ _
  refine wpAny_bind (wpAny_field he rfl h1' ?_)
  rw[if_neg (by simp)]
  show wpAny _ _ (setFlight (.ref a) X.env.frame) _ _ _
  refine(Vi (s:={ s' with heap:=h1}) x1 (.inr hfr) fun h2 x2 _ N2=>?_)
  exact⟨pins,σ,H',a,C,dx,some T,rfl,Qo I1 x2.p N2 (fun b hb=>by cases hb) ha (fun T' z=>by cases z;exact fT),x2,ha,fun T' z=>by cases z;exact fT,na,hE⟩
theorem Dx:Uy (CXR X.prog X.w) (tryX X X.pn (Rz X E)) E:=by
 intro pins σ H1 s1 e s' I h
 obtain⟨a,C,dx,T,H',rfl,os,bare,un,hok,x,ha,hT,na,nT,hE⟩:=h
 have ok:X.Ok:=⟨I.ok.mod,I.ok.kind,I.ok.glob,I.ok.blt,I.ok.above,I.ok.inj,I.ok.has,I.ok.cab,I.ok.hd,I.ok.frames,I.ok.stk,I.ok.exf,I.ok.bs,I.ok.bsz,I.ok.noex,I.ok.exfs,I.ok.funs,I.ok.frf⟩
 have I':=I.call' (ch:=[]) os un hok bare fun b z=>absurd z (by simp)
 exact⟨pins,σ,H',a,C,dx,some T,rfl,zx I' ok,.inl x,ha,fun T' z=>by cases z;exact⟨hT,X9 I nT⟩,Nat.le_trans I.sz na,hE⟩
end
section
variable {P:Program}{w:World}{K:PySem.W.Frag}{mg:Str->Option Value}{base:Heap}{N:List Str}{qual:Str}{sc:Scope}{f:Addr}{cdv:Value}{A:Around}{outer:List Env}{s:Shared}{H:Hp}{E:XK}
theorem Ez {e:Value}{s':Shared}(h:Rz (uv (CXR P w) P w K mg base N qual sc f cdv A outer s H E) E e s'):(uv (CXR P w) P w K mg base N qual sc f cdv A outer s H E).xe e s':=by
 obtain⟨pins,σ,H',a,C,dx,tr,rfl,I,x,ha,ht,na,hE⟩:=h
 show wpAny _ _ (leaving _ (.ref a)) _ _ s'
 unfold leaving
 refine wpAny_bind (Cq (L:=s.heap.objs.size) I.ok.frames I.stack rfl x fun h1 T x1 hT N1=>?_)
 have I1:=Qo I x1.p N1 (fun b hb=>hb) ha ht
 have fT:H' T=none/\s.heap.objs.size<=T:=by
  rcases hT with hT|hT
  ·exact⟨I.hok.fresh hT,Nat.le_trans I.sz hT⟩
  ·exact⟨(ht T hT).1,(ht T hT).2.1⟩
 refine Vi (s:={ s' with heap:=h1}) x1 (.inl rfl) fun h2 x2 xo N2=>?_
 have xo:=xo rfl
 refine⟨a,C,dx,T,H',rfl,I.os,I.bare,?_,Vt (fs:=[]) (tr:=some T) I1.hok ha (fun T' z=>by cases z;exact fT.1) xo.p N2 (fun b hb=>by cases hb),xo,ha,fT.1,na,fT.2,hE⟩
 have n0:s.heap.get? a=none:=Heap.get?_none_of_le na
 have nT0:s.heap.get? T=none:=Heap.get?_none_of_le fT.2
 have u1:Un (frs outer) [] H H' s.heap h1:=At (L:=s.heap.objs.size) I.base N1 rfl (Heap.get?_none_of_le (Nat.le_refl _)) (Heap.get?_none_of_le na) (fun T' z=>Heap.get?_none_of_le (ht T' z).2.1)
 refine⟨fun b o q n hc hx=>N2.keep b o (u1.keep b o q n hc hx) (by simp) (fun z=>by rw[z,n0] at q;cases q) (fun z=>by cases z;rw[nT0] at q;cases q),fun b o q n hc hx=>?_,u1.free,fun b o q hx=>?_,u1.tups,u1.frzs,u1.tbls⟩
 ·obtain⟨sl,e⟩:=u1.slot b o q n hc hx
  obtain⟨sl',e'⟩:=N2.slot b _ e (fun z=>by rw[z,n0] at q;cases q) (fun z=>by cases z;rw[nT0] at q;cases q)
  exact⟨sl',e'⟩
 ·obtain⟨o',e⟩:=u1.there b o q hx
  obtain⟨sl',e'⟩:=N2.slot b _ e (fun z=>by rw[z,n0] at q;cases q) (fun z=>by cases z;rw[nT0] at q;cases q)
  exact⟨_,e'⟩
end
theorem Bx {X:Cx}{E:XK}{C fi:Addr}{fd:FuncData}{nm x self at_:Str}{ki:Nat}{e:Expr}{t:TE}{p cpos pos:Pos}(c:XCl X.K C fi nm) (F:FnOk X.prog X.w X.K X.mg X.base CX0 ki fi fd [self,at_] (spI C nm))
  (hr:Room (ki+1) X.A) (hg:Gl X x) (hm:X.mg x=some (.ref C)) (hb:z8 X.K fd [self,at_] [])
  (ha:PE (tryX X X.pn (Rz X E)) e t) (hdb:(x==("__debug__":Str))=false:=by decide)
  (he:∀env,starEach [e] env=[(false,eval e env)]:=by intro env;rfl) :
  PS (tryX X X.pn (Rz X E)) (.Raise (some (.Call (.Name x p) [e] [] cpos)) none pos) (fun _ σ H0=>t σ H0 fun v H1=>∃i,v=.int i/\i.natAbs.log2<1920 /\
   ∀a dx,H1 a=none->H1 dx=none->dx≠a->E (.ref a) (some a) (upd (upd H1 a (.ext (Uw a (.ref C) (some dx)))) dx (.xd [(nm,.int i)]))):=by
 intro pins s0 σ H0 D I h
 have hm':(tryX X X.pn (Rz X E)).mg x=some (.ref C):=hm
 have okX:X.Ok:=⟨I.ok.mod,I.ok.kind,I.ok.glob,I.ok.blt,I.ok.above,I.ok.inj,I.ok.has,I.ok.cab,I.ok.hd,I.ok.frames,I.ok.stk,I.ok.exf,I.ok.bs,I.ok.bsz,I.ok.noex,I.ok.exfs,I.ok.funs,I.ok.frf⟩
 rw[arm_exec_Raise]
 refine wpAny_bind (wpAny_standAt (Dz c.own hr.hd ?_))
 refine wpAny_bind (wpAny_mono (wpAny_Call_Name_kw (y4 I (show Gl (tryX X X.pn (Rz X E)) x from hg) hm' ?_ hdb)) (fun v s₃ h₃=>wpAny_bind (wpAny_standAt (wpAny_pure h₃))) fun _ _ x=>x)
 let W:V->Hp->Prop:=fun v H1=>∃i,v=.int i/\i.natAbs.log2<1920/\∀a dx,H1 a=none->H1 dx=none->dx≠a->E (.ref a) (some a) (upd (upd H1 a (.ext (Uw a (.ref C) (some dx)))) dx (.xd [(nm,.int i)]))
 refine PySem.W.callWith_K (h₀:=X.base) I.ok.mod.kin c.kp (thn ((Ua ha Qw (he _)) cpos pins s0 σ H0 (fun vs H1=>match vs with|[v]=>W v H1|_=>False) I h) fun us s1 ⟨vs,H1,I1,r,q⟩=>⟨I1.kIn,?_⟩) (he _) rfl
 cases r with
 |nil=>exact q.elim
 | @cons v u vs' us' rv rs =>
  cases rs with
  |cons _ _=>exact q.elim
  |nil =>
   obtain⟨i,rfl,hi,q⟩:=q
   obtain⟨nm',qn,N',bs,bm,hd,sn,sub,ab,col,dd,k0,k1,k2,k3,k5,mN,hC,hn,hi',T⟩:=Gz I1.kIn c.own
   have I2:=(I1.kept (h':=s1.heap.push { cls:=.type "tuple",data:=.seq [u].toArray}) (t':=s1.toks) fun b o e=>Heap.get?_push_of_some _ e).laid (a:=s1.heap.objs.size+1) (o:=.ext (Y5 (s1.heap.objs.size+1) (.ref C) none)) (h':=Y6 s1.heap C [u]) (t':=s1.toks)
    (fun b o e=>Heap.get?_push_of_some _ e) (by show _<=_;exact Nat.le_of_eq (Heap.size_push _ _)) (D9 ⟨s1.heap.objs.size,Heap.get?_push_at (by rw[Heap.size_push]) rfl⟩)
   have fa:H1 (s1.heap.objs.size+1)=none:=I1.hok.fresh (Nat.le_succ _)
   obtain⟨hp,g,d,tk,os⟩:=s1
   have sp:=F.run _ _ _ _ ⟨[.ref (hp.objs.size+1),u],[]⟩ [.ref (hp.objs.size+1),u] [.ref (hp.objs.size+1),.int i] (fun v H3=>v=.non/\∃dx,upd H1 (hp.objs.size+1) (.ext (Y5 (hp.objs.size+1) (.ref C) none)) dx=none/\H3=upd (upd (upd H1 (hp.objs.size+1) (.ext (Y5 (hp.objs.size+1) (.ref C) none))) (hp.objs.size+1) (.ext (Y5 (hp.objs.size+1) (.ref C) (some dx)))) dx (.xd [(nm,.int i)])) E0
    (hr.make C [u] []) (I2.env0.make C [u] []) (hb _ [.ref (hp.objs.size+1),u] I2.kIn rfl) (.cons rfl (.cons rv .nil)) ⟨hp.objs.size+1,i,rfl,hi,jt,fun dx hdx=>⟨rfl,dx,hdx,rfl⟩⟩
   refine F8 (us:=[u]) PySem.F.excBase_ValueError T hC hn hi' (by rw[sizeLine_eq];exact show 1<=16777216 by decide) (PySem.W.bind_fn I2.kIn _ (beq_iff_eq.mp c.fn)) (wpAny_call (codeAny_mono sp fun r s' hq'=>?_))
   cases r with
   |error e'=>exact hq'.elim
   |ok fl =>
    cases fl with
    |next=>exact False.elim hq'
    |brk=>exact False.elim hq'
    |cont=>exact False.elim hq'
    |ret u' =>
     obtain⟨v',H3,I3,rv',rfl,dx,hdx,rfl⟩:=I2.after hq'
     have ne:dx≠hp.objs.size+1:=fun z=>by rw[z,jt] at hdx;cases hdx
     have hd1:H1 dx=none:=by rw[jz ne] at hdx;exact hdx
     have e3:upd (upd (upd H1 (hp.objs.size+1) (.ext (Y5 (hp.objs.size+1) (.ref C) none))) (hp.objs.size+1) (.ext (Y5 (hp.objs.size+1) (.ref C) (some dx)))) dx (.xd [(nm,.int i)]) (hp.objs.size+1)=some (.ext (Y5 (hp.objs.size+1) (.ref C) (some dx))):=by
      rw[jz (Ne.symm ne),jt]
     obtain⟨raw,-,-⟩:=I3.hok _ _ e3
     refine⟨rv',hp.objs.size+1,some dx,rfl,I3.kIn,raw,?_⟩
     have xo:=raw.x
     have I4:=I3.write (x:=hp.objs.size+1) (e:=hp.objs.size+1) (o:=.ext (Uw (hp.objs.size+1) (.ref C) (some dx))) (h':=s'.heap) (t':=s'.toks) (by rw[e3];trivial) (.inl rfl) (fun b o _ z=>z) (let⟨_,z⟩:=raw;⟨_,z⟩) (c7 xo.p)
     have eH:upd (upd (upd (upd H1 (hp.objs.size+1) (.ext (Y5 (hp.objs.size+1) (.ref C) none))) (hp.objs.size+1) (.ext (Y5 (hp.objs.size+1) (.ref C) (some dx)))) dx (.xd [(nm,.int i)])) (hp.objs.size+1) (.ext (Uw (hp.objs.size+1) (.ref C) (some dx))) =
       upd (upd H1 (hp.objs.size+1) (.ext (Uw (hp.objs.size+1) (.ref C) (some dx)))) dx (.xd [(nm,.int i)]):=by
      funext b
      by_cases z:b=hp.objs.size+1
      ·subst z;rw[jt,jz (Ne.symm ne),jt]
      ·rw[jz z]
       by_cases z':b=dx
       ·subst z';rw[jt,jt]
       ·rw[jz z',jz z',jz z,jz z,jz z]
     rw[eH] at I4
     exact⟨pins,σ,_,hp.objs.size+1,.ref C,some dx,none,rfl,zx I4 okX,.inl xo,by rw[jz (Ne.symm ne),jt],(fun T z=>by cases z),Nat.le_trans I1.sz (Nat.le_succ _),q _ _ fa hd1 ne⟩
theorem Bh {X:Cx}{E:XK}{C fi:Addr}{fd:FuncData}{nm cn x self at_:Str}{ki k:Nat}{e:Expr}{m:MX}{xc:XCs}{p cpos pos:Pos}(hx:xc k=(cn,some nm)) (hcn:cA X.K cn=C) (c:XCl X.K C fi nm) (F:FnOk X.prog X.w X.K X.mg X.base CX0 ki fi fd [self,at_] (spI C nm))
  (hr:Room (ki+1) X.A) (hg:Gl X x) (hm:X.mg x=some (.ref C)) (hb:z8 X.K fd [self,at_] [])
  (ha:ME (tryX X X.pn (Rz X E)) (exT X.K xc E) e m) (hdb:(x==("__debug__":Str))=false:=by decide)
  (he:∀env,starEach [e] env=[(false,eval e env)]:=by intro env;rfl) :
  MS (tryX X X.pn (Rz X E)) (exT X.K xc E) (.Raise (some (.Call (.Name x p) [e] [] cpos)) none pos) (V4 k m):=by
 obtain⟨t,pt,st⟩:=ha
 refine⟨_,Bx c F hr hg hm hb pt hdb he,fun Z α G H σ ρ μ D R g=>?_⟩
 refine st Z α G H σ ρ μ _ R (GE.step (G:=GS X.K (exT X.K xc E) Z α G D) g (fun _ _ h=>h) (fun h=>h) fun d μ1 v α1 F1 H1 R1 e1 p1 g1=>?_)
 cases d with
 |int i =>
  dsimp only at g1
  split at g1
  ·rename_i hi
   obtain rfl:v=.int i:=p1
   refine⟨i,rfl,hi,fun a dx ha hd ne=>?_⟩
   have eH:del (upd (upd H1 a (.ext (Uw a (.ref C) (some dx)))) dx (.xd [(nm,.int i)])) a dx=H1:=by
    funext b
    unfold del
    split
    ·rename_i z
     rcases z with z|z
     ·rw[z,ha]
     ·rw[z,hd]
    ·rename_i z
     rw[jz (fun q=>z (.inr q)),jz (fun q=>z (.inl q))]
   refine g1 a dx (.int i) α1 F1 _ (by rw[eH];exact R1) rfl ?_
   rw[hx]
   exact⟨by rw[jz (Ne.symm ne),jt,hcn],jt⟩
  ·exact g1.elim
 |_=>exact g1.elim
section
variable {P:Program}{w:World}{K:PySem.W.Frag}{mg:Str->Option Value}{base:Heap}{xc:XCs}
theorem at4 {X:Cx}{E:XK}{nm x:Str}{ki k:Nat}{e:Expr}{m:MX}{p cpos pos:Pos}(R:aH4 X.prog X.w X.K X.mg X.base x nm ki) (hx:xc k=(x,some nm)) (hr:Room (ki+1) X.A) (hg:Gl X x)
  (ha:ME (tryX X X.pn (Rz X E)) (exT X.K xc E) e m) (hdb:(x==("__debug__":Str))=false:=by decide) (he:∀env,starEach [e] env=[(false,eval e env)]:=by intro env;rfl) :
  MS (tryX X X.pn (Rz X E)) (exT X.K xc E) (.Raise (some (.Call (.Name x p) [e] [] cpos)) none pos) (V4 k m):=by
 obtain⟨fi,fd,self,at_,h1,c,hb,F⟩:=R
 exact Bh hx rfl c F hr hg h1 (.all hb) ha hdb he
theorem Et {x:Str}{st:Stmt}{N ps:List Str}{k j n:Nat}{b:MSt}{f:Addr}{fd:FuncData}(F:Fun K x x st f fd) (S:FnScope N ps (defScope st)) (hj:N.length-ps.length=j) (hn:ps.length=n)
  (hb:∀(cdv:Value) (A:Around) (outer:List Env) (s:Shared) (H:Hp) (E:XK),Room k (A.deeper (envOfC x (defScope st) s.heap.objs.size f cdv)) ->
   MSs (tryX (uv (CXR P w) P w K mg base N x (defScope st) f cdv A outer s H E) [] (Rz (uv (CXR P w) P w K mg base N x (defScope st) f cdv A outer s H E) E)) (exT K xc E) (defBody st) b):FnOk P w K mg base (CXR P w) (k+1) f fd ps (spX K xc n (fnOf j b)):=by
 refine a73 F S hj hn fun cdv A outer s H E hr=>?_
 obtain⟨t,p,q⟩:=hb cdv A outer s H E hr
 refine⟨t,fun pins s' σ H' D I h=>?_,q⟩
 refine wpAny_mono (p pins s' σ H' D (a58 I) h) (fun fl s2 z=>?_) fun e s2 z=>Ez z
 cases fl with
 |next=>obtain⟨σ2,H2,I2,q2⟩:=z;exact⟨σ2,H2,zx I2 I.ok,q2⟩
 |brk=>obtain⟨σ2,H2,I2,q2⟩:=z;exact⟨σ2,H2,zx I2 I.ok,q2⟩
 |cont=>obtain⟨σ2,H2,I2,q2⟩:=z;exact⟨σ2,H2,zx I2 I.ok,q2⟩
 |ret u=>obtain⟨v,σ2,H2,I2,r,q2⟩:=z;exact⟨v,σ2,H2,zx I2 I.ok,r,q2⟩
end
noncomputable def Uj (t:MB) (n:MSt):Nat->En->Mu->Res Out
 |0,_,_=>.bad
 |k+1,ρ,μ=>(t ρ μ).bind fun b μ1=>if b=true then(n ρ μ1).bind fun o μ2=>match o with
   |.nx ρ2=>Uj t n k ρ2 μ2
   |.ct ρ2=>Uj t n k ρ2 μ2
   |.bk ρ2=>.ok (.nx ρ2) μ2
   |.rt d=>.ok (.rt d) μ2
  else .ok (.nx ρ) μ1
noncomputable def yu (k:Nat) (t:MB) (n:MSt):MSt:=fun ρ μ=>Uj t n k ρ μ
theorem yj {X:Cx}{EX:EXT}{c:Expr}{body:List Stmt}{t:MB}{n:MSt}{pos:Pos}(k:Nat) (hp:PassesOwn (model X.prog X.w) X.A X.env X.xe) (hc:MT X EX c t) (hb:MSs X EX body n):MS X EX (.While c body [] pos) (yu k t n):=by
 obtain⟨tc,pc,sc⟩:=hc
 obtain⟨tb,pb,sb⟩:=hb
 refine⟨_,a07 hp pc pb,fun Z α F H σ ρ μ D R g=>?_⟩
 refine⟨fun m σ H=>∃α' F' ρ' μ',RS X.K Z α' F' H σ ρ' μ'/\Ext α F α' F'/\GS X.K EX Z α F D (Uj t n m ρ' μ'),⟨k,α,F,ρ,μ,R,Ext.refl _ _,g⟩,?_⟩
 rintro m σ1 H1 ⟨α1,F1,ρ1,μ1,R1,e1,g1⟩
 cases m with
 |zero=>exact g1.elim
 |succ m =>
  refine sc Z α1 F1 H1 σ1 ρ1 μ1 _ R1 (GB.step (G:=GS X.K EX Z α F D) g1 (fun _ _ h=>h) (fun h=>h) fun b μ2 α2 F2 H2 R2 e2 g2=>?_)
  cases b with
  |false =>
   rw[if_neg (by decide)] at g2 ⊢
   exact g2 σ1 α2 F2 H2 (R1.to R2 e2) (e1.trans e2)
  |true =>
   rw[if_pos rfl] at g2 ⊢
   refine⟨fun σ' H'=>∃α' F' ρ' μ',RS X.K Z α' F' H' σ' ρ' μ'/\Ext α F α' F'/\GS X.K EX Z α F D (Uj t n m ρ' μ'),fun σ' H' h=>⟨m,Nat.lt_succ_self m,h⟩,?_⟩
   refine sb Z α2 F2 H2 σ1 ρ1 μ2 _ (R1.to R2 e2) ?_
   cases er:n ρ1 μ2 with
   |bad=>rw[er] at g2;exact g2
   |exc x μ3=>rw[er] at g2;exact g2
   |ok o μ3 =>
    rw[er] at g2
    cases o with
    |nx ρ3=>exact fun σ' α' F' H' R' e'=>⟨α',F',ρ3,μ3,R',e1.trans (e2.trans e'),g2⟩
    |ct ρ3=>exact fun σ' α' F' H' R' e'=>⟨α',F',ρ3,μ3,R',e1.trans (e2.trans e'),g2⟩
    |bk ρ3=>exact fun σ' α' F' H' R' e'=>g2 σ' α' F' H' R' (e1.trans (e2.trans e'))
    |rt d=>exact fun v α' F' H' R' e' r'=>g2 v α' F' H' R' (e1.trans (e2.trans e')) r'
noncomputable def Qj {β:Type}(nm:Str):List Str->List β->Option β
 |n::ns,d::ds=>if n=nm then some d else Qj nm ns ds
 |_,_=>none
noncomputable def putN {β:Type}(nm:Str) (v:β):List Str->List β->List Str×List β
 |n::ns,d::ds=>if n=nm then(n::ns,v::ds) else(n::(putN nm v ns ds).1,d::(putN nm v ns ds).2)
 |_,_=>([nm],[v])
theorem Vk {nm:Str}:∀(ns:List Str) (vs:List V),(ns.zip vs).lookup nm=Qj nm ns vs
 |[],_=>rfl
 |_::_,[]=>rfl
 |n::ns,v::vs=>by
  show List.lookup nm ((n,v)::ns.zip vs)=_
  rw[List.lookup_cons]
  unfold Qj
  by_cases h:n=nm
  ·subst h;rw[if_pos rfl];simp
  ·rw[if_neg h,show(nm==n)=false from beq_eq_false_iff_ne.mpr fun z=>h z.symm]
   exact Vk ns vs
theorem Fh {nm:Str}{v:V}:∀(ns:List Str) (vs:List V),ns.length=vs.length->zm nm v (ns.zip vs)=(putN nm v ns vs).1.zip (putN nm v ns vs).2
 |[],[],_=>rfl
 |[],_::_,h=>by simp at h
 |_::_,[],h=>by simp at h
 |n::ns,w::vs,h=>by
  show(if n=nm then(n,v)::ns.zip vs else(n,w)::zm nm v (ns.zip vs))=_
  unfold putN
  by_cases z:n=nm
  ·rw[if_pos z,if_pos z];rfl
  ·rw[if_neg z,if_neg z,Fh ns vs (by simpa using h)];rfl
theorem Vj {K:PySem.W.Frag}{F:Hp}{α:List Addr}{nm:Str}:∀{ns:List Str}{ds:List D}{vs:List V}{d:D},Reps K F α ds vs->Qj nm ns ds=some d->∃v,Qj nm ns vs=some v/\Rep K F α d v
 |[],_,_,_,_,h=>by cases h
 |_::_,[],_,_,_,h=>by cases h
 |n::ns,d::ds,vs,e,r,h=>by
  unfold Reps at r
  obtain⟨v,vr,rfl,r1,r2⟩:=r
  unfold Qj at h ⊢
  split at h
  ·rename_i z;cases h;exact⟨v,by rw[if_pos z],r1⟩
  ·rename_i z;rw[if_neg z];exact Vj r2 h
theorem Fg {K:PySem.W.Frag}{F:Hp}{α:List Addr}{nm:Str}{d:D}{v:V}(hd:Rep K F α d v):∀{ns:List Str}{ds:List D}{vs:List V},ns.length=ds.length->Reps K F α ds vs->(putN nm d ns ds).1=(putN nm v ns vs).1/\Reps K F α (putN nm d ns ds).2 (putN nm v ns vs).2/\(putN nm d ns ds).1.length=(putN nm d ns ds).2.length
 |[],[],vs,_,r=>by
  have:vs=[]:=List.length_eq_zero_iff.mp r.length.symm
  subst this
  exact⟨rfl,j5 hd J5,rfl⟩
 |[],_::_,_,h,_=>by simp at h
 |_::_,[],_,h,_=>by simp at h
 |n::ns,e::ds,vs,h,r=>by
  unfold Reps at r
  obtain⟨w,vr,rfl,r1,r2⟩:=r
  unfold putN
  by_cases z:n=nm
  ·rw[if_pos z,if_pos z];exact⟨rfl,j5 hd r2,by simpa using h⟩
  ·rw[if_neg z,if_neg z]
   obtain⟨h1,h2,h3⟩:=Fg hd (ns:=ns) (by simpa using h) r2
   exact⟨by rw[h1],j5 r1 h2,by simp[h3]⟩
noncomputable def Wx (ok:Str->Bool) (d:D) (μ:Mu):Option (Nat×Str×List Str×List D):=match d with
 |.ref k=>match μ[k]? with
  |some (.obj c ns ds)=>if ok c=true then some (k,c,ns,ds) else none
  |_=>none
 |_=>none
theorem Gq {K:PySem.W.Frag}{Z:ZS}{α:List Addr}{F H:Hp}{μ:Mu}{ok:Str->Bool}{d:D}{v:V}{k:Nat}{c:Str}{ns:List Str}{ds:List D}(R:RH K Z α F H μ) (p:Rep K F α d v) (h:Wx ok d μ=some (k,c,ns,ds)) :
  ∃a dx vs,v=.ref a/\d=.ref k/\ok c=true/\α[k]? =some a/\μ[k]? =some (.obj c ns ds)/\F a=none/\H a=some (.ins (cA K c) dx (ns.zip vs))/\ns.length=ds.length/\Reps K F α ds vs:=by
 cases d with
 |ref j =>
  unfold Wx at h
  dsimp only at h
  split at h
  ·rename_i c' ns' ds' hj
   split at h
   ·rename_i hok
    cases h
    unfold Rep at p
    obtain⟨a,ha,rfl⟩:=p
    obtain⟨h1,dx,vs,h2,h3,h4⟩:=R.cell k a _ ha hj
    exact⟨a,dx,vs,rfl,rfl,hok,ha,hj,h1,h2,h3,h4⟩
   ·cases h
  ·cases h
 |_=>cases h
section
variable {X:Cx}{EX:EXT}{o e value:Expr}{m mo mv:MX}{pos pos' tpos:Pos}
noncomputable abbrev ay1 (X:Cx) (ok:Str->Bool) (nm:Str):Prop:=∀c,ok c=true->Cls X.K (cA X.K c)/\zp X.K (cA X.K c) nm
noncomputable def z5 (ok:Str->Bool) (nm:Str) (m:MX):MX:=fun ρ μ=>(m ρ μ).bind fun d μ1=>ofO μ1 ((Wx ok d μ1).bind fun q=>Qj nm q.2.2.1 q.2.2.2)
theorem Z6 {ok:Str->Bool}{nm:Str}(hC:ay1 X ok nm) (ha:ME X EX e m) (hb:attributeBase e nm X.env (eval e X.env)=eval e X.env:=by rfl):ME X EX (.Attribute e nm pos) (z5 ok nm m):=by
 obtain⟨t,pt,st⟩:=ha
 refine⟨_,ar0 pt hb,fun Z α F H σ ρ μ Q R g=>?_⟩
 refine st Z α F H σ ρ μ _ R (GE.step (G:=GE X.K EX Z α F Q) g (fun _ _ h=>h) (fun h=>h) fun d μ1 v α1 F1 H1 R1 e1 p1 g1=>?_)
 cases h:Wx ok d μ1 with
 |none=>rw[h] at g1;exact g1.elim
 |some q =>
  obtain⟨k,c,ns,ds⟩:=q
  rw[h] at g1
  obtain⟨a,dx,vs,rfl,rfl,hk,ha,hc,hF,hH,hl,hr⟩:=Gq R1 p1 h
  cases hg:Qj nm ns ds with
  |none=>simp only[Option.bind_some,hg] at g1;exact g1.elim
  |some y =>
   simp only[Option.bind_some,hg] at g1
   obtain⟨u,hu,ru⟩:=Vj hr hg
   exact⟨a,_,dx,_,u,rfl,hH,(hC c hk).1,(hC c hk).2,by rw[Vk];exact hu,g1 u α1 F1 H1 R1 e1 ru⟩
noncomputable def vz (ok:Str->Bool) (nm:Str) (ρ:En) (d v:D) (μ:Mu):Res Out:=match Wx ok d μ with
 |some q=>if q.2.2.1.length<900 then .ok (.nx ρ) (μ.set q.1 (.obj q.2.1 (putN nm v q.2.2.1 q.2.2.2).1 (putN nm v q.2.2.1 q.2.2.2).2)) else .bad
 |none=>.bad
theorem C5 {K:PySem.W.Frag}{Z:ZS}{α:List Addr}{F H:Hp}{μ:Mu}{ok:Str->Bool}{nm:Str}{ρ:En}{d v:D}{x y:V}{G:Res Out->Prop}(hb:¬G .bad) (R:RH K Z α F H μ) (p:Rep K F α d x) (q:Rep K F α v y) (g:G (vz ok nm ρ d v μ)) :
  ∃a c dx fs μ',x=.ref a/\ok c=true/\H a=some (.ins (cA K c) dx fs)/\fs.length<1000/\RH K Z α F (upd H a (.ins (cA K c) dx (zm nm y fs))) μ'/\G (.ok (.nx ρ) μ'):=by
 unfold vz at g
 cases h:Wx ok d μ with
 |none=>rw[h] at g;exact absurd g hb
 |some w =>
  obtain⟨k,c,ns,ds⟩:=w
  rw[h] at g
  dsimp only at g
  split at g
  ·rename_i hn
   obtain⟨a,dx,vs,rfl,rfl,hk,ha,hc,hF,hH,hl,hr⟩:=Gq R p h
   obtain⟨h1,h2,h3⟩:=Fg (nm:=nm) q hl hr
   refine⟨a,c,dx,_,_,rfl,hk,hH,?_,R.setCell (c:=.obj c (putN nm v ns ds).1 (putN nm v ns ds).2) ha hc (by simp) ⟨hF,dx,(putN nm y ns vs).2,by rw[jt,Fh ns vs (hl.trans hr.length),←h1],h3,h2⟩,g⟩
   rw[List.length_zip]
   omega
  ·exact absurd g hb
noncomputable def a45 (ok:Str->Bool) (nm:Str) (mo mv:MX):MSt:=fun ρ μ=>(mv ρ μ).bind fun v μ1=>(mo ρ μ1).bind fun d μ2=>vz ok nm ρ d v μ2
theorem Cm {ok:Str->Bool}{nm:Str}(hC:ay1 X ok nm) (ho:ME X EX o mo) (hv:ME X EX value mv) (hs:swapsWith value (some (.Attribute o nm pos')) pos.line X.env=pure false:=by rfl):MS X EX (.Assign [.Attribute o nm pos'] value pos) (a45 ok nm mo mv):=by
 obtain⟨to,po,so⟩:=ho
 obtain⟨tv,pv,sv⟩:=hv
 refine⟨_,aq0 po pv hs,fun Z α F H σ ρ μ N R g=>?_⟩
 refine sv Z α F H σ ρ μ _ R (GE.step (G:=GS X.K EX Z α F N) g (fun _ _ h=>h) (fun h=>h) fun v μ1 y α1 F1 H1 R1 e1 p1 g1=>?_)
 refine so Z α1 F1 H1 σ ρ μ1 _ (R.to R1 e1) (GE.step (G:=GS X.K EX Z α F N) g1 (fun _ _ h=>h) (fun h=>h) fun d μ2 x α2 F2 H2 R2 e2 p2 g2=>?_)
 obtain⟨a,c,dx,fs,μ',rfl,hk,hH,hl,R3,g3⟩:=C5 (G:=GS X.K EX Z α F N) (fun h=>h) R2 p2 (p1.mono e2) g2
 exact⟨a,_,dx,fs,rfl,hH,(hC c hk).1,(hC c hk).2,hl,g3 σ α2 F2 _ ((R.to R2 (e1.trans e2)).to R3 (Ext.refl _ _)) (e1.trans e2)⟩
noncomputable def aH3 (a b:D):Option D:=match a,b with
 |.int i,.int j=>some (.int (i+j))
 |_,_=>none
noncomputable def Kw (ok:Str->Bool) (nm:Str) (mo mv:MX):MSt:=fun ρ μ=>(mo ρ μ).bind fun d μ1=>match(Wx ok d μ1).bind fun q=>Qj nm q.2.2.1 q.2.2.2 with
 |some w=>(mv ρ μ1).bind fun y μ2=>match aH3 w y with
  |some z=>vz ok nm ρ d z μ2
  |none=>.bad
 |none=>.bad
theorem Gh {ok:Str->Bool}{nm:Str}(hC:ay1 X ok nm) (hone:∀c c',ok c=true->ok c'=true->c=c') (ho:ME X EX o mo) (hv:ME X EX value mv):MS X EX (.AugAssign (.Attribute o nm tpos) .Add value pos) (Kw ok nm mo mv):=by
 obtain⟨to,po,so⟩:=ho
 obtain⟨tv,pv,sv⟩:=hv
 refine⟨_,Bw po pv a59,fun Z α F H σ ρ μ N R g=>?_⟩
 refine so Z α F H σ ρ μ _ R (GE.step (G:=GS X.K EX Z α F N) g (fun _ _ h=>h) (fun h=>h) fun d μ1 x α1 F1 H1 R1 e1 p1 g1=>?_)
 cases h:Wx ok d μ1 with
 |none=>rw[h] at g1;exact g1.elim
 |some q =>
  obtain⟨k,c,ns,ds⟩:=q
  rw[h] at g1
  obtain⟨a,dx,vs,rfl,rfl,hk,ha,hc,hF,hH,hl,hr⟩:=Gq R1 p1 h
  cases hg:Qj nm ns ds with
  |none=>simp only[Option.bind_some,hg] at g1;exact g1.elim
  |some w =>
   simp only[Option.bind_some,hg] at g1
   obtain⟨u,hu,ru⟩:=Vj hr hg
   refine⟨a,_,dx,_,u,rfl,hH,(hC c hk).1,(hC c hk).2,by rw[Vk];exact hu,?_⟩
   refine sv Z α1 F1 H1 σ ρ μ1 _ (R.to R1 e1) (GE.step (G:=GS X.K EX Z α F N) g1 (fun _ _ h=>h) (fun h=>h) fun y μ2 v α2 F2 H2 R2 e2 p2 g2=>?_)
   cases hz:aH3 w y with
   |none=>rw[hz] at g2;exact g2.elim
   |some z =>
    rw[hz] at g2
    have g2:GS X.K EX Z α F N (vz ok nm ρ (.ref k) z μ2):=g2
    cases w with
    |int i =>
     cases y with
     |int j =>
      cases hz
      obtain rfl:u=.int i:=ru
      obtain rfl:v=.int j:=p2
      obtain⟨a',c',dx',fs',μ',ea,hk',hH',hl',R3,g3⟩:=C5 (G:=GS X.K EX Z α F N) (y:=.int (i+j)) (fun h=>h) R2 (p1.mono e2) (rep_int _) g2
      cases ea
      obtain rfl:=hone c c' hk hk'
      exact⟨i,j,rfl,rfl,dx',fs',hH',hl',g3 σ α2 F2 _ ((R.to R2 (e1.trans e2)).to R3 (Ext.refl _ _)) (e1.trans e2)⟩
     |_=>cases hz
    |_=>cases hz
end
theorem RH.extra {K:PySem.W.Frag}{Z:ZS}{α:List Addr}{F H:Hp}{μ:Mu}{p:Addr}(o:HO) (r:RH K Z α F H μ) (hp:H p=none):RH K Z α F (upd H p o) μ:=by
 refine⟨fun b u e=>?_,r.len,fun k a c ha hc=>?_,fun b u e=>?_,r.zf,r.zc,r.dis,r.ext⟩
 ·rw[jz (js (r.sub b u e) hp)];exact r.sub b u e
 ·have h:=r.cell k a c ha hc
  exact h.go (Ext.refl _ _) (fun _=>rfl) fun hd=>let⟨_,_,z⟩:=h.live hd;jz (js z hp)
 ·rw[jz (js (r.zs b u e) hp)];exact r.zs b u e
noncomputable def ae1 (c:Str) (φ:Fn) (ds:List D) (μ:Mu):Res D:=(noX (φ (.ref μ.length::ds) (μ++[.obj c [] []]))).bind fun r μ2=>match r with
 |.non=>.ok (.ref μ.length) μ2
 |_=>.bad
noncomputable def af9 (c:Str) (φ:Fn) (ms:MAs):MX:=fun ρ μ=>(ms ρ μ).bind (ae1 c φ)
noncomputable def ay0 (P:Program) (w:World) (K:PySem.W.Frag) (mg:Str->Option Value) (base:Heap) (x:Str) (k n:Nat) (φ:Fn):Prop :=
 ∃f fd ps,mg x=some (.ref (cA K x))/\Mk K (cA K x) f/\yz fd ps/\ps.length=n+1/\FnOk P w K mg base CX0 k f fd ps (spM K (n+1) φ)
section
variable {X:Cx}{EX:EXT}{e:Expr}{es:List Expr}{ms:MAs}{p pos:Pos}
theorem a29 {Z:ZS}{α:List Addr}{F:Hp}{Q:VK}{α1:List Addr}{F1 H1:Hp}{μ1:Mu}{ds:List D}{vs:List V}{c:Str}{φ:Fn}{n:Nat}(R1:RH X.K Z α1 F1 H1 μ1) (e1:Ext α F α1 F1) (r:Reps X.K F1 α1 ds vs) (hl:ds.length=n) (g:GE X.K EX Z α F Q (ae1 c φ ds μ1)) :
  ∀x dx,H1 x=none->H1 dx=none->dx≠x->spM X.K (n+1) φ (.ref x::vs) (upd (upd H1 dx (.own x)) x (.ins (cA X.K c) dx [])) (fun v H2=>v=.non/\Q (.ref x) H2) E0:=by
 intro x dx hx hd ne
 have R2:=(R1.extra (.own x) hd).newCell (p:=x) (o':=.ins (cA X.K c) dx []) (c:=.obj c [] []) (by rw[jz (Ne.symm ne)];exact hx) ⟨a70 R1 hx,dx,[],jt,rfl,J5⟩
 have hrx:Rep X.K F1 (α1++[x]) (.ref μ1.length) (.ref x):=by
  unfold Rep
  exact⟨x,by rw[←R1.len,List.getElem?_append_right (Nat.le_refl _),Nat.sub_self];rfl,rfl⟩
 refine⟨Z,α1++[x],F1,.ref μ1.length::ds,μ1++[.obj c [] []],R2,j5 hrx (r.mono (Ur _ _ _)),by rw[List.length_cons,hl],?_⟩
 unfold ae1 at g
 cases er:φ (.ref μ1.length::ds) (μ1++[.obj c [] []]) with
 |bad=>rw[er] at g;exact g
 |exc y μ2=>rw[er] at g;exact g.elim
 |ok d μ2 =>
  rw[er] at g
  cases d with
  |non =>
   intro v α' F' H' R' e' r'
   refine⟨?_,g _ α' F' H' R' (e1.trans ((Ur _ _ _).trans e')) (hrx.mono e')⟩
   unfold Rep at r'
   exact r'
  |_=>exact g.elim
theorem at9 {c:Str}{k n:Nat}{φ:Fn}(mka:ay0 X.prog X.w X.K X.mg X.base c k n φ) (hr:Room (k+1) X.A) (hg:Gl X c) (ha:MA X EX (e::es) ms) (hn:(e::es).length=n) (hdb:(c==("__debug__":Str))=false:=by decide)
  (he:starEach (e::es) X.env=(false,eval e X.env)::starEach es X.env:=by rfl) (hpl:(backTo pos (starEach es X.env)).any (·.1)=false:=by rfl):ME X EX (.Call (.Name c p) (e::es) [] pos) (af9 c φ ms):=by
 obtain⟨f,fd,ps,h1,mk,hb,hl,F⟩:=mka
 obtain⟨t,pt,st,lt⟩:=ha
 refine⟨_,ab9 mk F hr hg h1 (.all hb) .nil Fc pt hdb he hpl,fun Z α G H σ ρ μ Q R g=>?_⟩
 refine st Z α G H σ ρ μ _ R (GA.stepE (G:=GE X.K EX Z α G Q) g (fun _ _ h=>h) (fun h=>h) fun ds μ1 vs α1 F1 H1 hm1 R1 e1 p1 g1=>?_)
 intro x dx hx hd ne
 rw[List.append_nil]
 exact a29 R1 e1 p1 ((lt _ _ _ _ hm1).trans hn) g1 x dx hx hd ne
end
section
variable {P:Program}{w:World}{K:PySem.W.Frag}{mg:Str->Option Value}{base:Heap}
theorem Es {x qual:Str}{st:Stmt}{N ps:List Str}{k j n:Nat}{b:MSt}{f:Addr}{fd:FuncData}(F:Fun K x qual st f fd) (S:FnScope N ps (defScope st)) (hj:N.length-ps.length=j) (hn:ps.length=n)
  (hb:∀(cdv:Value) (A:Around) (outer:List Env) (s:Shared) (H:Hp) (E:XK),Room k (A.deeper (envOfC qual (defScope st) s.heap.objs.size f cdv)) ->
   MSs (uv CX0 P w K mg base N qual (defScope st) f cdv A outer s H E).nox NoX (defBody st) b):FnOk P w K mg base CX0 (k+1) f fd ps (spM K n (fnOf j b)):=by
 subst hn
 exact am0 F S hj hb
noncomputable def MkD (K:PySem.W.Frag) (mg:Str->Option Value) (x qual:Str) (st:Stmt) (ps:List Str):Prop:=∃f fd,mg x=some (.ref (cA K x))/\Mk K (cA K x) f/\Fun K "__init__" qual st f fd/\yz fd ps
theorem ae9 {x qual:Str}{st:Stmt}{ps:List Str}{k n:Nat}{φ:Fn}(D:MkD K mg x qual st ps) (hn:ps.length=n+1) (hb:∀(f:Addr) (fd:FuncData),Fun K "__init__" qual st f fd->FnOk P w K mg base CX0 k f fd ps (spM K (n+1) φ)):ay0 P w K mg base x k n φ:=by
 obtain⟨f,fd,h1,h2,h3,h4⟩:=D
 exact⟨f,fd,ps,h1,h2,h4,hn,hb f fd h3⟩
end
theorem len_0 {β:Type}{us:List β}(h:us.length=0):us=[]:=List.length_eq_zero_iff.mp h
theorem E9 {β:Type}{us:List β}{n:Nat}(h:us.length=n+1):∃a vs,us=a::vs/\vs.length=n:=by
 cases us with
 |nil=>cases h
 |cons a vs=>exact⟨a,vs,rfl,Nat.succ.inj h⟩
theorem len_1 {β:Type}{us:List β}(h:us.length=1):∃a,us=[a]:=by
 obtain⟨a,vs,rfl,q⟩:=E9 h
 cases len_0 q
 exact⟨a,rfl⟩
theorem len_2 {β:Type}{us:List β}(h:us.length=2):∃a b,us=[a,b]:=by
 obtain⟨a,vs,rfl,q⟩:=E9 h
 obtain⟨b,rfl⟩:=len_1 q
 exact⟨a,b,rfl⟩
theorem len_3 {β:Type}{us:List β}(h:us.length=3):∃a b c,us=[a,b,c]:=by
 obtain⟨a,vs,rfl,q⟩:=E9 h
 obtain⟨b,c,rfl⟩:=len_2 q
 exact⟨a,b,c,rfl⟩
theorem len_4 {β:Type}{us:List β}(h:us.length=4):∃a b c d,us=[a,b,c,d]:=by
 obtain⟨a,vs,rfl,q⟩:=E9 h
 obtain⟨b,c,d,rfl⟩:=len_3 q
 exact⟨a,b,c,d,rfl⟩
theorem len_5 {β:Type}{us:List β}(h:us.length=5):∃a b c d e,us=[a,b,c,d,e]:=by
 obtain⟨a,vs,rfl,q⟩:=E9 h
 obtain⟨b,c,d,e,rfl⟩:=len_4 q
 exact⟨a,b,c,d,e,rfl⟩
section
variable {X:Cx}{EX:EXT}{o:Expr}{mo:MX}
end
theorem qu {P:Program}{w:World}{K:PySem.W.Frag}{mg:Str->Option Value}{base:Heap}{x:Str}{st:Stmt}{ps:List Str}{k n:Nat}(D:Jx K mg x st ps) (hn:ps.length=n):ui P w K mg base x k n (fun _ _=>.bad):=by
 refine bq D hn fun f fd F=>⟨fun vs H Q E h=>?_,fun A outer s H args us vs Q E _ _ _ _ h=>?_⟩
 ·obtain⟨Z,α,F,ds,μ,R,r,hl,g⟩:=h
  rw[←r.length,hl,hn]
 ·obtain⟨Z,α,F,ds,μ,R,r,hl,g⟩:=h
  exact g.elim
section
variable {X:Cx}{EX:EXT}{o a:Expr}{mo m:MX}{ms:MAs}
end
section
variable {prog:Program}{w:World}{A:Around}{E:Value->Shared->Prop}{s:Shared}
end
section
variable {X:Cx}{EX:EXT}{a:Expr}{ma:MX}{p1 p2 q1 q2:Pos}
end
theorem fnC {P:Program}{w:World}{K:PySem.W.Frag}{mg:Str->Option Value}{base:Heap}{x:Str}{st:Stmt}{ps:List Str}{k n j:Nat}{b:MSt}(D:Jx K mg x st ps) (N G:List Str) (S:FnScope N ps (defScope st)) (hl:Yb (defScope st) N=true) (hg:glB (defScope st) G=true) (hj:N.length-ps.length=j) (hn:ps.length=n)
  (hb:∀(f:Addr) (cdv:Value) (A:Around) (outer:List Env) (s:Shared) (H:Hp) (E:XK),Room k (A.deeper (envOfC x (defScope st) s.heap.objs.size f cdv))->Ct (uv CX0 P w K mg base N x (defScope st) f cdv A outer s H E).nox N G->MSs (uv CX0 P w K mg base N x (defScope st) f cdv A outer s H E).nox NoX (defBody st) b) :
  ui P w K mg base x (k+1) n (fnOf j b) :=
 bq D hn fun f fd F=>bt F S hj hn fun cdv A outer s H E hr=>hb f cdv A outer s H E hr (bg S.nd (Qs hl) (Vn hg) hr)
noncomputable def Jm (K:PySem.W.Frag) (x:Str) (st:Stmt):Prop:=∃(f:Addr) (oc:Value) (od:Option Addr) (kV doc pm:Value) (an:Option Addr) (cdv ct:Value) (osl:Array (Option Value)),PySem.W.nsIn K mainGlobals x=some (some (.ref f))/\K.lookup f=some ⟨oc,od,.func (PySem.W.fnOf x x (defArgs st) (defBody st) (defScope st) .none kV doc pm an cdv ct),osl⟩/\PySem.W.codeIn K cdv x=true/\PySem.W.keepIn K (.ref f)=true
theorem J2 {K:PySem.W.Frag}{mg:Str->Option Value}{h:Heap}{x:Str}{st:Stmt}{ps:List Str}(X:K.In h) (G:h.Ns mainGlobals mg) (d:Jm K x st) (hb:∀(kV doc pm:Value) (an:Option Addr) (cdv ct:Value),yz (PySem.W.fnOf x x (defArgs st) (defBody st) (defScope st) .none kV doc pm an cdv ct) ps):Jx K mg x st ps:=by
 obtain⟨f,oc,od,kV,doc,pm,an,cdv,ct,osl,a,l,c,k⟩:=d
 exact aw7 X G a l c k (hb kV doc pm an cdv ct)
theorem dfact {K:PySem.W.Frag}{x:Str}{st:Stmt}{f:Addr}{oc:Value}{od an:Option Addr}{osl:Array (Option Value)}{kV doc pm cdv ct:Value}(a:PySem.W.nsIn K mainGlobals x=some (some (.ref f))) (l:K.lookup f=some ⟨oc,od,.func (PySem.W.fnOf x x (defArgs st) (defBody st) (defScope st) .none kV doc pm an cdv ct),osl⟩)
  (c:PySem.W.codeIn K cdv x=true) (k:PySem.W.keepIn K (.ref f)=true):Jm K x st:=⟨f,oc,od,kV,doc,pm,an,cdv,ct,osl,a,l,c,k⟩
section
variable {X:Cx}{EX:EXT}
end
section
variable {K:PySem.W.Frag}{Z:ZS}{F H:Hp}{α:List Addr}{μ:Mu}{k:Nat}{a:Addr}{c:Cell}{d:D}{o:HO}
end
section
variable {X:Cx}{EX:EXT}
variable {a:Expr}{ma:MX}{p1 p2 q1 q2:Pos}
end
section
variable {α:Type}{Md:Model}{A:Around}{E:Value->Shared->Prop}{s:Shared}
end
section
variable {prog:Program}{w:World}{A:Around}{E:Value->Shared->Prop}{h:Heap}{g:Array GenState}{d:Drawn}{t:Nat}{os:OsState}{a:Addr}{o:Obj}
end
section
variable {prog:Program}{w:World}{κ:Type}[DecidableEq κ] {knd:KeyKind prog w κ}{A:Around}{E:Value->Shared->Prop}{h h':Heap}{it d l:Addr}
end
section
variable {X:Cx}{EX:EXT}
end
section
variable {X:Cx}{EX:EXT}{scope:Scope}{T caps:List Str}{ix:List Nat}{tg iter elt:Expr}{ifs:List Expr}{g:MG}{t:MB}{m:MX}{pos:Pos}
end
section
variable {prog:Program}{w:World}{A:Around}{E:Value->Shared->Prop}{h:Heap}{g:Array GenState}{d:Drawn}{t:Nat}{os:OsState}
variable {nm q:Str}{C N:Addr}{bs bm bmB:List Value}{hdct:Bool}{sn:List Str}{sub:List Value}{ab:Bool}{col:Option Bool}{dd:Option Addr}{k0 k1 k2 k3 k5:Option Value}{B newId initId:String}
end
noncomputable def b9:D->Bool
 |.str _=>true
 |_=>false
noncomputable def Ww (g:D->GL) (mo:MX) (ms:MAs):MX:=fun ρ μ=>(mo ρ μ).bind fun d μ1=>if b9 (deref μ1 d)=true then(ms ρ μ1).bind fun ds μ2=>ofO μ2 (g (deref μ2 d) (ds.map (deref μ2))) else .bad
noncomputable def Y1 (g:D->Option D) (mo:MX):MX:=fun ρ μ=>(mo ρ μ).bind fun d μ1=>if b9 (deref μ1 d)=true then ofO μ1 (g (deref μ1 d)) else .bad
noncomputable def B3 (K:PySem.W.Frag) (r:V->List V->Hp->VK->Prop) (g:D->GL):Prop:=∀Z α F H μ d ds c x vs Q,RH K Z α F H μ->Pk K α F H d x->Pks K α F H ds vs->g d ds=some c->(∀v F' H',RH K Z α F' H' μ->ja F F'->Rep K F' α c v->Q v H')->r x vs H Q
section
variable {X:Cx}{EX:EXT}{o e:Expr}{es:List Expr}{mo:MX}{ms:MAs}{name:Str}{id:String}{r:V->List V->Hp->VK->Prop}{apos cpos:Pos}
theorem au0 {g:D->GL}(slot:Slot "str" name id) (hty:typeOf (.builtin id)=pure (.type "method_descriptor")) (hm:MtR X id r) (hs:B3 X.K r g) (ho:ME X EX o mo) (ha:MA X EX (e::es) ms)
  (hbase:attributeBase o name X.env (eval o X.env)=eval o X.env:=by rfl)
  (hfew:((backTo cpos (starEach (e::es) X.env)).all (fun x=> !x.1)&&(backToKw cpos (keywordEach [] X.env)).all (fun x=>x.1.isSome)
   && decide ((e::es).length+([]:List Keyword).length+(if([]:List Keyword).isEmpty then 0 else 1)<30))=true:=by rfl)
  (hline:(apos.endLine==cpos.line)=true:=by rfl) (hst:starEach (e::es) X.env=(false,eval e X.env)::starEach es X.env:=by rfl) (hplain:(backTo cpos (starEach es X.env)).any (·.1)=false:=by rfl) :
  ME X EX (.Call (.Attribute o name apos) (e::es) [] cpos) (Ww g mo ms):=by
 obtain⟨to,po,so⟩:=ho
 obtain⟨ta,pa,sa,_⟩:=ha
 refine⟨_,ak5 PySem.F.plainAttrs_str slot hty hm po pa hbase hfew hline hst hplain,fun Z α F H σ ρ μ Q R g0=>?_⟩
 refine so Z α F H σ ρ μ _ R (GE.step (G:=GE X.K EX Z α F Q) g0 (fun _ _ h=>h) (fun h=>h) fun d μ1 v α1 F1 H1 R1 e1 p1 g1=>?_)
 by_cases hd:b9 (deref μ1 d)=true
 ·rw[if_pos hd] at g1
  refine⟨?_,?_⟩
  ·have k1:=R1.pk p1
   cases hq:deref μ1 d with
   |str z =>
    rw[hq] at k1
    have k1:=Uq k1
    subst k1
    exact rfl
   |_=>rw[hq] at hd;cases hd
  ·refine sa Z α1 F1 H1 σ ρ μ1 _ (R.to R1 e1) ?_
   cases hy:ms ρ μ1 with
   |exc x μ2=>rw[hy] at g1;exact g1
   |bad=>rw[hy] at g1;exact g1
   |ok ds μ2 =>
    rw[hy] at g1
    intro vs α2 F2 H2 R2 e2 p2
    have g1:GE X.K EX Z α F Q (ofO μ2 (g (deref μ2 d) (ds.map (deref μ2)))):=g1
    cases hc:g (deref μ2 d) (ds.map (deref μ2)) with
    |none=>rw[hc] at g1;exact g1.elim
    |some c =>
     rw[hc] at g1
     exact hs Z α2 F2 H2 μ2 _ _ c v vs Q R2 (R2.pk (p1.mono e2)) (R2.pks p2) hc fun u F' H' R' sf rp=>g1 u α2 F' H' R' (e1.trans (e2.trans ⟨sf,fun _ _ h=>h⟩)) rp
 ·rw[if_neg hd] at g1;exact g1.elim
theorem Cj {g:D->Option D}(slot:Slot "str" name id) (hty:typeOf (.builtin id)=pure (.type "method_descriptor")) (hm:MtR X id r) (hs:B3 X.K r (fun d ds=>match ds with
  |[]=>g d
  | _=>none)) (ho:ME X EX o mo)
  (hbase:attributeBase o name X.env (eval o X.env)=eval o X.env:=by rfl) (hline:(apos.endLine==cpos.line)=true:=by rfl) :
  ME X EX (.Call (.Attribute o name apos) [] [] cpos) (Y1 g mo):=by
 obtain⟨to,po,so⟩:=ho
 refine⟨_,ar2 PySem.F.plainAttrs_str slot hty hm po hbase hline,fun Z α F H σ ρ μ Q R g0=>?_⟩
 refine so Z α F H σ ρ μ _ R (GE.step (G:=GE X.K EX Z α F Q) g0 (fun _ _ h=>h) (fun h=>h) fun d μ1 v α1 F1 H1 R1 e1 p1 g1=>?_)
 by_cases hd:b9 (deref μ1 d)=true
 ·rw[if_pos hd] at g1
  refine⟨?_,?_⟩
  ·have k1:=R1.pk p1
   cases hq:deref μ1 d with
   |str z =>
    rw[hq] at k1
    have k1:=Uq k1
    subst k1
    exact rfl
   |_=>rw[hq] at hd;cases hd
  ·cases hc:g (deref μ1 d) with
   |none=>rw[hc] at g1;exact g1.elim
   |some c =>
    rw[hc] at g1
    exact hs Z α1 F1 H1 μ1 _ [] c v [] Q R1 (R1.pk p1) rfl hc fun u F' H' R' sf rp=>g1 u α1 F' H' R' (e1.trans ⟨sf,fun _ _ h=>h⟩) rp
 ·rw[if_neg hd] at g1;exact g1.elim
noncomputable def zi:D->Option D
 |.str x=>some (.bl (Txt.isdigit ⟨x.toArray⟩))
 |_=>none
theorem Dl:MtR X "str.isdigit" (fun x vs H Q=>∃z,x=.str z/\vs=[]/\Q (.bl (Txt.isdigit z)) H):=by
 intro pins s σ H x xs v us Q I rx rv h
 obtain⟨z,rfl,rfl,q⟩:=h
 obtain⟨t,rfl⟩:=rx
 have hus:=rv.zero
 subst hus
 exact SC.isdigit ⟨.bl _,H,I,rfl,q⟩
theorem Qu (ho:ME X EX o mo) (hbase:attributeBase o "isdigit" X.env (eval o X.env)=eval o X.env:=by rfl) (hline:(apos.endLine==cpos.line)=true:=by rfl) :
  ME X EX (.Call (.Attribute o "isdigit" apos) [] [] cpos) (Y1 zi mo):=by
 refine Cj PySem.F.slot_str_isdigit PySem.F.type_str_isdigit Dl (fun Z α F H μ d ds c x vs Q R hp hq hg k=>?_) ho hbase hline
 cases d with
 |str z =>
  cases ds with
  |nil =>
   have hp:=Uq hp
   subst hp
   cases hg
   have hv:vs=[]:=hq
   subst hv
   exact⟨_,rfl,rfl,k _ F H R (ja.refl _) (uh _)⟩
  |cons a b=>cases hg
 |_=>cases ds<;>cases hg
end
noncomputable abbrev mkS (x:List Nat):Str:=⟨x.toArray⟩
noncomputable def Zf:List D->Option (List (List Nat))
 |[]=>some []
 |.str x::ds=>(Zf ds).map (x:: ·)
 |_::_=>none
noncomputable def z6:D->GL:=fun d ds=>match d,ds with
 |.str x,[.lst ys]=>(Zf ys).bind fun ts=>if JoinOk (mkS x) (ts.map mkS)=true then some (.str (Txt.join (mkS x) (ts.map mkS)).cps.toList) else none
 |_,_=>none
theorem K4 {K:PySem.W.Frag}{F:Hp}{α:List Addr}:∀{ys:List D}{vs:List V}{ts:List (List Nat)},Reps K F α ys vs->Zf ys=some ts->vs=(ts.map mkS).map V.str
 |[],vs,ts,h,e=>by
  unfold Reps at h
  cases e
  exact h
 |d::ys,vs,ts,h,e=>by
  unfold Reps at h
  obtain⟨v,r,rfl,h1,h2⟩:=h
  cases d with
  |str x =>
   cases e2:Zf ys with
   |none=>simp[Zf,e2] at e
   |some t2 =>
    simp only[Zf,e2,Option.map_some,Option.some.injEq] at e
    subst e
    rw[K4 h2 e2]
    unfold Rep at h1
    rw[h1]
    rfl
  |_=>cases e
theorem kc:∀{ts:List Str}{us:List Value},J8 (ts.map V.str) us->∃l:List (Str×Tok),us=strValues l/\l.map (·.1)=ts
 |[],us,h=>by cases h;exact⟨[],rfl,rfl⟩
 |t::ts,us,h=>by
  cases h with
  |cons h1 h2 =>
   obtain⟨k,rfl⟩:=h1
   obtain⟨l,rfl,e⟩:=kc h2
   exact⟨(t,k)::l,rfl,by rw[List.map_cons,e]⟩
section
variable {X:Cx}{EX:EXT}{o e:Expr}{es:List Expr}{mo:MX}{ms:MAs}{apos cpos:Pos}
theorem ae5:MtR X "str.join" (fun x vs H Q=>∃z p ts,x=.str z/\vs=[.ref p]/\SqL X.K H p (ts.map V.str)/\JoinOk z ts=true/\Q (.str (Txt.join z ts)) H):=by
 intro pins s σ H x xs v us Q I rx rv h
 obtain⟨z,p,ts,rfl,rfl,hs,hok,q⟩:=h
 obtain⟨t,rfl⟩:=rx
 obtain⟨u,rfl,ru⟩:=rv.one
 cases ru
 obtain⟨its,r,pl,hz⟩:=I.list hs
 obtain⟨l,rfl,hl⟩:=kc r
 exact SC.join pl.isList hl hok fun t' k=>⟨.str _,H,I.tok _,⟨_,rfl⟩,q⟩
theorem Cg (ho:ME X EX o mo) (ha:MA X EX [e] ms) (hbase:attributeBase o "join" X.env (eval o X.env)=eval o X.env:=by rfl)
  (hfew:((backTo cpos (starEach [e] X.env)).all (fun x=> !x.1)&&(backToKw cpos (keywordEach [] X.env)).all (fun x=>x.1.isSome)
   && decide ([e].length+([]:List Keyword).length+(if([]:List Keyword).isEmpty then 0 else 1)<30))=true:=by rfl)
  (hline:(apos.endLine==cpos.line)=true:=by rfl) (hst:starEach [e] X.env=(false,eval e X.env)::starEach [] X.env:=by rfl) (hplain:(backTo cpos (starEach [] X.env)).any (·.1)=false:=by rfl) :
  ME X EX (.Call (.Attribute o "join" apos) [e] [] cpos) (Ww z6 mo ms):=by
 refine au0 PySem.F.slot_str_join PySem.F.type_str_join ae5 (fun Z α F H μ d ds c x vs Q R hp hq hg k=>?_) ho ha hbase hfew hline hst hplain
 cases d with
 |str z =>
  match ds,hg with
  |[.lst ys],hg =>
   have hp:=Uq hp
   subst hp
   obtain⟨v,r,rfl,⟨q,us,rfl,hs,hr⟩,hq2⟩:=hq
   have hq2:r=[]:=hq2
   subst hq2
   simp only[z6,Option.bind_eq_some_iff] at hg
   obtain⟨ts,e1,hg⟩:=hg
   split at hg
   ·rename_i hok
    cases hg
    exact⟨_,q,ts.map mkS,rfl,rfl,by rw[←K4 hr e1];exact hs,hok,k _ F H R (ja.refl _) (qi _)⟩
   ·cases hg
 |_=>simp[z6] at hg
noncomputable def Km:GL:=fun ds=>match ds with
 |[.str x]=>if x.length<=640 then(PySem.intText? (mkS x)).map .int else none
 |_=>none
theorem ag:ze X (.type "int") (fun xs H Q=>∃z n,xs=[.str z]/\z.length<=640/\PySem.intText? z=some n/\Q (.int n) H):=by
 intro pins s σ H xs us Q I r h
 obtain⟨z,n,rfl,hl,hn,q⟩:=h
 obtain⟨u,rfl,rx⟩:=we r
 obtain⟨t,rfl⟩:=rx
 exact PySem.W.KIN.call_text hn hl ⟨.int n,H,I.tok _,⟨_,rfl⟩,q⟩
theorem bf:W7 X (.type "int") Km:=by
 refine⟨_,ag,fun Z α F H μ ds c vs Q R hp hg k=>?_⟩
 match ds,hg with
 |[.str x],hg =>
  obtain⟨v,rfl,h1⟩:=a09 hp
  rw[Uq h1]
  simp only[Km] at hg
  split at hg
  ·rename_i hl
   obtain⟨n,hn,rfl⟩:=Option.map_eq_some_iff.mp hg
   exact⟨_,n,rfl,by simpa[Str.length] using hl,hn,k _ F H R (ja.refl _) (rep_int _)⟩
  ·cases hg
noncomputable def bw:GL:=fun ds=>match ds with
 |[.int i]=>if i.natAbs.log2<1920 then some (.str (Str.ofString (toString i)).cps.toList) else none
 |[.str x]=>some (.str x)
 |_=>none
theorem ai:ze X (.type "str") (fun xs H Q=>(∃i,xs=[.int i]/\i.natAbs.log2<1920/\Q (.str (toString i)) H)\/∃z,xs=[.str z]/\Q (.str z) H):=by
 intro pins s σ H xs us Q I r h
 rcases h with⟨i,rfl,hi,q⟩|⟨z,rfl,q⟩
 ·exact F7 pins s σ H _ us Q I r ⟨i,rfl,hi,q⟩
 ·obtain⟨u,rfl,rx⟩:=we r
  obtain⟨t,rfl⟩:=rx
  exact PySem.P.str_of_str ⟨.str z,H,I,⟨_,rfl⟩,q⟩
theorem aw8:W7 X (.type "str") bw:=by
 refine⟨_,ai,fun Z α F H μ ds c vs Q R hp hg k=>?_⟩
 match ds,hg with
 |[.int i],hg =>
  obtain⟨v,rfl,h1⟩:=a09 hp
  rw[zz h1]
  simp only[bw] at hg
  split at hg
  ·rename_i hl
   cases hg
   exact .inl ⟨i,rfl,hl,k _ F H R (ja.refl _) (qi _)⟩
  ·cases hg
 |[.str x],hg =>
  obtain⟨v,rfl,h1⟩:=a09 hp
  rw[Uq h1]
  cases hg
  exact .inr ⟨_,rfl,k _ F H R (ja.refl _) (qi _)⟩
end
section
variable {X:Cx}{EX:EXT}{o a:Expr}{mo m:MX}{ms:MAs}
end
theorem am8 {K:PySem.W.Frag}{H:Hp}{a q:Addr}{C:Str}{o:HO}(h:XI K H a C) (hq:H q=none):XI K (upd H q o) a C:=by
 rcases h with⟨dx,fs,h1,h2⟩|h1
 ·exact .inl ⟨dx,fs,by rw[jz (js h1 hq)];exact h1,by rw[jz (js h2 hq)];exact h2⟩
 ·exact .inr (by rw[jz (js h1 hq)];exact h1)
section
variable {X:Cx}{EX:EXT}{e:Expr}{m:MX}{pos:Pos}
noncomputable def PCs (X:Cx) (es:List Expr) (Ts:List Addr):Prop:=∀(pos:Pos) (pins:List (Addr×Obj)) (s:Shared) (σ:L2.St) (H:Hp),Inv X pins σ H s->wpAny (model X.prog X.w) X.A (spliced (backTo pos (starEach es X.env))) (AP X pins σ fun vs H1=>H1=H/\vs=Ts.map .ref) X.xe s
theorem ac4:PCs X [] []:=fun _ _ _ _ H I=>Calls.spliced_nil ⟨[],H,I,.nil,rfl,rfl⟩
theorem xr {x:Str}{T:Addr}{p:Pos}{es:List Expr}{Ts:List Addr}(hg:Gl X x) (hm:X.mg x=some (.ref T)) (h:PCs X es Ts) (hd:(x==("__debug__":Str))=false:=by decide)
  (hs:starEach (.Name x p::es) X.env=(false,eval (.Name x p) X.env)::starEach es X.env:=by rfl):PCs X (.Name x p::es) (T::Ts):=by
 intro pos pins s σ H I
 rw[hs]
 show wpAny _ _ (spliced ((false,eval (.Name x p) X.env)::backTo pos (starEach es X.env))) _ _ s
 refine Calls.spliced_cons (y4 I hg hm ?_ hd)
 exact thn (h pos pins s σ H I) fun us s2 ⟨xs,H2,I2,r2,e1,e2⟩=>⟨.ref T::xs,H2,I2,.cons rfl r2,e1,by rw[e2];rfl⟩
theorem ah {g:Str->Option Bool}{Ts:List Addr}(hg:∀C b,g C=some b->XGet X.K (cA X.K C)/\PySem.W.kitAny X.K (.ref (cA X.K C)) (Ts.map .ref)=some b) :
  ze X (.builtin "isinstance") (fun xs H Q=>∃a C b tp,xs=[.ref a,.ref tp]/\g C=some b/\XI X.K H a C/\H tp=some (.tup (Ts.map .ref))/\Q (.bl b) H):=by
 intro pins s σ H xs us Q I r h
 obtain⟨a,C,b,tp,rfl,hb,h1,h3,q⟩:=h
 obtain⟨u,w',rfl,r1,r2⟩:=cm r
 obtain rfl:u=.ref a:=r1
 obtain rfl:w'=.ref tp:=r2
 obtain⟨ox,od,J⟩:=h1.inst I.hok
 obtain⟨c',kit⟩:=hg C b hb
 obtain⟨-,its,rv,o,ho,hcl,n,hd⟩:=I.hok tp _ h3
 have ei:its=Ts.map .ref:=by
  clear hd h3 hg kit h1
  generalize hv:Ts.map V.ref=vs at rv
  induction rv generalizing Ts with
  |nil=>cases Ts with
   |nil=>rfl
   |cons _ _=>cases hv
  |cons r rs ih=>cases Ts with
   |nil=>cases hv
   |cons T Ts' =>
    cases hv
    rw[ih rfl]
    cases(show _=Value.ref T from r)
    rfl
 subst ei
 obtain⟨oc,odd,odt,osl⟩:=o
 cases hcl
 cases hd
 exact PySem.W.kia_tup (Ey (ox:=ox) (od:=od) c') I.kIn J ho kit (fun z=>nomatch z) fun tk=>⟨.bl b,H,I.tok _,rfl,q⟩
theorem af1 {g:Str->Option Bool}{es:List Expr}{Ts:List Addr}{x1} {p p2:Pos}(hT:PCs X es Ts) (hl:Ts.length<=1000) (hg:∀C b,g C=some b->XGet X.K (cA X.K C)/\PySem.W.kitAny X.K (.ref (cA X.K C)) (Ts.map .ref)=some b)
  (hG:Gl X "isinstance") (hm:X.mg "isinstance"=none) (ha:ME X EX e m) (hs:starEach [e,.Tuple es x1 p2] X.env=(false,eval e X.env)::starEach [.Tuple es x1 p2] X.env:=by rfl) (hs2:starEach [.Tuple es x1 p2] X.env=[(false,eval (.Tuple es x1 p2) X.env)]:=by rfl) :
  ME X EX (.Call (.Name "isinstance" p) [e,.Tuple es x1 p2] [] pos) (Gf g m):=by
 obtain⟨t,pt,st⟩:=ha
 have hc:PE X (.Tuple es x1 p2) (fun σ H Q=>∀q,H q=none->Q (.ref q) (upd H q (.tup (Ts.map .ref)))):=by
  intro pins s σ H Q I h
  refine wpAny_Tuple_spliced (thn (hT p2 pins s σ H I) fun us s1 ⟨xs,H1,I1,r,e1,e2⟩=>?_)
  subst e1 e2
  have z:(Ts.map V.ref).length<=sizeLine:=by rw[List.length_map,sizeLine_eq];omega
  refine⟨by rw[←r.length];exact z,?_⟩
  have hf:H1 s1.heap.objs.size=none:=I1.hok.fresh (Nat.le_refl _)
  refine⟨.ref s1.heap.objs.size,upd H1 s1.heap.objs.size (.tup (Ts.map .ref)),I1.laid (t':=s1.toks) (fun b u e=>Heap.get?_push_of_some _ e) (Nat.le_refl _) ?_,rfl,h _ hf⟩
  exact⟨z,us,r,⟨_,Heap.get?_push_size _ rfl,rfl,_,rfl⟩⟩
 refine⟨_,xt (ah hg) hG hm PyProof.Rows.boot_isinstance (Ua pt (Ua hc Qw hs2) hs) (by decide) (by decide) hs (by rw[hs2];rfl),fun Z α F H σ ρ μ Q R g=>?_⟩
 refine st Z α F H σ ρ μ _ R (GE.step (G:=GE X.K EX Z α F Q) g (fun _ _ h=>h) (fun h=>h) fun d μ1 v α1 F1 H1 R1 e1 p1 g1=>?_)
 obtain⟨a,C,b,rfl,hb,h1,q⟩:=Ew R1 e1 p1 g1
 refine fun q' hq=>⟨a,C,b,q',rfl,hb,am8 h1 hq,jt,q _ α1 _ _ (R1.lay _ hq) (e1.trans (R1.layExt _ hq)) (uh _)⟩
end
section
variable {K:PySem.W.Frag}{Z:ZS}{F H:Hp}{α:List Addr}{μ:Mu}{j:Nat}{a:Addr}{ds:List D}{vs:List V}
end
section
variable {X:Cx}{EX:EXT}{scope:Scope}{T caps:List Str}{ix:List Nat}{tg iter elt:Expr}{ifs:List Expr}{g:MG}{t:MB}{m mo:MX}{pos:Pos}
end
noncomputable def Zt (c m:Str) (d:D) (μ:Mu):Bool:=match d with
 |.ref k=>match μ[k]? with
  |some (.obj C ns _)=>decide (C=c/\m∉ns)
  |_=>false
 |_=>false
theorem E7 {m:Str}:∀{ns:List Str}{vs:List V},m∉ns->(ns.zip vs).lookup m=none
 |[],_,_=>rfl
 |_::_,[],_=>rfl
 |n::ns,v::vs,h=>by
  rw[List.zip_cons_cons,List.lookup_cons,show(m==n)=false from beq_eq_false_iff_ne.mpr (fun z=>h (by rw[z];exact List.mem_cons_self))]
  exact E7 fun z=>h (List.mem_cons_of_mem _ z)
theorem Gs {K:PySem.W.Frag}{Z:ZS}{α:List Addr}{F H:Hp}{μ:Mu}{c m:Str}{d:D}{v:V}(R:RH K Z α F H μ) (p:Rep K F α d v) (h:Zt c m d μ=true):∃a dx fs,v=.ref a/\H a=some (.ins (cA K c) dx fs)/\fs.lookup m=none:=by
 cases d with
 |ref k =>
  unfold Rep at p
  obtain⟨a,ha,rfl⟩:=p
  cases hc:μ[k]? with
  |none=>simp only[Zt,hc] at h;cases h
  |some cl =>
   cases cl with
   |obj C ns ds =>
    simp only[Zt,hc,decide_eq_true_eq] at h
    obtain⟨rfl,hn⟩:=h
    obtain⟨_,dx,vs,h1,_,_⟩:=R.cell k a _ ha hc
    exact⟨a,dx,_,rfl,h1,E7 hn⟩
   |_=>simp only[Zt,hc] at h;cases h
 |_=>cases h
noncomputable def mMe (c m:Str) (φ:Fn) (mo:MX) (ms:MAs):MX:=fun ρ μ=>(mo ρ μ).bind fun d μ1=>if Zt c m d μ1=true then(ms ρ μ1).bind fun ds μ2=>noX (φ (d::ds) μ2) else .bad
noncomputable def yf (c m:Str) (φ:Fn) (mo:MX) (ms:MAs):MX:=fun ρ μ=>(mo ρ μ).bind fun d μ1=>if Zt c m d μ1=true then(ms ρ μ1).bind fun ds μ2=>φ (d::ds) μ2 else .bad
noncomputable def Ee (P:Program) (w:World) (K:PySem.W.Frag) (mg:Str->Option Value) (base:Heap) (c m:Str) (k n:Nat) (φ:Fn):Prop :=
 ∃f fd ps,Cls K (cA K c)/\Meth K (cA K c) m f/\yz fd ps/\ps.length=n+1/\FnOk P w K mg base CX0 k f fd ps (spM K (n+1) φ)
noncomputable def Qd (P:Program) (w:World) (K:PySem.W.Frag) (mg:Str->Option Value) (base:Heap) (xc:XCs) (c m:Str) (k n:Nat) (φ:Fn):Prop :=
 ∃f fd ps,Cls K (cA K c)/\Meth K (cA K c) m f/\yz fd ps/\ps.length=n+1/\FnOk P w K mg base (CXR P w) k f fd ps (spX K xc (n+1) φ)
noncomputable def MtD (K:PySem.W.Frag) (c m qual:Str) (st:Stmt) (ps:List Str):Prop:=∃f fd,Cls K (cA K c)/\Meth K (cA K c) m f/\Fun K m qual st f fd/\yz fd ps
section
variable {P:Program}{w:World}{K:PySem.W.Frag}{mg:Str->Option Value}{base:Heap}{xc:XCs}
theorem ez {c m qual:Str}{st:Stmt}{ps:List Str}{k n:Nat}{φ:Fn}(D:MtD K c m qual st ps) (hn:ps.length=n+1) (hb:∀(f:Addr) (fd:FuncData),Fun K m qual st f fd->FnOk P w K mg base CX0 k f fd ps (spM K (n+1) φ)):Ee P w K mg base c m k n φ:=by
 obtain⟨f,fd,h1,h2,h3,h4⟩:=D
 exact⟨f,fd,ps,h1,h2,h4,hn,hb f fd h3⟩
theorem qg {c m qual:Str}{st:Stmt}{ps:List Str}{k n:Nat}{φ:Fn}(D:MtD K c m qual st ps) (hn:ps.length=n+1) (hb:∀(f:Addr) (fd:FuncData),Fun K m qual st f fd->FnOk P w K mg base (CXR P w) k f fd ps (spX K xc (n+1) φ)):Qd P w K mg base xc c m k n φ:=by
 obtain⟨f,fd,h1,h2,h3,h4⟩:=D
 exact⟨f,fd,ps,h1,h2,h4,hn,hb f fd h3⟩
theorem Ux {x:Str}{st:Stmt}{ps:List Str}{k n:Nat}(D:Jx K mg x st ps) (hn:ps.length=n):uj P w K mg base xc x k n (fun _ _=>.bad):=by
 refine uk D hn fun f fd F=>⟨fun vs H Q E h=>?_,fun A outer s H args us vs Q E _ _ _ _ h=>?_⟩
 ·obtain⟨Z,α,F,ds,μ,R,r,hl,g⟩:=h
  rw[←r.length,hl,hn]
 ·obtain⟨Z,α,F,ds,μ,R,r,hl,g⟩:=h
  exact g.elim
end
section
variable {X:Cx}{EX:EXT}{o e:Expr}{es:List Expr}{mo:MX}{ms:MAs}{c m:Str}{k n:Nat}{φ:Fn}{apos pos:Pos}{xc:XCs}{E:XK}{pl:Sem Bool}
theorem me_meth (F:Ee X.prog X.w X.K X.mg X.base c m k n φ) (hr:Room k X.A) (ho:ME X EX o mo) (ha:MA X EX (e::es) ms) (hl:(e::es).length=n)
  (hst:starEach (e::es) X.env=(false,eval e X.env)::starEach es X.env:=by rfl) (hpl:(backTo pos (starEach es X.env)).any (·.1)=false:=by rfl)
  (ht:eval (.Call (.Attribute o m apos) (e::es) [] pos) X.env=(do
   let ov ←eval o X.env
   standAt apos.atName
   let(f,first) ←holding [ov] (getMethod ov m pl)
   callWith pos f first (backTo pos (starEach (e::es) X.env)) (backToKw pos (keywordEach [] X.env))):=by rfl) :
  ME X EX (.Call (.Attribute o m apos) (e::es) [] pos) (mMe c m φ mo ms):=by
 obtain⟨f,fd,ps,c1,m1,b1,l1,F1⟩:=F
 obtain⟨to,po,so⟩:=ho
 obtain⟨t,pt,st,lt⟩:=ha
 refine⟨_,Cy (pl:=pl) po c1 m1 F1 hr (.all b1) .nil Fc pt hst hpl ht,fun Z α G H σ ρ μ Q R g=>?_⟩
 refine so Z α G H σ ρ μ _ R (GE.step (G:=GE X.K EX Z α G Q) g (fun _ _ h=>h) (fun h=>h) fun d μ1 v α1 F1 H1 R1 e1 p1 g1=>?_)
 by_cases hd:Zt c m d μ1=true
 ·rw[if_pos hd] at g1
  obtain⟨a,dx,fs,rfl,h2,h3⟩:=Gs R1 p1 hd
  refine⟨a,dx,fs,rfl,h2,h3,st Z α1 F1 H1 σ ρ μ1 _ (R.to R1 e1) ?_⟩
  cases hy:ms ρ μ1 with
  |exc x μ2=>rw[hy] at g1;exact g1
  |bad=>rw[hy] at g1;exact g1
  |ok ds μ2 =>
   rw[hy] at g1
   intro vs α2 F2 H2 R2 e2 p2
   rw[List.append_nil]
   exact⟨Z,α2,F2,d::ds,μ2,R2,j5 (p1.mono e2) p2,by rw[List.length_cons,lt _ _ _ _ hy,hl],GE.noX (GE.ext (e1.trans e2) g1)⟩
 ·rw[if_neg hd] at g1;exact g1.elim
theorem Jp (F:Ee X.prog X.w X.K X.mg X.base c m k 0 φ) (hr:Room k X.A) (ho:ME X EX o mo)
  (ht:eval (.Call (.Attribute o m apos) [] [] pos) X.env=(do
   let ov ←eval o X.env
   standAt apos.atName
   let(f,first) ←holding [ov] (getMethod ov m pl)
   callWith pos f first (backTo pos (starEach [] X.env)) (backToKw pos (keywordEach [] X.env))):=by rfl) :
  ME X EX (.Call (.Attribute o m apos) [] [] pos) (mMe c m φ mo mNil):=by
 obtain⟨f,fd,ps,c1,m1,b1,l1,F1⟩:=F
 obtain⟨to,po,so⟩:=ho
 refine⟨_,Fd (pl:=pl) po c1 m1 F1 hr (.all b1) .nil Fc ht,fun Z α G H σ ρ μ Q R g=>?_⟩
 refine so Z α G H σ ρ μ _ R (GE.step (G:=GE X.K EX Z α G Q) g (fun _ _ h=>h) (fun h=>h) fun d μ1 v α1 F1 H1 R1 e1 p1 g1=>?_)
 by_cases hd:Zt c m d μ1=true
 ·rw[if_pos hd] at g1
  obtain⟨a,dx,fs,rfl,h2,h3⟩:=Gs R1 p1 hd
  exact⟨a,dx,fs,rfl,h2,h3,Z,α1,F1,[d],μ1,R1,j5 p1 J5,rfl,GE.noX (GE.ext e1 g1)⟩
 ·rw[if_neg hd] at g1;exact g1.elim
theorem y2 (hx:Uy (CXR X.prog X.w) X E) (F:Qd X.prog X.w X.K X.mg X.base xc c m k n φ) (hr:Room k X.A) (ho:ME X (exT X.K xc E) o mo) (ha:MA X (exT X.K xc E) (e::es) ms) (hl:(e::es).length=n)
  (hst:starEach (e::es) X.env=(false,eval e X.env)::starEach es X.env:=by rfl) (hpl:(backTo pos (starEach es X.env)).any (·.1)=false:=by rfl)
  (ht:eval (.Call (.Attribute o m apos) (e::es) [] pos) X.env=(do
   let ov ←eval o X.env
   standAt apos.atName
   let(f,first) ←holding [ov] (getMethod ov m pl)
   callWith pos f first (backTo pos (starEach (e::es) X.env)) (backToKw pos (keywordEach [] X.env))):=by rfl) :
  ME X (exT X.K xc E) (.Call (.Attribute o m apos) (e::es) [] pos) (yf c m φ mo ms):=by
 obtain⟨f,fd,ps,c1,m1,b1,l1,F1⟩:=F
 obtain⟨to,po,so⟩:=ho
 obtain⟨t,pt,st,lt⟩:=ha
 refine⟨_,Cy (pl:=pl) po c1 m1 F1 hr (.all b1) .nil hx pt hst hpl ht,fun Z α G H σ ρ μ Q R g=>?_⟩
 refine so Z α G H σ ρ μ _ R (GE.step (G:=GE X.K (exT X.K xc E) Z α G Q) g (fun _ _ h=>h) (fun h=>h) fun d μ1 v α1 F1 H1 R1 e1 p1 g1=>?_)
 by_cases hd:Zt c m d μ1=true
 ·rw[if_pos hd] at g1
  obtain⟨a,dx,fs,rfl,h2,h3⟩:=Gs R1 p1 hd
  refine⟨a,dx,fs,rfl,h2,h3,st Z α1 F1 H1 σ ρ μ1 _ (R.to R1 e1) ?_⟩
  cases hy:ms ρ μ1 with
  |exc x μ2=>rw[hy] at g1;exact g1
  |bad=>rw[hy] at g1;exact g1
  |ok ds μ2 =>
   rw[hy] at g1
   intro vs α2 F2 H2 R2 e2 p2
   rw[List.append_nil]
   exact⟨Z,α2,F2,d::ds,μ2,R2,j5 (p1.mono e2) p2,by rw[List.length_cons,lt _ _ _ _ hy,hl],wq R2.ext (e1.trans e2) g1⟩
 ·rw[if_neg hd] at g1;exact g1.elim
theorem Yv (hx:Uy (CXR X.prog X.w) X E) (F:Qd X.prog X.w X.K X.mg X.base xc c m k 0 φ) (hr:Room k X.A) (ho:ME X (exT X.K xc E) o mo)
  (ht:eval (.Call (.Attribute o m apos) [] [] pos) X.env=(do
   let ov ←eval o X.env
   standAt apos.atName
   let(f,first) ←holding [ov] (getMethod ov m pl)
   callWith pos f first (backTo pos (starEach [] X.env)) (backToKw pos (keywordEach [] X.env))):=by rfl) :
  ME X (exT X.K xc E) (.Call (.Attribute o m apos) [] [] pos) (yf c m φ mo mNil):=by
 obtain⟨f,fd,ps,c1,m1,b1,l1,F1⟩:=F
 obtain⟨to,po,so⟩:=ho
 refine⟨_,Fd (pl:=pl) po c1 m1 F1 hr (.all b1) .nil hx ht,fun Z α G H σ ρ μ Q R g=>?_⟩
 refine so Z α G H σ ρ μ _ R (GE.step (G:=GE X.K (exT X.K xc E) Z α G Q) g (fun _ _ h=>h) (fun h=>h) fun d μ1 v α1 F1 H1 R1 e1 p1 g1=>?_)
 by_cases hd:Zt c m d μ1=true
 ·rw[if_pos hd] at g1
  obtain⟨a,dx,fs,rfl,h2,h3⟩:=Gs R1 p1 hd
  exact⟨a,dx,fs,rfl,h2,h3,Z,α1,F1,[d],μ1,R1,j5 p1 J5,rfl,wq R1.ext e1 g1⟩
 ·rw[if_neg hd] at g1;exact g1.elim
noncomputable def E4 (i:Nat) (mv:MX):MSt:=fun ρ μ=>match ρ[i]? with
 |some (some (.int a))=>(mv ρ μ).bind fun y μ1=>match y with
  |.int b=>.ok (.nx (ρ.set i (some (.int (a+b))))) μ1
  |_=>.bad
 |_=>.bad
theorem at5 {i:Nat}{x:Str}{pos':Pos}{v:Expr}{mv:MX}(hN:X.nd) (hi:X.N[i]? =some x) (hx:Loc X.env.scope x) (hf:X.fn x=true\/X.env.scope.names.lookup x=some .local) (hv:ME X EX v mv):MS X EX (.AugAssign (.Name x pos') .Add v pos) (E4 i mv):=by
 obtain⟨tv,pv,sv⟩:=hv
 refine⟨_,aq1 hN hi hx pv a59 hf,fun Z α F H σ ρ μ N R g=>?_⟩
 unfold E4 at g
 split at g
 ·rename_i a ha
  obtain⟨u,hu,ru⟩:=R.sl i _ ha
  obtain rfl:u=.int a:=ru
  refine⟨_,hu,sv Z α F H σ ρ μ _ R (GE.step (G:=GS X.K EX Z α F N) g (fun _ _ h=>h) (fun h=>h) fun y μ1 w α1 F1 H1 R1 e1 p1 g1=>?_)⟩
  cases y with
  |int b =>
   obtain rfl:w=.int b:=p1
   exact⟨a,b,rfl,rfl,g1 _ α1 F1 H1 ((R.to R1 e1).set i (rep_int _)) e1⟩
  |_=>exact g1.elim
 ·exact g.elim
end
noncomputable def Za (ie:Nat) (ok:Nat->Bool) (xc:XCs) (ne:MX) (ns:MSt):MSt:=fun ρ μ=>match ne ρ μ with
 |.ok d μ1=>.ok (.nx ρ) μ1
 |.bad=>.bad
 |.exc x μ1=>if ok x.c then(noX (ns (ρ.set ie (some (xRf (xc x.c) μ1))) (xMu (xc x.c) x.d μ1))).bind fun o μ2=>match o with
   |.nx ρ2=>.ok (.nx (ρ2.set ie none)) μ2
   |.rt d=>.ok (.rt d) μ2
   |_=>.bad
  else .bad
section
variable {X:Cx}{EX:EXT}
theorem ae6 {ie:Nat}{xn nE:Str}{D:Addr}{ok:Nat->Bool}{xc:XCs}{e:Expr}{suite:List Stmt}{b0:Stmt}{ne:MX}{ns:MSt}{p1 hp pos apos:Pos}(hst:X.stack=X.env::X.outer) (hfr:X.env.frame=some X.env.locals)
  (hN:X.nd) (hlo:∀x∈X.N,X.env.kindOf x=some .local) (hi:X.N[ie]? =some nE) (hl:X.env.scope.names.lookup nE=some .local) (d:Hnd X.K D) (hg:Gl X xn) (hm:X.mg xn=some (.ref D)) (hok:∀k,ok k=true->PySem.W.subIn X.K (.ref (cA X.K (xc k).1)) (.ref D)=some true)
  (hb:∀pn xe f E,Uy (CXR X.prog X.w) (tryK X pn xe f) E->ME (tryK X pn xe f) (exT X.K xc E) e ne) (hs:∀a pn,MSs (hand X a pn) NoX (b0::suite) ns)
  (hsw:swapsWith e none apos.line X.env=pure false:=by rfl) (hdb:(xn==("__debug__":Str))=false:=by decide) :
  MS X EX (.Try [.Expr e apos] [.ExceptHandler (some (.Name xn p1)) (some nE) (b0::suite) hp] [] [] pos) (Za ie ok xc ne ns):=by
 refine⟨fun N σ H=>∀pins s,Inv X pins σ H s->wpAny (model X.prog X.w) X.A (exec (.Try [.Expr e apos] [.ExceptHandler (some (.Name xn p1)) (some nE) (b0::suite) hp] [] [] pos) X.env) (SP X pins N) X.xe s,fun pins s σ H D I h=>h pins s I,fun Z α F H σ ρ μ N R g pins s I=>?_⟩
 have okX:=I.ok
 obtain⟨mm,hmm,hml⟩:=id I.loc
 let E:XK:=fun e _ H'=>∃x μ1 a dx v α' F',e=.ref a/\ne ρ μ=.exc x μ1/\RH X.K (Z.at α F) α' F' (del H' a dx) μ1/\Rep X.K F' α' x.d v/\XH X.K (xc x.c) H' a dx v
 let W:Value->Shared->Prop:=fun e s₁=>wpAny (model X.prog X.w) X.A (noteFrame e X.env) (fun _ s₂=>wpAny (model X.prog X.w) X.A (setFlight e none) (fun _ s₃=>wpAny (model X.prog X.w) X.A (handleBy e X.env [.ExceptHandler (some (.Name xn p1)) (some nE) (b0::suite) hp]) (SP X pins N) X.xe s₃) X.xe s₂) X.xe s₁
 have pass:Uy (CXR X.prog X.w) (tryK X (X.pn++pins) W mm) E:=by
  intro pins0 σ0 H0 s0 e s' I0 hcx
  obtain⟨a,C,dx0,T,H',rfl,os,bare,un,hok',xo,ha,hT,na,nT,hE⟩:=hcx
  obtain⟨x,μ1,a',dx,v,α',F',ea,enb,RH',rep,xh⟩:=hE
  cases ea
  have I1:=I0.call' (ch:=[]) os un hok' bare fun b z=>absurd z (by simp)
  obtain⟨o1,h1⟩:=an0 xh
  have ho:=I1.hok a _ h1
  obtain⟨rfl,rfl⟩:=a74 xo.p ho.1
  have frT:=X9 I0 nT
  show wpAny _ _ _ _ _ _
  refine av7 (L:=X.env.locals) (outer:=X.outer) (base:=X.base) (by have:=okX.frames;rw[hst] at this;exact this) (by have:=I1.stack;rw[show(tryK X (X.pn++pins) W mm).stack=X.env::X.outer from hst] at this;exact this) hfr xo fun h2' T' xo' nT' Nd=>?_
  have I2:=Ks I1 xo' Nd (fun b hb=>by rw[show(tryK X (X.pn++pins) W mm).stack=X.env::X.outer from hst];exact hb) h1 fun T'' z=>by cases z;exact⟨hT,frT⟩
  have hT':H' T'=none:=I1.hok.fresh nT'
  have frT':=X9 I1 nT'
  have I3:Inv (hand X a (X.pn++pins)) pins0 σ H' { s' with heap:=h2'}:=a7 I hlo hml (a6 okX hN.2 I2) (I2.fx mm rfl)
  refine wpAny_handleBy_cons (codeAny_handlers_test (y4 I3 hg hm ?_ hdb)) (by intro q;cases q)
  obtain⟨vo,so,eo,_⟩:=id xo'
  have bok:ok x.c=true/\GS X.K EX Z α F N ((noX (ns (ρ.set ie (some (xRf (xc x.c) μ1))) (xMu (xc x.c) x.d μ1))).bind fun o μ2=>match o with
    |.nx ρ2=>.ok (.nx (ρ2.set ie none)) μ2
    |.rt d=>.ok (.rt d) μ2
    | _=>.bad):=by
   unfold Za at g
   rw[enb] at g
   dsimp only at g
   split at g
   ·rename_i z;exact⟨z,g⟩
   ·exact g.elim
  refine(E6 I3.kIn d eo rfl (hok _ bok.1)).here ?_
  show codeAny _ _ _ _ _
  refine codeAny_handlers_suite_as (av xo' fun h3' xo3 Nd3=>?_)
  have I4:=Ks I3 xo3 Nd3 (fun b hb=>by cases hb) h1 fun T'' z=>by cases z;exact⟨hT',frT'⟩
  refine x4 (X:=hand X a (X.pn++pins)) (v:=.ref a) I4 hN hi (.inl hl) rfl (fun s5 I5=>?_) (.inr hl)
  have I6:Inv (hand X a (X.pn++pins)) [] (σ.set ie (some (.ref a))) H' s5:=I5.pins_of (pins':=[]) fun p hp=>by cases hp
  obtain⟨α2,R2,e2,rp⟩:=am9 RH' rep xh
  have RS2:RS X.K (Z.at α F) α2 F' H' (σ.set ie (some (.ref a))) (ρ.set ie (some (xRf (xc x.c) μ1))) (xMu (xc x.c) x.d μ1) :=
   RS.set ie ⟨R2,R.len,fun j d' hd=>let⟨v',h1,h2⟩:=R.sl j d' hd;⟨v',h1,h2.mono (RH'.ext.trans e2)⟩⟩ rp
  obtain⟨ts,pts,sts⟩:=hs a (X.pn++pins)
  let Dn:Ends:={ nx:=fun σ2 H2=>N.nx (σ2.set ie none) H2,rt:=N.rt}
  have gs:GS X.K NoX (Z.at α F) α2 F' Dn (ns (ρ.set ie (some (xRf (xc x.c) μ1))) (xMu (xc x.c) x.d μ1)):=by
   have g2:=bok.2
   cases er:ns (ρ.set ie (some (xRf (xc x.c) μ1))) (xMu (xc x.c) x.d μ1) with
   |bad=>rw[er] at g2;exact g2
   |exc y μ2=>rw[er] at g2;exact g2
   |ok o μ2 =>
    rw[er] at g2
    cases o with
    |nx ρ2=>exact fun σ3 α3 F3 H3 R3 e3=>g2 _ α3 F3 H3 ((⟨R3.hp.back R.hp.ext,R3.len,R3.sl⟩:RS X.K Z α3 F3 H3 σ3 ρ2 μ2).unset ie) R3.hp.ext
    |rt w=>exact fun u α3 F3 H3 R3 e3 r3=>g2 u α3 F3 H3 (R3.back R.hp.ext) R3.ext r3
    |bk ρ2=>exact g2.elim
    |ct ρ2=>exact g2.elim
  refine wpAny_mono (pts [] s5 _ H' Dn I6 (sts _ _ _ _ _ _ _ _ RS2 gs)) (fun f s7 hf=>?_) fun _ _ z=>z.elim
  cases f with
  |next =>
   obtain⟨σ2,H2,I7,q⟩:=hf
   exact ka (Vv okX I7) hN hi hl fun s8 I8=>⟨_,_,I8,q⟩
  |ret u =>
   obtain⟨w,σ2,H2,I7,rw',q⟩:=hf
   exact ka (Vv okX I7) hN hi hl fun s8 I8=>⟨w,_,_,I8,rw',q⟩
  |brk=>obtain⟨_,_,_,q⟩:=hf;exact q.elim
  |cont=>obtain⟨_,_,_,q⟩:=hf;exact q.elim
 obtain⟨tb,ptb,stb⟩:=hb (X.pn++pins) W mm E pass
 have IY:Inv (tryK X (X.pn++pins) W mm) [] σ H s:=a57 I hmm
 have gb:GE X.K (exT X.K xc E) (Z.at α F) α F (fun v H1=>N.nx σ H1) (ne ρ μ):=by
  cases er:ne ρ μ with
  |bad=>unfold Za at g;rw[er] at g;exact g
  |exc x μ1=>exact fun a dx v α' F' H' RH' rep xh=>⟨x,μ1,a,dx,v,α',F',rfl,er,RH',rep,xh⟩
  |ok d1 μ1 =>
   unfold Za at g
   rw[er] at g
   exact fun v α3 F3 H3 R3 e3 r3=>g _ α3 F3 H3 (R.to (R3.back R.hp.ext) e3) e3
 refine wpAny_Try_except (wpAny_mono (Q:=fun fl s1=>fl=.next/\SP X pins N .next s1) ?_ (fun f s1 hf=>?_) fun _ _ z=>z)
 ·refine wpAny_execs_cons (wpAny_mono (wpAny_Expr_any (Q:=fun fl s1=>fl=.next/\SP X pins N .next s1) (thn (ptb [] s σ H _ IY (stb _ _ _ _ _ _ _ _ ⟨R.hp.rebase,R.len,R.sl⟩ gb)) fun v s1 ⟨y,H1,I1,r1,q1⟩=>⟨rfl,σ,H1,Dc (pins:=pins) okX hN.2 I1,q1⟩) I.quiet hsw) (fun f s1 hf=>?_) fun _ _ z=>z)
  obtain⟨rfl,hf⟩:=hf
  exact wpAny_execs_nil ⟨rfl,hf⟩
 ·obtain⟨rfl,hf⟩:=hf
  exact wpAny_execs_nil hf
theorem a36 {X:Cx}{EX:EXT}{N G:List Str}{ie:Nat}{xn nE:Str}{xc:XCs}{ok:Nat->Bool}{e:Expr}{suite:List Stmt}{b0:Stmt}{ne:MX}{ns:MSt}{p1 hp pos apos:Pos}(C:Ct X N G) (h:am7 X.K X.mg xn) (hg:Gl X xn) (hlo:a89 N X.env.scope=true) (hi:N[ie]? =some nE)
  (hok:∀k,ok k=true->PySem.W.subIn X.K (.ref (cA X.K (xc k).1)) (.ref (cA X.K xn))=some true)
  (hb:∀pn xe f E,Uy (CXR X.prog X.w) (tryK X pn xe f) E->Ct (tryK X pn xe f) N G->ME (tryK X pn xe f) (exT X.K xc E) e ne) (hs:∀a pn,Ch (hand X a pn) N G->MSs (hand X a pn) NoX (b0::suite) ns)
  (hsw:swapsWith e none apos.line X.env=pure false:=by rfl) (hst:X.stack=X.env::X.outer:=by rfl) (hfr:X.env.frame=some X.env.locals:=by rfl) (hk:X.kn=none:=by rfl) (hkd:∀x,X.env.kindOf x=X.env.scope.names.lookup x:=by intro _;rfl) (hdb:(xn==("__debug__":Str))=false:=by decide) :
  MS X EX (.Try [.Expr e apos] [.ExceptHandler (some (.Name xn p1)) (some nE) (b0::suite) hp] [] [] pos) (Za ie ok xc ne ns):=by
 have lo:∀y∈N,X.env.scope.names.lookup y=some .local:=fun y hy=>by have:=List.all_eq_true.mp hlo y hy;simpa using this
 exact ae6 hst hfr ⟨C.ndX,hk⟩ (fun y hy=>by rw[C.hN] at hy;rw[hkd];exact lo y hy) (C.at hi) (lo nE (uq hi)) h.2 hg h.1 hok (fun pn xe f E hx=>hb pn xe f E hx (ah8 C)) (fun a pn=>hs a pn (aF9 C)) hsw hdb
end
section
variable {prog:Program}{w:World}{A:Around}{E:Value->Shared->Prop}{s:Shared}
theorem ay {Q:Int->Shared->Prop}(h:Q 0xFCA86420 { s with toks:=s.toks+1}):wpAny (model prog w) A (pyHash .none) Q E s:=by
 show wpAny _ _ (pyHashByItsType .none) Q E s
 unfold pyHashByItsType
 have hv:[Value.none].any Value.onHeap=false:=rfl
 refine wpAny_bind ?_
 rw[cRoomFor,if_neg (by rw[hv];exact Bool.false_ne_true)];refine wpAny_pure ?_
 refine wpAny_bind (wpAny_specialOf (typeIs_none s) F.slot_NoneType_hash.lookup ?_)
 show wpAny _ _ (if(some (Value.builtin "NoneType.__hash__")==some Value.none)=true then _ else _) Q E s
 rw[if_neg (by rw[beq_builtin_none];exact Bool.false_ne_true)]
 refine wpAny_bind (wpAny_specialOf (typeIs_none s) F.slot_NoneType_hash.lookup ?_)
 show wpAny _ _ (callSpecialIfBoundUnlessNone? .none "__hash__" _ >>= _) Q E s
 refine wpAny_bind (wpAny_callSpecialIfBoundUnlessNone?_slot (typeIs_none s) F.slot_NoneType_hash
  (wpAny_call_entry F.slot_NoneType_hash (typeIs_none s) F.entry_NoneType_hash
   (show wpAny _ _ (do ret (←mkInt 0xFCA86420)) _ _ s from wpAny_ret_mkInt ?_) (F.args_NoneType_hash_1 _)))
 show wpAny _ _ (if(decide (-(2:Int) ^ 63<=0xFCA86420)&&decide ((0xFCA86420:Int)<2 ^ 63))=true then _ else _) Q E _
 rw[if_pos (by decide)]
 exact wpAny_pure h
noncomputable def nIs:Option Key->Value->Bool
 |none,v=>(v matches .none)
 |some k,v=>xa k v
theorem y0 {v:Value}(h:nIs none v=true):v=.none:=by
 cases v<;>first|rfl|cases h
theorem Vx {k:Key}:xa k .none=false:=by
 cases h:xa k .none with
 |false=>rfl
 |true=>rcases Jn h with⟨i,t,_,e⟩|⟨x,t,_,e⟩<;>cases e
noncomputable def a32 (prog:Program) (w:World):PySem.KeyKind prog w (Option Key) where
 is:=nIs
 hash:=fun o=>match o with
  |none=>0xFCA86420
  |some k=>aD4 w k
 inj:=fun v a b ha hb=>by
  cases a with
  |none =>
   have e:=y0 ha
   subst e
   cases b with
   |none=>rfl
   |some k=>rw[show nIs (some k) .none=false from Vx] at hb;cases hb
  |some k =>
   cases b with
   |none =>
    have e:=y0 hb
    subst e
    rw[show nIs (some k) .none=false from Vx] at ha;cases ha
   |some k'=>rw[(J0 prog w).inj v k k' ha hb]
 byValue:=fun k v h=>by
  cases k with
  |none=>have e:=y0 h;subst e;rfl
  |some k=>exact(J0 prog w).byValue k v h
 pyHash:=fun{A E s k v Q} hv h=>by
  cases k with
  |none=>have e:=y0 hv;subst e;exact ay h
  |some k=>exact(J0 prog w).pyHash hv h
 eqBool:=fun{A E s a b u v Q} hu hv h=>by
  cases a with
  |none =>
   have e:=y0 hu
   subst e
   cases b with
   |none =>
    have e:=y0 hv
    subst e
    unfold eqBool
    simp only[beq_self_eq_true,if_true]
    exact wpAny_bind (wpAny_rule (wpAny_pure (by simpa using h)))
   |some k =>
    rcases Jn hv with⟨i,t,rfl,rfl⟩|⟨x,t,rfl,rfl⟩
    ·exact SeqAt.EqAt.none_int _ _ _ _ _ _ (by simpa using h)
    ·exact SeqAt.EqAt.none_str _ _ _ _ _ _ (by simpa using h)
  |some k =>
   cases b with
   |none =>
    have e:=y0 hv
    subst e
    rcases Jn hu with⟨i,t,rfl,rfl⟩|⟨x,t,rfl,rfl⟩
    ·exact SeqAt.EqAt.int_none _ _ _ _ _ _ (by simpa using h)
    ·exact SeqAt.EqAt.str_none _ _ _ _ _ _ (by simpa using h)
   |some k' =>
    refine(J0 prog w).eqBool hu hv ?_
    have:decide (some k=some k')=decide (k=k'):=by
     by_cases z:k=k'
     ·subst z;simp
     ·rw[decide_eq_false z,decide_eq_false (fun y=>z (Option.some.inj y))]
    rw[this] at h
    exact h
 «strs»:=fun k x t v h=>by
  cases k with
  |none=>cases y0 h
  |some k=>exact(J0 prog w).strs k x t v h
theorem E2 {P:Program}{h:Heap}{q:Addr}{f:Key->Option Value}(m:h.MapOf (J0 P w) q f):h.MapOf (a32 P w) q (fun o=>o.bind f):=by
 obtain⟨o,es,ep,ho,hx,hd,hk,hf⟩:=m
 refine⟨o,es,ep,ho,hx,hd,fun e he=>let⟨k,a,b⟩:=hk e he;⟨some k,a,b⟩,fun k=>?_⟩
 cases k with
 |some k=>exact hf k
 |none =>
  show(es.find? fun e=>nIs none e.key).map (·.val)=none
  rw[Option.map_eq_none_iff,Array.find?_eq_none]
  intro e he z
  obtain⟨k,a,_⟩:=hk e he
  rw[y0 z] at a
  rw[show(J0 P w).is k .none=false from Vx] at a
  cases a
end
noncomputable def zh (neg:Bool):G2:=fun b a=>match b with
 |.non=>match a with
  |.dic _ _=>some (.bl neg)
  |_=>none
 |_=>X8 neg b a
section
variable {X:Cx}{EX:EXT}{a:Expr}{ma:MX}{x:Str}{ks:List DK}{ds:List D}{pos p:Pos}
noncomputable def Ak (neg:Bool) (kvs:List (Key×V)) (ta:TE):TE:=fun σ H Q=>ta σ H fun y H1=>(∃k,y=kV k/\Q (.bl (if neg then !(Yq kvs k).isSome else(Yq kvs k).isSome)) H1)\/(y=.non/\Q (.bl neg) H1)
theorem Kp {neg:Bool}{ta:TE}{vs:List V}(h5:ks.length=ds.length) (h6:∀F α,Reps X.K F α ds vs) (sa:Qc X EX ta ma):Qc X EX (Ak neg ((ks.map dk).zip vs) ta) (j0 (zh neg) ma (mC (.dic ks ds))):=by
  intro Z α F H σ ρ μ Q R g
  refine sa Z α F H σ ρ μ _ R (GE.step (G:=GE X.K EX Z α F Q) (show GE X.K EX Z α F Q ((ma ρ μ).bind fun d μ1=>ofO μ1 (zh neg (deref μ1 d) (deref μ1 (.dic ks ds)))) from g) (fun _ _ h=>h) (fun h=>h) fun d μ1 v α1 F1 H1 R1 e1 p1 g1=>?_)
  have pk:=R1.pk p1
  cases hq:deref μ1 d with
  |non =>
    rw[hq] at g1 pk
    obtain rfl:v=.non:=by unfold Pk Rep at pk;exact pk
    exact .inr ⟨rfl,g1 _ α1 F1 H1 R1 e1 (uh _)⟩
  |_ =>
    left
    rw[hq] at g1
    simp only[deref_dic,zh,X8] at g1
    first
      |exact g1.elim
      | (have hy:=fy (by rw[hq] at pk;exact pk) (show kl _=some _ from rfl)
         refine⟨_,hy,?_⟩
         rcases q8 (h6 F1 α1) h5 with⟨d',v',l1,l2,l3⟩|⟨l1,l2⟩
         · simp only[kl,Option.map_some,ofO_some] at g1
           rw[l1] at g1
           rw[l2]
           exact g1 _ α1 F1 H1 R1 e1 (uh _)
         · simp only[kl,Option.map_some,ofO_some] at g1
           rw[l1] at g1
           rw[l2]
           exact g1 _ α1 F1 H1 R1 e1 (uh _))
theorem ac6 {ta:TE}{q:Addr}{us:List (Key×Value)}{vs:List V}(h1:X.mg x=some (.ref q)) (h2:(q==sysModules)=false) (h3:∀(P:Program) (h:Heap),X.K.In h->h.DictOf (J0 P X.w) q us) (h4:KV ((ks.map dk).zip vs) us) (hg:Gl X x) (hd:(x==("__debug__":Str))=false)
  (pa:PE X a ta):PC X .In a (.Name x p) (Ak false ((ks.map dk).zip vs) ta):=by
 intro pins s σ H Q I h
 refine thn (pa pins s σ H _ I h) fun iv s1 ⟨y,H1,I1,ry,q1⟩=>y4 I1 hg h1 ?_ hd
 have dd:=h3 X.prog _ I1.kIn
 rcases q1 with⟨k,ey,q1⟩|⟨ey,q1⟩
 ·subst ey
  refine wpAny_in_of (qx ry) h2 dd.mapOf ?_
  rw[←(h4.val k).isSome_eq]
  exact⟨.bl (Yq ((ks.map dk).zip vs) k).isSome,H1,I1.tok _,rfl,q1⟩
 ·subst ey
  obtain rfl:iv=.none:=ry
  exact wpAny_in_of (knd:=a32 X.prog X.w) (k:=none) rfl h2 (E2 dd.mapOf) ⟨.bl false,H1,I1.tok _,rfl,q1⟩
theorem a17 {ta:TE}{q:Addr}{us:List (Key×Value)}{vs:List V}(h1:X.mg x=some (.ref q)) (h2:(q==sysModules)=false) (h3:∀(P:Program) (h:Heap),X.K.In h->h.DictOf (J0 P X.w) q us) (h4:KV ((ks.map dk).zip vs) us) (hg:Gl X x) (hd:(x==("__debug__":Str))=false)
  (pa:PE X a ta):PC X .NotIn a (.Name x p) (Ak true ((ks.map dk).zip vs) ta):=by
 intro pins s σ H Q I h
 refine thn (pa pins s σ H _ I h) fun iv s1 ⟨y,H1,I1,ry,q1⟩=>y4 I1 hg h1 ?_ hd
 have dd:=h3 X.prog _ I1.kIn
 rcases q1 with⟨k,ey,q1⟩|⟨ey,q1⟩
 ·subst ey
  refine wpAny_notIn_of (qx ry) h2 dd.mapOf ?_
  rw[←(h4.val k).isSome_eq]
  exact⟨.bl (!(Yq ((ks.map dk).zip vs) k).isSome),H1,I1.tok _,rfl,q1⟩
 ·subst ey
  obtain rfl:iv=.none:=ry
  exact wpAny_notIn_of (knd:=a32 X.prog X.w) (k:=none) rfl h2 (E2 dd.mapOf) ⟨.bl true,H1,I1.tok _,rfl,q1⟩
theorem V0 (c:qm X.w X.K X.mg x ks ds) (hg:Gl X x) (ha:ME X EX a ma) (hd:(x==("__debug__":Str))=false:=by decide):MT X EX (.Compare a [.In] [.Name x p] pos) (j8 (j0 (zh false) ma (mC (.dic ks ds)))):=by
 obtain⟨q,us,vs,h1,h2,h3,h4,h5,h6⟩:=c
 obtain⟨ta,pa,sa⟩:=ha
 exact⟨_,vi (ac6 h1 h2 h3 h4 hg hd pa) rfl,yt (Kp h5 h6 sa)⟩
theorem eu (c:qm X.w X.K X.mg x ks ds) (hg:Gl X x) (ha:ME X EX a ma) (hd:(x==("__debug__":Str))=false:=by decide):MT X EX (.Compare a [.NotIn] [.Name x p] pos) (j8 (j0 (zh true) ma (mC (.dic ks ds)))):=by
 obtain⟨q,us,vs,h1,h2,h3,h4,h5,h6⟩:=c
 obtain⟨ta,pa,sa⟩:=ha
 exact⟨_,vi (a17 h1 h2 h3 h4 hg hd pa) rfl,yt (Kp h5 h6 sa)⟩
end
section
variable {X:Cx}{EX:EXT}{o a:Expr}{mo m ma:MX}{ms:MAs}{apos cpos pos p2:Pos}
noncomputable def X6:D->Option D
 |.str x=>some (.bl (Txt.isalpha ⟨x.toArray⟩))
 |_=>none
theorem Dk:MtR X "str.isalpha" (fun x vs H Q=>∃z,x=.str z/\vs=[]/\Q (.bl (Txt.isalpha z)) H):=by
 intro pins s σ H x xs v us Q I rx rv h
 obtain⟨z,rfl,rfl,q⟩:=h
 obtain⟨t,rfl⟩:=rx
 have hus:=rv.zero
 subst hus
 exact SC.isalpha ⟨.bl _,H,I,rfl,q⟩
theorem V1 (ho:ME X EX o mo) (hbase:attributeBase o "isalpha" X.env (eval o X.env)=eval o X.env:=by rfl) (hline:(apos.endLine==cpos.line)=true:=by rfl) :
  ME X EX (.Call (.Attribute o "isalpha" apos) [] [] cpos) (Y1 X6 mo):=by
 refine Cj PySem.F.slot_str_isalpha PySem.F.type_str_isalpha Dk (fun Z α F H μ d ds c x vs Q R hp hq hg k=>?_) ho hbase hline
 cases d with
 |str z =>
  cases ds with
  |nil =>
   have hp:=Uq hp
   subst hp
   cases hg
   have hv:vs=[]:=hq
   subst hv
   exact⟨_,rfl,rfl,k _ F H R (ja.refl _) (uh _)⟩
  |cons a b=>cases hg
 |_=>cases ds<;>cases hg
theorem ao9:SlR X (fun x lo hi H Q=>∃z,x=.str z/\z.length<=sizeLine/\Q (.str (Txt.slice z lo hi)) H):=by
 intro pins s σ H x v vl vu lo hi sl Q I rx hs pl pu h
 obtain⟨z,rfl,hz,q⟩:=h
 obtain⟨t,rfl⟩:=rx
 refine⟨"str",_,F.slot_str_getitem.lookup,typeIs_str _ _ _,?_⟩
 have fin:∀(lo hi:Option Int),Q (.str (Txt.slice z lo hi)) H->(Txt.slice z lo hi).length<=sizeLine/\∀t' k,EP X pins σ Q (.str (Txt.slice z lo hi) t') { s with toks:=k}:=fun lo hi q =>
  ⟨Nat.le_trans (Txt.slice_le z _ _) hz,fun t' k=>⟨.str _,H,I.tok _,⟨_,rfl⟩,q⟩⟩
 cases pl with
 |none=>cases pu with
  |none=>exact wpAny_getItem_str_slice (l:=none) (u:=none) (st:=none) hs rfl (post_val_or_str (fin _ _ q))
  |int j u=>exact wpAny_getItem_str_slice (l:=none) (u:=some (j,u)) (st:=none) hs rfl (post_val_or_str (fin _ _ q))
 |int i t2=>cases pu with
  |none=>exact wpAny_getItem_str_slice (l:=some (i,t2)) (u:=none) (st:=none) hs rfl (post_val_or_str (fin _ _ q))
  |int j u=>exact wpAny_getItem_str_slice (l:=some (i,t2)) (u:=some (j,u)) (st:=none) hs rfl (post_val_or_str (fin _ _ q))
noncomputable def aF3 (d:D) (lo hi:Option Int):Option D:=match d with
 |.str x=>if x.length<=16777215 then some (.str (Txt.slice (mkS x) lo hi).cps.toList) else none
 |_=>none
noncomputable def Bg (m:MX) (lo hi:MOp):MX:=fun ρ μ=>(m ρ μ).bind fun d μ1=>(lo ρ μ1).bind fun l μ2=>(hi ρ μ2).bind fun h μ3=>ofO μ3 (aF3 (deref μ3 d) l h)
theorem Kz {lo hi:Option Expr}{l h:MOp}(ha:ME X EX a ma) (hl:MPt X EX lo l) (hh:MPt X EX hi h):ME X EX (.Subscript a (.Slice lo hi none p2) pos) (Bg ma l h):=by
 obtain⟨ta,pa,sa⟩:=ha
 obtain⟨tl,pl,sl⟩:=hl
 obtain⟨th,ph,sh⟩:=hh
 refine⟨_,Fe ao9 pa pl ph,fun Z α F H σ ρ μ Q R g=>?_⟩
 refine sa Z α F H σ ρ μ _ R (GE.step (G:=GE X.K EX Z α F Q) g (fun _ _ h=>h) (fun h=>h) fun d μ1 v α1 F1 H1 R1 e1 p1 g1=>?_)
 refine sl Z α1 F1 H1 σ ρ μ1 _ (R.to R1 e1) (GO.step (G:=GE X.K EX Z α F Q) g1 (fun _ _ h=>h) (fun h=>h) fun l μ2 α2 F2 H2 R2 e2 g2=>?_)
 refine sh Z α2 F2 H2 σ ρ μ2 _ (R.to R2 (e1.trans e2)) (GO.step (G:=GE X.K EX Z α F Q) g2 (fun _ _ h=>h) (fun h=>h) fun h μ3 α3 F3 H3 R3 e3 g3=>?_)
 have p3:=R3.pk ((p1.mono e2).mono e3)
 cases hd:deref μ3 d with
 |str x =>
  rw[hd] at p3 g3
  have p3:=Uq p3
  subst p3
  simp only[aF3] at g3
  split at g3
  ·rename_i hx
   exact⟨_,rfl,by rw[sizeLine_eq];simp only[Str.length,List.size_toArray];omega,g3 _ α3 F3 H3 R3 (e1.trans (e2.trans e3)) (qi _)⟩
  ·exact g3.elim
 |_=>rw[hd] at g3;exact g3.elim
end
section
variable {X:Cx}{EX:EXT}{scope:Scope}{T caps:List Str}{ix:List Nat}{tg o elt:Expr}{ifs:List Expr}{g:MG}{t:MB}{m mo:MX}{p q pos:Pos}{to:TE}
end
section
variable {P:Program}{w:World}{K:PySem.W.Frag}{mg:Str->Option Value}{base:Heap}{xc:XCs}
theorem fnX {x qual:Str}{st:Stmt}{N ps:List Str}{k j n:Nat}{b:MSt}{f:Addr}{fd:FuncData}(F:Fun K x qual st f fd) (G:List Str) (S:FnScope N ps (defScope st)) (hl:Yb (defScope st) N=true) (hg:glB (defScope st) G=true) (hj:N.length-ps.length=j) (hn:ps.length=n)
  (hb:∀(cdv:Value) (A:Around) (outer:List Env) (s:Shared) (H:Hp) (E:XK),Room k (A.deeper (envOfC qual (defScope st) s.heap.objs.size f cdv))->Ct (uv (CXR P w) P w K mg base N qual (defScope st) f cdv A outer s H E) N G ->
   Ct (tryX (uv (CXR P w) P w K mg base N qual (defScope st) f cdv A outer s H E) [] (Rz (uv (CXR P w) P w K mg base N qual (defScope st) f cdv A outer s H E) E)) N G ->
   Uy (CXR P w) (tryX (uv (CXR P w) P w K mg base N qual (defScope st) f cdv A outer s H E) [] (Rz (uv (CXR P w) P w K mg base N qual (defScope st) f cdv A outer s H E) E)) E ->
   PassesOwn (model P w) (uv (CXR P w) P w K mg base N qual (defScope st) f cdv A outer s H E).A (uv (CXR P w) P w K mg base N qual (defScope st) f cdv A outer s H E).env (Rz (uv (CXR P w) P w K mg base N qual (defScope st) f cdv A outer s H E) E) ->
   MSs (tryX (uv (CXR P w) P w K mg base N qual (defScope st) f cdv A outer s H E) [] (Rz (uv (CXR P w) P w K mg base N qual (defScope st) f cdv A outer s H E) E)) (exT K xc E) (defBody st) b):FnOk P w K mg base (CXR P w) (k+1) f fd ps (spX K xc n (fnOf j b)):=by
 subst hn
 refine a71 F S hj fun cdv A outer s H E hr=>?_
 have C0:=cy (CX:=CXR P w) (P:=P) (w:=w) (K:=K) (mg:=mg) (base:=base) (outer:=outer) (H:=H) (E:=E) S.nd (Qs hl) (Vn hg) hr
 obtain⟨t,p,q⟩:=hb cdv A outer s H E hr C0 (cz C0) (Dx (X:=uv (CXR P w) P w K mg base N qual (defScope st) f cdv A outer s H E) (E:=E)) (Dw (X:=uv (CXR P w) P w K mg base N qual (defScope st) f cdv A outer s H E) (E:=E) rfl rfl)
 refine⟨t,fun pins s' σ H' D I h=>?_,q⟩
 refine wpAny_mono (p pins s' σ H' D (a58 I) h) (fun fl s2 z=>?_) fun e s2 z=>Ez z
 cases fl with
 |next=>obtain⟨σ2,H2,I2,q2⟩:=z;exact⟨σ2,H2,zx I2 I.ok,q2⟩
 |brk=>obtain⟨σ2,H2,I2,q2⟩:=z;exact⟨σ2,H2,zx I2 I.ok,q2⟩
 |cont=>obtain⟨σ2,H2,I2,q2⟩:=z;exact⟨σ2,H2,zx I2 I.ok,q2⟩
 |ret u=>obtain⟨v,σ2,H2,I2,r,q2⟩:=z;exact⟨v,σ2,H2,zx I2 I.ok,r,q2⟩
theorem fnM {x qual:Str}{st:Stmt}{N ps:List Str}{k j n:Nat}{b:MSt}{f:Addr}{fd:FuncData}(F:Fun K x qual st f fd) (G:List Str) (S:FnScope N ps (defScope st)) (hl:Yb (defScope st) N=true) (hg:glB (defScope st) G=true) (hj:N.length-ps.length=j) (hn:ps.length=n)
  (hb:∀(cdv:Value) (A:Around) (outer:List Env) (s:Shared) (H:Hp) (E:XK),Room k (A.deeper (envOfC qual (defScope st) s.heap.objs.size f cdv))->Ct (uv CX0 P w K mg base N qual (defScope st) f cdv A outer s H E).nox N G->MSs (uv CX0 P w K mg base N qual (defScope st) f cdv A outer s H E).nox NoX (defBody st) b) :
  FnOk P w K mg base CX0 (k+1) f fd ps (spM K n (fnOf j b)) :=
 Es F S hj hn fun cdv A outer s H E hr=>hb cdv A outer s H E hr (bg S.nd (Qs hl) (Vn hg) hr)
end
section
variable {X:Cx}{EX:EXT}{N G:List Str}
theorem sag (C:Ct X N G) (i:Nat) {x:Str}{pos pos':Pos}{v:Expr}{mv:MX}(h:N[i]? =some x) (hv:ME X EX v mv) (hk:X.kn=none:=by rfl):MS X EX (.AugAssign (.Name x pos') .Add v pos) (E4 i mv):=at5 ⟨C.ndX,hk⟩ (C.at h) (C.loc x (uq h)).1 (.inl (C.fn x)) hv
end
noncomputable def aw3 (pr:Params) (x:List Nat×Nat×Value×V):DictEntry:=⟨PyData.keyHash pr ⟨x.1.toArray⟩,.str ⟨x.1.toArray⟩ x.2.1,x.2.2.1⟩
theorem a38 {w:World}{xs:List (List Nat×Nat×Value×V)}{e:DictEntry}(h:e∈xs.map (aw3 w.params)) (P:Program):∃k,(J0 P w).is k e.key=true/\e.hash=(J0 P w).hash k:=by
 obtain⟨x,_,rfl⟩:=List.mem_map.mp h
 exact⟨.inr ⟨x.1.toArray⟩,qx (P:=P) (w:=w) (k:=.inr ⟨x.1.toArray⟩) (u:=.str ⟨x.1.toArray⟩ x.2.1) ⟨x.2.1,rfl⟩,rfl⟩
theorem vg {w:World}(P:Program):∀xs:List (List Nat×Nat×Value×V),Pairs (J0 P w) (xs.map (aw3 w.params)) (xs.map fun x=>((Sum.inr ⟨x.1.toArray⟩:Key),x.2.2.1))
 |[]=>.nil
 |x::xs=>.cons (qx (P:=P) (w:=w) (k:=.inr ⟨x.1.toArray⟩) (u:=.str ⟨x.1.toArray⟩ x.2.1) ⟨x.2.1,rfl⟩) rfl (vg P xs)
theorem Ca:∀xs:List (List Nat×Nat×Value×V),(∀x∈xs,J3 x.2.2.2 x.2.2.1)->KV (((xs.map fun x=>(.inr x.1:DK)).map dk).zip (xs.map fun x=>x.2.2.2)) (xs.map fun x=>((Sum.inr ⟨x.1.toArray⟩:Key),x.2.2.1))
 |[],_=>.nil
 |x::xs,h=>.cons ⟨rfl,(List.forall_mem_cons.mp h).1⟩ (Ca xs (List.forall_mem_cons.mp h).2)
theorem vb:∀{xs:List (List Nat×Nat×Value×V)},(xs.map (·.1)).Nodup->((xs.map fun x=>((Sum.inr ⟨x.1.toArray⟩:Key),x.2.2.1)).map (·.1)).Nodup
 |[],_=>List.nodup_nil
 |x::xs,h=>by
  rw[List.map_cons,List.nodup_cons] at h
  rw[List.map_cons,List.map_cons,List.nodup_cons]
  refine⟨fun z=>h.1 ?_,vb h.2⟩
  rw[List.map_map] at z
  obtain⟨y,hy,e⟩:=List.mem_map.mp z
  have e2:(⟨y.1.toArray⟩:Str)=⟨x.1.toArray⟩:=Sum.inr.inj e
  have e3:y.1.toArray=x.1.toArray:=by injection e2
  have e4:y.1=x.1:=by simpa using congrArg Array.toList e3
  exact List.mem_map.mpr ⟨y,hy,e4⟩
theorem Xw {w:World}{K:PySem.W.Frag}{mg:Str->Option Value}{h:Heap}{x:Str}{p:Addr}{ep:Nat}{ds:List D}(xs:List (List Nat×Nat×Value×V)) (KX:K.In h) (G:h.Ns mainGlobals mg)
  (a:PySem.W.nsIn K mainGlobals x=some (some (.ref p))) (l:K.lookup p=some ⟨.type "dict",none,.dict (xs.map (aw3 w.params)).toArray ep,#[]⟩) (hp:(p==sysModules)=false) (nd:(xs.map (·.1)).Nodup)
  (hl:xs.length=ds.length) (hv:∀x∈xs,J3 x.2.2.2 x.2.2.1) (hr:∀F α,Reps K F α ds (xs.map fun x=>x.2.2.2)):qm w K mg x (xs.map fun x=>.inr x.1) ds:=by
 refine⟨p,_,_,PySem.W.mg_of KX G a,hp,fun P h' k'=>?_,Ca xs hv,by simpa using hl,hr⟩
 exact⟨_,_,_,k' p _ l,⟨rfl,rfl,rfl⟩,rfl,fun e he=>a38 (by simpa using he) P,by simpa using vg P xs,vb nd⟩
section
variable {X:Cx}
end
inductive CPs (X:Cx) (pos:Pos):List (Sem Value×Sem Value)->List (Str×Str)->Prop
 |nil:CPs X pos [] []
 |cons {x y:Str}{p q:Pos}{ps:List (Sem Value×Sem Value)}{kvs:List (Str×Str)}:CPs X pos ps kvs->CPs X pos ((eval (.Constant (.str x) 0 p) X.env,do let v ←eval (.Constant (.str y) 0 q) X.env;standAt pos;pure v)::ps) ((x,y)::kvs)
inductive CPe:List (Option Expr)->List Expr->List (Str×Str)->Prop
 |nil:CPe [] [] []
 |cons {x y:Str}{cs ds:List Nat}{p q:Pos}{ks:List (Option Expr)}{vs:List Expr}{kvs:List (Str×Str)}:x=⟨cs.toArray⟩->y=⟨ds.toArray⟩->CPe ks vs kvs->CPe (some (.Constant (.str x) 0 p)::ks) (.Constant (.str y) 0 q::vs) ((⟨cs.toArray⟩,⟨ds.toArray⟩)::kvs)
theorem CPe.ps {X:Cx}{pos:Pos}{ks:List (Option Expr)}{vs:List Expr}{kvs:List (Str×Str)}(h:CPe ks vs kvs):∃pairs,CPs X pos pairs kvs/\(evalEachOpt ks X.env).zip ((evalEach vs X.env).map fun v=>do let x ←v;standAt pos;pure x)=(pairs.map fun p=>(some p.1,p.2))/\pairs.length=kvs.length:=by
 induction h with
 |nil=>exact⟨[],.nil,rfl,rfl⟩
 | @cons x y cs ds p q ks vs kvs hx hy _ ih =>
  obtain⟨ps,h1,h2,h3⟩:=ih
  subst hx hy
  refine⟨(eval (.Constant (.str ⟨cs.toArray⟩) 0 p) X.env,do let v ←eval (.Constant (.str ⟨ds.toArray⟩) 0 q) X.env;standAt pos;pure v)::ps,.cons h1,?_,by rw[List.length_cons,List.length_cons,h3]⟩
  rw[List.map_cons,←h2]
  rfl
noncomputable abbrev kvT (kvs:List (Str×Str)):List (Key×V):=kvs.map fun kv=>(.inr kv.1,.str kv.2)
section
variable {X:Cx}{EX:EXT}{pos:Pos}{pins:List (Addr×Obj)}{σ:L2.St}{H:Hp}{a:Addr}
theorem Be {ps:List (Sem Value×Sem Value)}{kvs:List (Str×Str)}(h:CPs X pos ps kvs):∀(acc:List (Key×V)) (s:Shared) (Q:PUnit->Shared->Prop),Inv X pins σ (upd H a (.dK acc)) s->acc.length+kvs.length<=1000->(∀s',Inv X pins σ (upd H a (.dK (yg acc (kvT kvs)))) s'->Q PUnit.unit s') ->
  wpAny (model X.prog X.w) X.A (forIn ps PUnit.unit fun(x:Sem Value×Sem Value) (_:PUnit)=>(do let kv ←x.1;let vv ←holding [kv] x.2;holding [kv,vv] (dictSet a kv vv);pure (ForInStep.yield PUnit.unit):Sem (ForInStep PUnit))) Q X.xe s:=by
 induction h with
 |nil =>
  intro acc s Q I _ hQ
  rw[List.forIn_nil]
  exact wpAny_pure (hQ s I)
 | @cons x y p q ps kvs _ ih =>
  intro acc s Q I hl hQ
  rw[List.length_cons] at hl
  rw[List.forIn_cons]
  refine wpAny_bind (wpAny_bind (thn (G9 (X:=X) (x:=x) (j:=0) (pos:=p) pins s σ _ (fun v H1=>v=.str x/\H1=upd H a (.dK acc)) I ⟨rfl,rfl⟩) fun u s1 ⟨v,H1,I1,r1,hv,hH⟩=>?_))
  subst hv hH
  refine wpAny_bind (wpAny_holding (wpAny_bind (thn (G9 (X:=X) (x:=y) (j:=0) (pos:=q) pins s1 σ _ (fun v H1=>v=.str y/\H1=upd H a (.dK acc)) I1 ⟨rfl,rfl⟩) fun u2 s2 ⟨v2,H2,I2,r2,hv2,hH2⟩=>wpAny_bind (wpAny_standAt (wpAny_pure ?_)))))
  subst hv2 hH2
  obtain⟨z,hd,vs0,r0,dd⟩:=am4 I2.hok jt
  refine wpAny_bind (wpAny_holding (wpAny_dictSet_pairs (knd:=J0 X.prog X.w) (k:=.inr x) (qx (k:=.inr x) r1) dd (fun h' dd' hs=>wpAny_pure ?_) (by have:=r0.length;rw[sizeLine_eq];omega)))
  have he:∃q,h'.get? a=some q:=let⟨q,_,_,hq,_⟩:=dd';⟨q,hq⟩
  have rk:KV (yg acc [((.inr x:Key),V.str y)]) (merged vs0 [((.inr x:Key),u2)]):=KV.merge (.cons ⟨rfl,r2⟩ .nil) r0
  have I3:=bh (t':=s2.toks+1) I2 (by rw[jt];exact True.intro) hs he (dk_new (kvs:=yg acc [((.inr x:Key),V.str y)]) (by have:=yo [((.inr x:Key),V.str y)] acc;rw[sizeLine_eq];simp at this;omega) hd rk dd')
  rw[x3] at I3
  exact ih _ _ Q I3 (by have:=yo [((.inr x:Key),V.str y)] acc;simp at this;omega) fun s' I'=>hQ s' I'
theorem a14 {keys:List (Option Expr)}{values:List Expr}{pairs:List (Sem Value×Sem Value)}{kvs:List (Str×Str)}(hc:CPs X pos pairs kvs) (hs:(evalEachOpt keys X.env).zip ((evalEach values X.env).map fun v=>do let x ←v;standAt pos;pure x)=pairs.map fun p=>(some p.1,p.2)) (h1:pairs.length=16) (h2:kvs.length=16) :
  PE X (.Dict keys values pos) (fun σ H Q=>∀p,H p=none->Q (.ref p) (upd H p (.dK (yg [] (kvT kvs))))):=by
 intro pins s σ H Q I q
 have hn:=I.hok.fresh (Nat.le_refl s.heap.objs.size)
 have I1:=I.laid (a:=s.heap.objs.size) (o:=.dK []) (h':=s.heap.push { cls:=.type "dict",data:=.dict #[]}) (t':=s.toks) (fun _ _ q=>Heap.get?_push_of_some _ q) (Nat.le_refl _) (Ep s.heap I.big)
 rw[arm_eval_Dict,hs,dictDisplay_pairs pairs (by intro z;rw[z] at h1;cases h1) (by omega)]
 refine wpAny_bind (wpAny_standAt (wpAny_bind ?_))
 unfold subDict
 refine wpAny_bind (wpAny_alloc ?_)
 refine wpAny_bind (wpAny_holding ?_)
 rw[if_neg (by omega)]
 refine wpAny_bind (wpAny_rule ?_)
 refine wpAny_bind (wpAny_mono (Be (H:=H) (a:=s.heap.objs.size) hc [] _ (fun _ s'=>EP X pins σ Q (.ref s.heap.objs.size) s') I1 (by simp;omega) fun s' I'=>⟨.ref _,_,I',rfl,q _ hn⟩) (fun _ s' hq=>wpAny_pure (wpAny_pure (wpAny_pure hq))) fun _ _ e=>e)
theorem K5 {K:PySem.W.Frag}{F:Hp}{α:List Addr}:∀ys:List (List Nat),Reps K F α (ys.map .str) (ys.map fun y=>V.str ⟨y.toArray⟩)
 |[]=>J5
 |y::ys=>j5 (qi y) (K5 ys)
theorem af3 {keys:List (Option Expr)}{values:List Expr}(xs:List (List Nat×List Nat)) (he:CPe keys values (xs.map fun x=>((⟨x.1.toArray⟩:Str),(⟨x.2.toArray⟩:Str)))) (nd:(xs.map (·.1)).Nodup) (h2:xs.length=16) :
  ME X EX (.Dict keys values pos) (mC (.dic (xs.map fun x=>.inr x.1) (xs.map fun x=>.str x.2))):=by
 obtain⟨pairs,hc,hs,h1⟩:=he.ps (X:=X) (pos:=pos)
 rw[List.length_map] at h1
 refine⟨_,a14 hc hs (h1.trans h2) (by rw[List.length_map];exact h2),fun Z α F H σ ρ μ Q R g=>?_⟩
 intro p hp
 have hz:Z.z p=none:=by
  cases e:Z.z p with
  |none=>rfl
  |some u=>rw[R.hp.zs _ _ e] at hp;cases hp
 have hkv:kvT (xs.map fun x=>((⟨x.1.toArray⟩:Str),(⟨x.2.toArray⟩:Str)))=((xs.map fun x=>(.inr x.1:DK)).map dk).zip ((xs.map (·.2)).map fun y=>V.str ⟨y.toArray⟩):=by
  unfold kvT
  clear nd h2 hc g he h1
  induction xs with
  |nil=>rfl
  |cons x r ih=>simp only[List.map_cons,List.zip_cons_cons,ih];rfl
 have nd1:(xs.map fun x=>(.inr x.1:DK)).Nodup:=by
  have:(xs.map fun x=>(.inr x.1:DK))=(xs.map (·.1)).map Sum.inr:=by rw[List.map_map];rfl
  rw[this]
  exact List.Pairwise.map _ (fun a b h e=>h (Sum.inr.inj e)) nd
 have nd2:((((xs.map fun x=>(.inr x.1:DK)).map dk).zip ((xs.map (·.2)).map fun y=>V.str ⟨y.toArray⟩)).map (·.1)).Nodup:=by
  rw[List.map_fst_zip (by simp)]
  exact va nd1
 rw[hkv,w8 _ [] (by simpa using nd2),List.nil_append]
 obtain⟨R2,s2⟩:=(R.hp.hold (.dK []) hp).unhold (.dK (((xs.map fun x=>(.inr x.1:DK)).map dk).zip ((xs.map (·.2)).map fun y=>V.str ⟨y.toArray⟩))) hz
 rw[x3] at R2
 refine g _ α _ _ R2 ⟨s2,fun _ _ h=>h⟩ ?_
 unfold Rep
 refine⟨p,(xs.map (·.2)).map fun y=>V.str ⟨y.toArray⟩,rfl,jt,by simp,?_⟩
 have:=K5 (K:=X.K) (F:=upd F p (.dK (((xs.map fun x=>(.inr x.1:DK)).map dk).zip ((xs.map (·.2)).map fun y=>V.str ⟨y.toArray⟩)))) (α:=α) (xs.map (·.2))
 rw[show(xs.map fun x=>D.str x.2)=(xs.map (·.2)).map D.str by rw[List.map_map];rfl]
 exact this
end
section
variable {X:Cx}
noncomputable def fj:G2:=fun a b=>match a,b with
 |.str x,.str y=>some (.bl (!decide (y<x)))
 |_,_=>none
theorem as1:OpR X (compareOp .LtE) (fun x y H Q=>∃a b,x=.str a/\y=.str b/\Q (.bl (!decide (b.cps.toList<a.cps.toList))) H):=by
 intro pins s σ H x y u v Q I rx ry h
 obtain⟨a,b,rfl,rfl,q⟩:=h
 obtain⟨t,rfl⟩:=rx
 obtain⟨t2,rfl⟩:=ry
 exact P.le_str ⟨.bl _,H,I,rfl,q⟩
theorem a20:OpM X (compareOp .LtE) fj:=by
 refine⟨_,as1,fun Z α F H μ a b c x y Q R ha hb hg k=>?_⟩
 cases a with
 |str i =>
  cases b with
  |str j =>
   have ha:=Uq ha
   have hb:=Uq hb
   cases hg
   exact⟨_,_,ha,hb,k _ F H R (ja.refl _) (uh _)⟩
  |_=>cases hg
 |_=>cases hg
variable {EX:EXT}{a b:Expr}{rest:List Expr}{pos:Pos}{ma mb:MX}{ta tb:TE}
noncomputable def af8 (ma mb:MX):MX:=fun ρ μ=>(ma ρ μ).bind fun x μ1=>match D3 (deref μ1 x) with
 |some true=>.ok x μ1
 |some false=>mb ρ μ1
 |none=>.bad
theorem aq5 (ha:PE X a ta) (hb:PE X (.BoolOp .Or (b::rest) pos) tb):PE X (.BoolOp .Or (a::b::rest) pos) (fun σ H Q=>ta σ H fun x H1=>∃k,ai6 X.K x H1 k/\if k=true then Q x H1 else tb σ H1 Q):=by
 intro pins s σ H Q I h
 refine BoolOp_or (thn (ha pins s σ H _ I h) fun v s1 ⟨x,H1,I1,r1,q1⟩=>?_)
 obtain⟨k,e,q1⟩:=q1
 refine thn (Aq pins s1 σ H1 x v (fun c H2=>c=k/\H2=H1) I1 r1 ⟨k,e,rfl,rfl⟩) fun c s2 ⟨H2,I2,ec,eH⟩=>?_
 subst ec eH
 cases c with
 |true=>exact⟨x,H2,I2,r1,q1⟩
 |false=>exact hb pins s2 σ H2 Q I2 q1
theorem at8 (ha:ME X EX a ma) (hb:ME X EX (.BoolOp .Or (b::rest) pos) mb):ME X EX (.BoolOp .Or (a::b::rest) pos) (af8 ma mb):=by
 obtain⟨ta,pa,sa⟩:=ha
 obtain⟨tb,pb,sb⟩:=hb
 refine⟨_,aq5 pa pb,fun Z α F H σ ρ μ Q R g=>?_⟩
 refine sa Z α F H σ ρ μ _ R (GE.step (G:=GE X.K EX Z α F Q) g (fun _ _ h=>h) (fun h=>h) fun d μ1 v α1 F1 H1 R1 e1 p g1=>?_)
 cases hk:D3 (deref μ1 d) with
 |none=>rw[hk] at g1;exact g1.elim
 |some k =>
  rw[hk] at g1
  refine⟨k,Ar R1.sub (R1.pk p) hk,?_⟩
  cases k with
  |false=>exact sb Z α1 F1 H1 σ ρ μ1 Q (R.to R1 e1) (GE.ext e1 g1)
  |true=>exact g1 _ α1 F1 H1 R1 e1 p
end
end M
local macro_rules | `(tactic| walk_at "bs")=> `(tactic| (rename_i us hl;first|(have e:=M.len_0 hl;subst e;rfl)|(obtain⟨_,e⟩:=M.len_1 hl;subst e;rfl)|(obtain⟨_,_,e⟩:=M.len_2 hl;subst e;rfl)|(obtain⟨_,_,_,e⟩:=M.len_3 hl;subst e;rfl)|(obtain⟨_,_,_,_,e⟩:=M.len_4 hl;subst e;rfl)|(obtain⟨_,_,_,_,_,e⟩:=M.len_5 hl;subst e;rfl)))
local macro_rules | `(tactic| walk_at "dm")=> `(tactic| (refine' M.dfact ?a ?l ?c ?k;(case a=>k_is);(case l=>k_is);(case c=>k_is);(case k=>k_is)))
namespace K11
open PySem PySem.Spec PyProof.Rows L2 M
noncomputable def top (i:Nat):Stmt:=PySem.Challenge.pw_netsieve_k11_whole_language.main.body.getD i (.Pass ⟨0,0,0,0⟩)
noncomputable abbrev K3:Stmt:=top 55
noncomputable abbrev Ad:Stmt:=top 60
noncomputable abbrev Aa:Stmt:=top 41
noncomputable abbrev ak2:Stmt:=top 42
noncomputable abbrev vq:Stmt:=top 57
noncomputable abbrev gc:Stmt:=top 58
noncomputable abbrev Ab:Stmt:=top 56
noncomputable abbrev Ac:Stmt:=top 61
noncomputable abbrev Ae:Stmt:=top 52
noncomputable abbrev Af:Stmt:=top 53
noncomputable abbrev C8:Stmt:=top 54
noncomputable abbrev aA5:Stmt:=top 46
noncomputable abbrev Fq:Stmt:=top 50
noncomputable abbrev C7:Stmt:=top 51
noncomputable abbrev ge:Stmt:=top 59
noncomputable abbrev s_p_Reader__init__:Stmt:=(z7 (top 28)).getD 0 (.Pass ⟨0,0,0,0⟩)
noncomputable abbrev Yn:Stmt:=top 18
noncomputable abbrev Yo:Stmt:=top 19
noncomputable abbrev Zu:Stmt:=top 17
noncomputable abbrev xx:Stmt:=top 9
noncomputable abbrev Q4:Stmt:=top 10
noncomputable abbrev Q3:Stmt:=top 21
noncomputable abbrev wc:Stmt:=top 20
noncomputable abbrev xy:Stmt:=top 16
noncomputable abbrev s_m_Reader_ahead:Stmt:=(z7 (top 28)).getD 1 (.Pass ⟨0,0,0,0⟩)
noncomputable abbrev s_m_Reader_step_over:Stmt:=(z7 (top 28)).getD 2 (.Pass ⟨0,0,0,0⟩)
noncomputable abbrev s_m_Reader_refuse:Stmt:=(z7 (top 28)).getD 6 (.Pass ⟨0,0,0,0⟩)
noncomputable abbrev s_m_Reader_step_into:Stmt:=(z7 (top 28)).getD 3 (.Pass ⟨0,0,0,0⟩)
noncomputable abbrev s_m_Reader_expect:Stmt:=(z7 (top 28)).getD 4 (.Pass ⟨0,0,0,0⟩)
noncomputable abbrev Uc:Stmt:=top 35
noncomputable abbrev u9:Stmt:=top 36
noncomputable abbrev U5:Stmt:=top 37
noncomputable abbrev Uu:Stmt:=top 38
noncomputable abbrev uz:Stmt:=top 39
noncomputable abbrev jc:Stmt:=top 34
noncomputable abbrev ul:Stmt:=top 30
noncomputable abbrev U4:Stmt:=top 31
noncomputable abbrev Uv:Stmt:=top 32
noncomputable abbrev yk:Stmt:=top 33
noncomputable abbrev s_m_Reader_expect_end:Stmt:=(z7 (top 28)).getD 5 (.Pass ⟨0,0,0,0⟩)
noncomputable abbrev Ub:Stmt:=top 29
noncomputable abbrev C6:Stmt:=top 43
noncomputable abbrev Fp:Stmt:=top 62
noncomputable abbrev si_BadFilter:Stmt:=(z7 (top 4)).getD 0 (.Pass ⟨0,0,0,0⟩)
noncomputable def xc:XCs:=fun k=>match k with
 |0=>("BadFilter",some "word")
 |_=>("",none)
noncomputable abbrev oC_Reader:Str->Bool:=fun c=>(["Reader"]:List Str).contains c
noncomputable def w_B:List Nat:=[66]
theorem dy:(Str.ofString "B")=⟨w_B.toArray⟩:=by decide +kernel
noncomputable def k9:List Nat:=[70,50]
theorem w_F2_eq:(Str.ofString "F2")=⟨k9.toArray⟩:=by decide +kernel
noncomputable def U0:List Nat:=[111,114]
theorem zb:(Str.ofString "or")=⟨U0.toArray⟩:=by decide +kernel
noncomputable def w_T:List Nat:=[84]
theorem gz:(Str.ofString "T")=⟨w_T.toArray⟩:=by decide +kernel
noncomputable def kz:List Nat:=[66,50]
theorem w_B2_eq:(Str.ofString "B2")=⟨kz.toArray⟩:=by decide +kernel
noncomputable def Jk:List Nat:=[97,110,100]
theorem Yr:(Str.ofString "and")=⟨Jk.toArray⟩:=by decide +kernel
noncomputable def Jt:List Nat:=[116,114,117,101]
theorem zo:(Str.ofString "true")=⟨Jt.toArray⟩:=by decide +kernel
noncomputable def Jw:List Nat:=[102,97,108,115,101]
theorem za:(Str.ofString "false")=⟨Jw.toArray⟩:=by decide +kernel
noncomputable def w_not:List Nat:=[110,111,116]
theorem Yt:(Str.ofString "not")=⟨w_not.toArray⟩:=by decide +kernel
noncomputable def Y3:List Nat:=[115,111]
theorem Wo:(Str.ofString "so")=⟨Y3.toArray⟩:=by decide +kernel
noncomputable def w10:List Nat:=[40]
theorem Zg:(Str.ofString "(")=⟨w10.toArray⟩:=by decide +kernel
noncomputable def w_F:List Nat:=[70]
theorem gy:(Str.ofString "F")=⟨w_F.toArray⟩:=by decide +kernel
noncomputable def w12:List Nat:=[41]
theorem Zh:(Str.ofString ")")=⟨w12.toArray⟩:=by decide +kernel
noncomputable def w_S:List Nat:=[83]
theorem Wc:(Str.ofString "S")=⟨w_S.toArray⟩:=by decide +kernel
noncomputable def w14:List Nat:=[61]
theorem Wa:(Str.ofString "=")=⟨w14.toArray⟩:=by decide +kernel
noncomputable def w_P:List Nat:=[80]
theorem d0:(Str.ofString "P")=⟨w_P.toArray⟩:=by decide +kernel
noncomputable def k7:List Nat:=[83,50]
theorem w_S2_eq:(Str.ofString "S2")=⟨k7.toArray⟩:=by decide +kernel
noncomputable def w17:List Nat:=[43]
theorem gv:(Str.ofString "+")=⟨w17.toArray⟩:=by decide +kernel
noncomputable def w_N:List Nat:=[78]
theorem dz:(Str.ofString "N")=⟨w_N.toArray⟩:=by decide +kernel
noncomputable def k8:List Nat:=[80,50]
theorem w_P2_eq:(Str.ofString "P2")=⟨k8.toArray⟩:=by decide +kernel
noncomputable def w20:List Nat:=[42]
theorem gw:(Str.ofString "*")=⟨w20.toArray⟩:=by decide +kernel
noncomputable def w_n:List Nat:=[110]
theorem Az:(Str.ofString "n")=⟨w_n.toArray⟩:=by decide +kernel
noncomputable def w_len:List Nat:=[108,101,110]
theorem Ys:(Str.ofString "len")=⟨w_len.toArray⟩:=by decide +kernel
noncomputable def ut:List Nat:=[98,121,116,101]
theorem ql:(Str.ofString "byte")=⟨ut.toArray⟩:=by decide +kernel
noncomputable def w24:List Nat:=[91]
theorem gx:(Str.ofString "[")=⟨w24.toArray⟩:=by decide +kernel
noncomputable def w25:List Nat:=[93]
theorem Wb:(Str.ofString "]")=⟨w25.toArray⟩:=by decide +kernel
noncomputable def U3:List Nat:=[104,97,108,102]
theorem Xk:(Str.ofString "half")=⟨U3.toArray⟩:=by decide +kernel
noncomputable def U2:List Nat:=[119,111,114,100]
theorem Xp:(Str.ofString "word")=⟨U2.toArray⟩:=by decide +kernel
noncomputable def Ju:List Nat:=[114,101,115,116]
theorem Yw:(Str.ofString "rest")=⟨Ju.toArray⟩:=by decide +kernel
noncomputable def w29:List Nat:=[60,60]
theorem de:(Str.ofString "<<")=⟨w29.toArray⟩:=by decide +kernel
noncomputable def w30:List Nat:=[62,62]
theorem df:(Str.ofString ">>")=⟨w30.toArray⟩:=by decide +kernel
noncomputable def w31:List Nat:=[60,61]
theorem dg:(Str.ofString "<=")=⟨w31.toArray⟩:=by decide +kernel
noncomputable def w32:List Nat:=[62,61]
theorem dh:(Str.ofString ">=")=⟨w32.toArray⟩:=by decide +kernel
noncomputable def w33:List Nat:=[33,61]
theorem di:(Str.ofString "!=")=⟨w33.toArray⟩:=by decide +kernel
noncomputable def w34:List Nat:=[60]
theorem dj:(Str.ofString "<")=⟨w34.toArray⟩:=by decide +kernel
noncomputable def w35:List Nat:=[62]
theorem dl:(Str.ofString ">")=⟨w35.toArray⟩:=by decide +kernel
noncomputable def w36:List Nat:=[45]
theorem dm:(Str.ofString "-")=⟨w36.toArray⟩:=by decide +kernel
noncomputable def w37:List Nat:=[47]
theorem dn:(Str.ofString "/")=⟨w37.toArray⟩:=by decide +kernel
noncomputable def w38:List Nat:=[38]
theorem dq:(Str.ofString "&")=⟨w38.toArray⟩:=by decide +kernel
noncomputable def w39:List Nat:=[124]
theorem du:(Str.ofString "|")=⟨w39.toArray⟩:=by decide +kernel
noncomputable def w40:List Nat:=[94]
theorem dv:(Str.ofString "^")=⟨w40.toArray⟩:=by decide +kernel
noncomputable def w_0:List Nat:=[48]
theorem Ax:(Str.ofString "0")=⟨w_0.toArray⟩:=by decide +kernel
noncomputable def w_7:List Nat:=[55]
theorem an6:(Str.ofString "7")=⟨w_7.toArray⟩:=by decide +kernel
noncomputable def Z1:List Nat:=[52,50,57,52,57,54,55,50,57,53]
theorem W9:(Str.ofString "4294967295")=⟨Z1.toArray⟩:=by decide +kernel
noncomputable def Z0:List Nat:=[52,50,57,52,57,54,55,50,57,54]
theorem W8:(Str.ofString "4294967296")=⟨Z0.toArray⟩:=by decide +kernel
noncomputable def z9:List Nat:=[48,48,48,48,48,48,48,48,48,48,49]
theorem Xj:(Str.ofString "00000000001")=⟨z9.toArray⟩:=by decide +kernel
noncomputable def w_lens:List Nat:=[108,101,110,115]
theorem B8:(Str.ofString "lens")=⟨w_lens.toArray⟩:=by decide +kernel
noncomputable def w47:List Nat:=[33]
theorem an9:(Str.ofString "!")=⟨w47.toArray⟩:=by decide +kernel
noncomputable def w_x:List Nat:=[120]
theorem an4:(Str.ofString "x")=⟨w_x.toArray⟩:=by decide +kernel
noncomputable def w_5:List Nat:=[53]
theorem an7:(Str.ofString "5")=⟨w_5.toArray⟩:=by decide +kernel
noncomputable def an8:List Nat:=[49,50]
theorem a93:(Str.ofString "12")=⟨an8.toArray⟩:=by decide +kernel
noncomputable def w_9:List Nat:=[57]
theorem an5:(Str.ofString "9")=⟨w_9.toArray⟩:=by decide +kernel
noncomputable def w_wrong:List Nat:=[119,114,111,110,103]
theorem Ea:(Str.ofString "wrong")=⟨w_wrong.toArray⟩:=by decide +kernel
noncomputable def w_number:List Nat:=[110,117,109,98,101,114]
theorem z0:(Str.ofString "number")=⟨w_number.toArray⟩:=by decide +kernel
noncomputable def w_truth:List Nat:=[116,114,117,116,104]
theorem Q6:(Str.ofString "truth")=⟨w_truth.toArray⟩:=by decide +kernel
noncomputable def w_load:List Nat:=[108,111,97,100]
theorem Xm:(Str.ofString "load")=⟨w_load.toArray⟩:=by decide +kernel
noncomputable def w56:List Nat:=[]
theorem Aw:(Str.ofString "")=⟨w56.toArray⟩:=by decide +kernel
noncomputable def w_both:List Nat:=[98,111,116,104]
theorem yw:(Str.ofString "both")=⟨w_both.toArray⟩:=by decide +kernel
noncomputable def w_either:List Nat:=[101,105,116,104,101,114]
theorem Uo:(Str.ofString "either")=⟨w_either.toArray⟩:=by decide +kernel
noncomputable def Uh:List Nat:=[112,108,117,115]
theorem Xo:(Str.ofString "plus")=⟨Uh.toArray⟩:=by decide +kernel
noncomputable def ue:List Nat:=[109,105,110,117,115]
theorem Q9:(Str.ofString "minus")=⟨ue.toArray⟩:=by decide +kernel
noncomputable def Ya:List Nat:=[120,111,114]
theorem Wg:(Str.ofString "xor")=⟨Ya.toArray⟩:=by decide +kernel
noncomputable def ug:List Nat:=[116,105,109,101,115]
theorem Q7:(Str.ofString "times")=⟨ug.toArray⟩:=by decide +kernel
noncomputable def Ug:List Nat:=[111,118,101,114]
theorem Xn:(Str.ofString "over")=⟨Ug.toArray⟩:=by decide +kernel
noncomputable def Ue:List Nat:=[108,101,102,116]
theorem Xl:(Str.ofString "left")=⟨Ue.toArray⟩:=by decide +kernel
noncomputable def uf:List Nat:=[114,105,103,104,116]
theorem Q8:(Str.ofString "right")=⟨uf.toArray⟩:=by decide +kernel
noncomputable def Ui:List Nat:=[115,97,109,101]
theorem kf:(Str.ofString "same")=⟨Ui.toArray⟩:=by decide +kernel
noncomputable def u4:List Nat:=[117,110,108,105,107,101]
theorem wf:(Str.ofString "unlike")=⟨u4.toArray⟩:=by decide +kernel
noncomputable def uc:List Nat:=[98,101,108,111,119]
theorem We:(Str.ofString "below")=⟨uc.toArray⟩:=by decide +kernel
noncomputable def ub:List Nat:=[97,98,111,118,101]
theorem Wd:(Str.ofString "above")=⟨ub.toArray⟩:=by decide +kernel
noncomputable def Uf:List Nat:=[109,111,115,116]
theorem ke:(Str.ofString "most")=⟨Uf.toArray⟩:=by decide +kernel
noncomputable def ud:List Nat:=[108,101,97,115,116]
theorem Wf:(Str.ofString "least")=⟨ud.toArray⟩:=by decide +kernel
noncomputable def w72:List Nat:=[32]
theorem dw:(Str.ofString " ")=⟨w72.toArray⟩:=by decide +kernel
noncomputable def c_LONG_SIGNS:D:=(.tup [(.str w29),(.str w30),(.str w31),(.str w32),(.str w33)])
noncomputable def c_MOST_FIGURES:D:=(.int 10)
noncomputable def c_ROUND:D:=(.int 4294967296)
noncomputable def c_NAMES:D:=(.tup [(.str Jk),(.str U0),(.str w_not),(.str Y3),(.str w_len),(.str ut),(.str U3),(.str U2),(.str Ju),(.str Jt),(.str Jw)])
noncomputable def c_SIGNS:D:=(.tup [(.str w34),(.str w35),(.str w14),(.str w17),(.str w36),(.str w20),(.str w37),(.str w38),(.str w39),(.str w40),(.str w10),(.str w12),(.str w24),(.str w25)])
noncomputable def c_MOST_WITHIN:D:=(.int 12)
noncomputable def Yj:List DK:=[.inr w17,.inr w36,.inr w39,.inr w40]
noncomputable def Yf:List D:=[(.str Uh),(.str ue),(.str U0),(.str Ya)]
noncomputable def U8:List DK:=[.inr w20,.inr w37,.inr Ju,.inr w38,.inr w29,.inr w30]
noncomputable def Uz:List D:=[(.str ug),(.str Ug),(.str Ju),(.str Jk),(.str Ue),(.str uf)]
noncomputable def Jz:List DK:=[.inr ut,.inr U3,.inr U2]
noncomputable def Jy:List D:=[(.int 1),(.int 2),(.int 4)]
noncomputable def Je:List DK:=[.inr w14,.inr w33,.inr w34,.inr w35,.inr w31,.inr w32]
noncomputable def Jd:List D:=[(.str Ui),(.str u4),(.str uc),(.str ub),(.str Uf),(.str ud)]
noncomputable def A0:MSt:=(jh (aD1 [.inr w_F,.inr k9,.inr w_B,.inr kz,.inr w_T,.inr w_S,.inr k7,.inr w_P,.inr k8,.inr w_N] (mCons (jj (mCons (jj (mCons (mC (.str w_B)) (mCons (mC (.str k9)) mNil))) mNil)) (mCons (jj (mCons (jj (mCons (mC (.str U0)) (mCons (mC (.str w_B)) (mCons (mC (.str k9)) mNil)))) (mCons (jj mNil) mNil))) (mCons (jj (mCons (jj (mCons (mC (.str w_T)) (mCons (mC (.str kz)) mNil))) mNil)) (mCons (jj (mCons (jj (mCons (mC (.str Jk)) (mCons (mC (.str w_T)) (mCons (mC (.str kz)) mNil)))) (mCons (jj mNil) mNil))) (mCons (jj (mCons (jj (mCons (mC (.str Jt)) mNil)) (mCons (jj (mCons (mC (.str Jw)) mNil)) (mCons (jj (mCons (mC (.str w_not)) (mCons (mC (.str w_T)) mNil))) (mCons (jj (mCons (mC (.str Y3)) (mCons (mC (.str w10)) (mCons (mC (.str w_F)) (mCons (mC (.str w12)) mNil))))) (mCons (jj (mCons (mC (.str w_S)) (mCons (mC (.str w14)) (mCons (mC (.str w_S)) mNil)))) mNil)))))) (mCons (jj (mCons (jj (mCons (mC (.str w_P)) (mCons (mC (.str k7)) mNil))) mNil)) (mCons (jj (mCons (jj (mCons (mC (.str w17)) (mCons (mC (.str w_P)) (mCons (mC (.str k7)) mNil)))) (mCons (jj mNil) mNil))) (mCons (jj (mCons (jj (mCons (mC (.str w_N)) (mCons (mC (.str k8)) mNil))) mNil)) (mCons (jj (mCons (jj (mCons (mC (.str w20)) (mCons (mC (.str w_N)) (mCons (mC (.str k8)) mNil)))) (mCons (jj mNil) mNil))) (mCons (jj (mCons (jj (mCons (mC (.str w_n)) mNil)) (mCons (jj (mCons (mC (.str w_len)) mNil)) (mCons (jj (mCons (mC (.str ut)) (mCons (mC (.str w24)) (mCons (mC (.str w_S)) (mCons (mC (.str w25)) mNil))))) (mCons (jj (mCons (mC (.str w10)) (mCons (mC (.str w_S)) (mCons (mC (.str w12)) mNil)))) mNil))))) mNil))))))))))))
noncomputable def qf:Fn:=fnOf 0 A0
noncomputable def ax4:MSt:=(jh (jj (mCons (mC (.str Jk)) (mCons (mC (.str U0)) (mCons (mC (.str w_not)) (mCons (mC (.str Y3)) (mCons (mC (.str w_len)) (mCons (mC (.str ut)) (mCons (mC (.str U3)) (mCons (mC (.str U2)) (mCons (mC (.str Ju)) (mCons (mC (.str Jt)) (mCons (mC (.str Jw)) (mCons (mC (.str w29)) (mCons (mC (.str w30)) (mCons (mC (.str w31)) (mCons (mC (.str w32)) (mCons (mC (.str w33)) (mCons (mC (.str w34)) (mCons (mC (.str w35)) (mCons (mC (.str w14)) (mCons (mC (.str w17)) (mCons (mC (.str w36)) (mCons (mC (.str w20)) (mCons (mC (.str w37)) (mCons (mC (.str w38)) (mCons (mC (.str w39)) (mCons (mC (.str w40)) (mCons (mC (.str w10)) (mCons (mC (.str w12)) (mCons (mC (.str w24)) (mCons (mC (.str w25)) (mCons (mC (.str w_0)) (mCons (mC (.str w_7)) (mCons (mC (.str Z1)) (mCons (mC (.str Z0)) (mCons (mC (.str z9)) (mCons (mC (.str w_lens)) (mCons (mC (.str w47)) (mCons (mC (.str w_x)) (mCons (mC (.str w10)) (mCons (mC (.str w12)) (mCons (mC (.str w25)) (mCons (mC (.str w14)) (mCons (mC (.str w_5)) (mCons (mC (.str an8)) mNil))))))))))))))))))))))))))))))))))))))))))))))
noncomputable def Qi:Fn:=fnOf 0 ax4
noncomputable def ax7:MSt:=(j7 (Js (u7 (mVar 0))
  (jh (j0 je (mVar 0) (j0 Jl (mVar 1) (jl U1 (mCons (mVar 0) mNil)))))
  jf)
  (jh (mC (.int 0))))
noncomputable def c6:Fn:=fnOf 0 ax7
noncomputable def aG8:MSt:=(j7 (jr 2 (j0 Jl (j0 jo (j9 c6 (mCons (mVar 0) (mCons (mVar 1) mNil))) (j0 zj (mC (.int 104729)) (j0 jo (mVar 1) (mC (.int 1))))) (mC (.int 4294967291))))
  (j7 (jr 2 (j0 Jl (j0 zj (mVar 2) (mC (.int 48271))) (mC (.int 4294967279))))
  (jh (j0 Jl (j0 jo (j0 zj (j0 Zy (mVar 2) (mC (.int 64))) (mC (.int 69621))) (mVar 2)) (mC (.int 4294967231))))))
noncomputable def u6:Fn:=fnOf 1 aG8
noncomputable def k4 (R:Nat->Fn):MSt:=(j7 (Js (j8 (j0 (X8 true) (mVar 1) (mVar 0)))
  (jh (j0 gEq (mVar 1) (mVar 2)))
  jf)
  (jh (jl av6 (mCons (Ul 1 [0,2] (gN 0) (uo (j0 y7 (mVar 0) (mVar 1))) mTT (Zs (j0 gNe (mVar 0) (jj mNil)) (j9 (R 0) (mCons (mVar 1) (mCons (j0 je (mVar 0) (mC (.int 0))) (mCons (mVar 2) mNil)))))) mNil))))
noncomputable def uy:Nat->Nat->Fn
 |0=>fun _ _ _=>.bad
 |k+1=>fun i=>match i with
  |_=>fnOf 0 (k4 (uy k))
noncomputable def Vg:Fn:=uy 10 0
noncomputable def Us:MSt:=(j7 (jr 3 (j0 y7 (mVar 0) (j0 je (mVar 1) (mC (.int 0)))))
  (j7 (jr 4 (Ul 1 [0,2] (gN 0) (uo (mVar 3)) (Yk (u7 (mVar 0)) (u7 (j9 Vg (mCons (mVar 1) (mCons (j0 je (mVar 0) (mC (.int 0))) (mCons (mVar 2) mNil)))))) (mVar 0)))
  (j7 (Js (ko (u7 (mVar 4)))
  (jr 4 (Ul 1 [] (gN 0) (uo (mVar 3)) (j8 (j0 gEq (mVar 0) (jj mNil))) (mVar 0)))
  jf)
  (j7 (Js (ko (u7 (mVar 4)))
  (jh (mC .non))
  jf)
  (jr 1 (j0 jo (j0 je (mVar 4) (mC (.int 0))) (mSl (mVar 1) (jk (mC (.int 1))) Jh)))))))
noncomputable def ax3:MSt:=(j7 (yu 1000 (Yk (u7 (mVar 1)) (j8 (j0 (X8 false) (j0 je (mVar 1) (mC (.int 0))) (mVar 0)))) Us)
  (jh (mIf (Yk (u7 (mVar 1)) (j8 (j0 gEq (j0 je (mVar 1) (mC (.int 0))) (mVar 2)))) (mSl (mVar 1) (jk (mC (.int 1))) Jh) (mC .non))))
noncomputable def zt:Fn:=fnOf 2 ax3
noncomputable def a51:MSt:=(Js (j8 (j0 gIn (mVar 0) (mVar 2)))
  (jh (mVar 1))
  jf)
noncomputable def ax6:MSt:=(j7 (Js (j8 (q0 fj fj (mC (.str w_0)) (j0 je (mVar 0) (mC (.int 0))) (mC (.str w_9))))
  (jh (mIf (Yk (j8 (j0 gLe (jl U1 (mCons (mVar 0) mNil)) (mC (.int 10)))) (j8 (j0 gLe (jl Km (mCons (mVar 0) mNil)) (mC (.int 4294967295))))) (mC (.str w_n)) (mC (.str w_wrong))))
  jf)
  (j7 (V5 (al7 (Vs (gN 1) (Vs (gN 2) al3))) (uo (jj (mCons (Jo (mCons (mC (.str ut)) (mCons (Jo (mCons (mC (.str U3)) (mCons (mC (.str U2)) mNil))) mNil))) (mCons (Jo (mCons (mC (.str w14)) (mCons (Jo (mCons (mC (.str w33)) (mCons (mC (.str w34)) (mCons (mC (.str w35)) (mCons (mC (.str w31)) (mCons (mC (.str w32)) mNil)))))) mNil))) (mCons (Jo (mCons (mC (.str w17)) (mCons (Jo (mCons (mC (.str w36)) (mCons (mC (.str w39)) (mCons (mC (.str w40)) mNil)))) mNil))) (mCons (Jo (mCons (mC (.str w20)) (mCons (Jo (mCons (mC (.str w37)) (mCons (mC (.str Ju)) (mCons (mC (.str w38)) (mCons (mC (.str w29)) (mCons (mC (.str w30)) mNil)))))) mNil))) mNil)))))) a51)
  (jh (mVar 0))))
noncomputable def yr:Fn:=fnOf 2 ax6
noncomputable def xb:MSt:=(j7 (jr 8 (j0 je (mVar 2) (j0 Jl (j9 u6 (mCons (mVar 0) (mCons (j0 jo (j0 jo (mC (.int 41)) (mVar 5)) (j0 zj (mC (.int 17)) (mVar 7))) mNil))) (mC (.int 44)))))
  (j7 (jr 9 (E3 (j9 zt (mCons (mVar 1) (mCons (mVar 3) (mCons (j9 yr (mCons (mVar 8) mNil)) mNil))))))
  (Js (Yk (u7 (mVar 9)) (j8 (j0 gGt (j0 Jl (j9 u6 (mCons (mVar 0) (mCons (j0 jo (mC (.int 20)) (mVar 5)) mNil))) (mC (.int 9))) (mC (.int 0)))))
  (jr 6 (mVar 8))
  jf)))
noncomputable def Vy:MSt:=(j7 (jr 6 (j0 je (mVar 2) (j0 Jl (j9 u6 (mCons (mVar 0) (mCons (j0 jo (mC (.int 41)) (mVar 5)) mNil))) (mC (.int 44)))))
  (j7 (V5 (gN 7) (Y8 (mC (.int 8))) xb)
  (j7 (Jr (Z7 (mVar 4) (mVar 6)))
  (jr 3 (af8 (j9 zt (mCons (mVar 1) (mCons (mVar 3) (mCons (j9 yr (mCons (mVar 6) mNil)) mNil)))) (jj mNil))))))
noncomputable def ax5:MSt:=(j7 (jr 2 (j9 Qi mNil))
  (j7 (jr 3 (jj (mCons (mC (.str w_F)) mNil)))
  (j7 (jr 4 (a47 mNil))
  (j7 (V5 (gN 5) (Y8 (j0 jo (mC (.int 1)) (j0 Jl (j9 u6 (mCons (mVar 0) (mCons (mC (.int 40)) mNil))) (mC (.int 12))))) Vy)
  (jh (mVar 4))))))
noncomputable def fg:Fn:=fnOf 8 ax5
noncomputable def ax2:MSt:=(j7 (jr 1 (mC (.dic ([(Ui,w14),(u4,w33),(uc,w34),(ub,w35),(Uf,w31),(ud,w32),(Uh,w17),(ue,w36),(ug,w20),(Ug,w37),(Ju,Ju),(Jk,w38),(U0,w39),(Ya,w40),(Ue,w29),(uf,w30)].map fun x=>.inr x.1) ([(Ui,w14),(u4,w33),(uc,w34),(ub,w35),(Uf,w31),(ud,w32),(Uh,w17),(ue,w36),(ug,w20),(Ug,w37),(Ju,Ju),(Jk,w38),(U0,w39),(Ya,w40),(Ue,w29),(uf,w30)].map fun x=>.str x.2))))
  (jh (j0 y7 (mVar 1) (mVar 0))))
noncomputable def zw:Fn:=fnOf 1 ax2
noncomputable def cu (R:Nat->Fn):MSt:=(j7 (jr 1 (j0 je (mVar 0) (mC (.int 0))))
  (j7 (Js (j8 (j0 gEq (mVar 1) (mC (.str w_number))))
  (jh (jj (mCons (jl bw (mCons (j0 je (mVar 0) (mC (.int 1))) mNil)) mNil)))
  jf)
  (j7 (Js (j8 (j0 gEq (mVar 1) (mC (.str w_len))))
  (jh (jj (mCons (mC (.str w_len)) mNil)))
  jf)
  (j7 (Js (j8 (j0 gEq (mVar 1) (mC (.str w_truth))))
  (jh (jj (mCons (j0 je (jj (mCons (mC (.str Jw)) (mCons (mC (.str Jt)) mNil))) (jl a67 (mCons (j0 je (mVar 0) (mC (.int 1))) mNil))) mNil)))
  jf)
  (j7 (Js (j8 (j0 gEq (mVar 1) (mC (.str w_load))))
  (jh (j0 jo (j0 jo (jj (mCons (j0 je (jj (mCons (mC (.str w56)) (mCons (mC (.str ut)) (mCons (mC (.str U3)) (mCons (mC (.str w56)) (mCons (mC (.str U2)) mNil)))))) (j0 je (mVar 0) (mC (.int 1)))) (mCons (mC (.str w24)) mNil))) (j9 (R 0) (mCons (j0 je (mVar 0) (mC (.int 2))) mNil))) (jj (mCons (mC (.str w25)) mNil))))
  jf)
  (j7 (Js (j8 (j0 gEq (mVar 1) (mC (.str w_not))))
  (jh (j0 jo (jj (mCons (mC (.str w_not)) mNil)) (j9 (R 1) (mCons (j0 je (mVar 0) (mC (.int 1))) (mCons (Jo (mCons (mC (.str w_both)) (mCons (mC (.str w_either)) mNil))) mNil)))))
  jf)
  (j7 (Js (j8 (j0 gIn (mVar 1) (Jo (mCons (mC (.str w_both)) (mCons (mC (.str w_either)) mNil)))))
  (j7 (jr 2 (mIf (j8 (j0 gEq (mVar 1) (mC (.str w_both)))) (Jo (mCons (mC (.str w_either)) mNil)) (Jo mNil)))
  (j7 (jr 3 (j0 je (jj (mCons (jj (mCons (mC (.str U0)) mNil)) (mCons (jj (mCons (mC (.str Jk)) mNil)) mNil))) (jl a67 (mCons (j0 gEq (mVar 1) (mC (.str w_both))) mNil))))
  (j7 (jr 4 (j9 (R 1) (mCons (j0 je (mVar 0) (mC (.int 2))) (mCons (j0 jo (mVar 2) (Jo (mCons (mVar 1) mNil))) mNil))))
  (jh (j0 jo (j0 jo (j9 (R 1) (mCons (j0 je (mVar 0) (mC (.int 1))) (mCons (mVar 2) mNil))) (mVar 3)) (mVar 4))))))
  jf)
  (j7 (jr 5 (Jo (mCons (mC (.str Uh)) (mCons (mC (.str ue)) (mCons (mC (.str U0)) (mCons (mC (.str Ya)) mNil))))))
  (j7 (jr 6 (Jo (mCons (mC (.str ug)) (mCons (mC (.str Ug)) (mCons (mC (.str Ju)) (mCons (mC (.str Jk)) (mCons (mC (.str Ue)) (mCons (mC (.str uf)) mNil))))))))
  (j7 (Js (j8 (j0 gIn (mVar 1) (mVar 6)))
  (j7 (jr 4 (j9 (R 1) (mCons (j0 je (mVar 0) (mC (.int 2))) (mCons (j0 jo (mVar 5) (mVar 6)) mNil))))
  (jh (j0 jo (j0 jo (j9 (R 1) (mCons (j0 je (mVar 0) (mC (.int 1))) (mCons (mVar 5) mNil))) (jj (mCons (j9 zw (mCons (mVar 1) mNil)) mNil))) (mVar 4))))
  jf)
  (j7 (Js (j8 (j0 gIn (mVar 1) (mVar 5)))
  (jh (j0 jo (j0 jo (j9 (R 1) (mCons (j0 je (mVar 0) (mC (.int 1))) (mCons (Jo mNil) mNil))) (jj (mCons (j9 zw (mCons (mVar 1) mNil)) mNil))) (j9 (R 1) (mCons (j0 je (mVar 0) (mC (.int 2))) (mCons (mVar 5) mNil)))))
  jf)
  (jh (j0 jo (j0 jo (j9 (R 0) (mCons (j0 je (mVar 0) (mC (.int 1))) mNil)) (jj (mCons (j9 zw (mCons (mVar 1) mNil)) mNil))) (j9 (R 0) (mCons (j0 je (mVar 0) (mC (.int 2))) mNil)))))))))))))))
noncomputable def Fx (R:Nat->Fn):MSt:=(j7 (Js (j8 (j0 fk (j0 je (mVar 0) (mC (.int 0))) (mVar 1)))
  (jh (j9 (R 0) (mCons (mVar 0) mNil)))
  jf)
  (j7 (Js (j8 (j0 gIn (j0 je (mVar 0) (mC (.int 0))) (Jo (mCons (mC (.str w_both)) (mCons (mC (.str w_either)) mNil)))))
  (jh (j0 jo (j0 jo (jj (mCons (mC (.str Y3)) (mCons (mC (.str w10)) mNil))) (j9 (R 0) (mCons (mVar 0) mNil))) (jj (mCons (mC (.str w12)) mNil))))
  jf)
  (jh (j0 jo (j0 jo (jj (mCons (mC (.str w10)) mNil)) (j9 (R 0) (mCons (mVar 0) mNil))) (jj (mCons (mC (.str w12)) mNil))))))
noncomputable def J4:Nat->Nat->Fn
 |0=>fun _ _ _=>.bad
 |k+1=>fun i=>match i with
  |0=>fnOf 6 (cu (J4 k))
  |_=>fnOf 0 (Fx (J4 k))
noncomputable def wr:Fn:=J4 30 0
noncomputable def b_op:MSt:=(jh (j0 je (jj (mCons (mC (.str Uh)) (mCons (mC (.str ue)) (mCons (mC (.str ug)) (mCons (mC (.str Ug)) (mCons (mC (.str Ju)) (mCons (mC (.str Jk)) (mCons (mC (.str U0)) (mCons (mC (.str Ya)) (mCons (mC (.str Ue)) (mCons (mC (.str uf)) mNil))))))))))) (j0 Jl (mVar 0) (mC (.int 10)))))
noncomputable def av9:Fn:=fnOf 0 b_op
noncomputable def Va (R:Nat->Fn):MSt:=(j7 (jr 3 (j9 u6 (mCons (mVar 0) (mCons (mVar 1) mNil))))
  (j7 (Js (mOr (j8 (j0 gEq (mVar 2) (mC (.int 0)))) (j8 (j0 gLt (j0 Jl (mVar 3) (mC (.int 5))) (mC (.int 2)))))
  (j7 (jr 4 (j0 je (jj (mCons (mC (.int 0)) (mCons (mC (.int 1)) (mCons (mC (.int 2)) (mCons (mC (.int 7)) (mCons (mC (.int 12)) (mCons (mC (.int 20)) (mCons (mC (.int 33)) (mCons (mC (.int 255)) (mCons (mC (.int 4294967295)) (mCons (j0 Jl (mVar 3) (mC (.int 4294967296))) mNil))))))))))) (j0 Jl (j0 Zy (mVar 3) (mC (.int 5))) (mC (.int 10)))))
  (jh (j0 je (jj (mCons (Jo (mCons (mC (.str w_len)) mNil)) (mCons (Jo (mCons (mC (.str w_number)) (mCons (mVar 4) mNil))) (mCons (Jo (mCons (mC (.str w_number)) (mCons (mVar 4) mNil))) mNil)))) (j0 Jl (j0 Zy (mVar 3) (mC (.int 50))) (mC (.int 3))))))
  jf)
  (j7 (Js (j8 (j0 gEq (j0 Jl (mVar 3) (mC (.int 5))) (mC (.int 2))))
  (jh (Jo (mCons (mC (.str w_load)) (mCons (j0 je (jj (mCons (mC (.int 1)) (mCons (mC (.int 2)) (mCons (mC (.int 4)) mNil)))) (j0 Jl (j0 Zy (mVar 3) (mC (.int 5))) (mC (.int 3)))) (mCons (j9 (R 0) (mCons (mVar 0) (mCons (j0 jo (j0 zj (mC (.int 3)) (mVar 1)) (mC (.int 1))) (mCons (j0 wu (mVar 2) (mC (.int 1))) mNil)))) mNil)))))
  jf)
  (j7 (jr 5 (j9 (R 0) (mCons (mVar 0) (mCons (j0 jo (j0 zj (mC (.int 3)) (mVar 1)) (mC (.int 1))) (mCons (j0 wu (mVar 2) (mC (.int 1))) mNil)))))
  (jh (Jo (mCons (j9 av9 (mCons (j0 Zy (mVar 3) (mC (.int 5))) mNil)) (mCons (mVar 5) (mCons (j9 (R 0) (mCons (mVar 0) (mCons (j0 jo (j0 zj (mC (.int 3)) (mVar 1)) (mC (.int 2))) (mCons (j0 wu (mVar 2) (mC (.int 1))) mNil)))) mNil)))))))))
noncomputable def yv:Nat->Nat->Fn
 |0=>fun _ _ _=>.bad
 |k+1=>fun i=>match i with
  |_=>fnOf 3 (Va (yv k))
noncomputable def Vh:Fn:=yv 6 0
noncomputable def Xu (R:Nat->Fn):MSt:=(j7 (jr 3 (j9 u6 (mCons (mVar 0) (mCons (mVar 1) mNil))))
  (j7 (Js (Yk (j8 (j0 gGt (mVar 2) (mC (.int 0)))) (j8 (j0 gLt (j0 Jl (mVar 3) (mC (.int 5))) (mC (.int 3)))))
  (j7 (jr 4 (j9 (R 0) (mCons (mVar 0) (mCons (j0 jo (j0 zj (mC (.int 2)) (mVar 1)) (mC (.int 1))) (mCons (j0 wu (mVar 2) (mC (.int 1))) mNil)))))
  (j7 (Js (j8 (j0 gEq (j0 Jl (mVar 3) (mC (.int 5))) (mC (.int 0))))
  (jh (Jo (mCons (mC (.str w_not)) (mCons (mVar 4) mNil))))
  jf)
  (jh (Jo (mCons (j0 je (jj (mCons (mC (.str w_both)) (mCons (mC (.str w_either)) mNil))) (j0 wu (j0 Jl (mVar 3) (mC (.int 5))) (mC (.int 1)))) (mCons (mVar 4) (mCons (j9 (R 0) (mCons (mVar 0) (mCons (j0 jo (j0 zj (mC (.int 2)) (mVar 1)) (mC (.int 2))) (mCons (j0 wu (mVar 2) (mC (.int 1))) mNil)))) mNil)))))))
  jf)
  (j7 (Js (j8 (j0 gEq (j0 Jl (j0 Zy (mVar 3) (mC (.int 5))) (mC (.int 7))) (mC (.int 0))))
  (jh (Jo (mCons (mC (.str w_truth)) (mCons (j0 gEq (j0 Jl (j0 Zy (mVar 3) (mC (.int 35))) (mC (.int 2))) (mC (.int 0))) mNil))))
  jf)
  (j7 (jr 5 (j0 je (jj (mCons (mC (.str Ui)) (mCons (mC (.str u4)) (mCons (mC (.str uc)) (mCons (mC (.str ub)) (mCons (mC (.str Uf)) (mCons (mC (.str ud)) mNil))))))) (j0 Jl (j0 Zy (mVar 3) (mC (.int 35))) (mC (.int 6)))))
  (jh (Jo (mCons (mVar 5) (mCons (j9 Vh (mCons (mVar 0) (mCons (j0 jo (j0 zj (mC (.int 5)) (mVar 1)) (mC (.int 3))) (mCons (mC (.int 2)) mNil)))) (mCons (j9 Vh (mCons (mVar 0) (mCons (j0 jo (j0 zj (mC (.int 5)) (mVar 1)) (mC (.int 4))) (mCons (mC (.int 1)) mNil)))) mNil)))))))))
noncomputable def U6:Nat->Nat->Fn
 |0=>fun _ _ _=>.bad
 |k+1=>fun i=>match i with
  |_=>fnOf 3 (Xu (U6 k))
noncomputable def Xy:Fn:=U6 6 0
noncomputable def Uk:MSt:=(j7 (jr 2 (j9 zt (mCons (mVar 0) (mCons (mVar 2) (mCons (j9 yr (mCons (j0 je (mVar 1) (mVar 3)) mNil)) mNil)))))
  (Js (j8 (a48 (mVar 2)))
  (jh (j0 jo (mVar 3) (mC (.int 1))))
  jf))
noncomputable def ai1:MSt:=(j7 (jr 2 (jj (mCons (mC (.str w_F)) mNil)))
  (j7 (V5 (gN 3) (Y8 (jl U1 (mCons (mVar 1) mNil))) Uk)
  (jh (mIf (u7 (jl ah0 (mCons (Ul 1 [] (gN 0) (uo (mVar 2)) mTT (j0 gIn (mVar 0) (Jo (mCons (mC (.str k9)) (mCons (mC (.str kz)) (mCons (mC (.str k7)) (mCons (mC (.str k8)) mNil))))))) mNil))) (mC (.int 0)) (j0 jo (jl U1 (mCons (mVar 1) mNil)) (mC (.int 1)))))))
noncomputable def Xz:Fn:=fnOf 2 ai1
noncomputable def Qf:MSt:=(j7 (a45 oC_Reader "words" (mVar 0) (mVar 1))
  (a45 oC_Reader "place" (mVar 0) (mC (.int 0))))
noncomputable def um:Fn:=fnOf 0 Qf
noncomputable def qy:MSt:=(E4 2 (mC (.int 1)))
noncomputable def Qg:MSt:=(j7 (jr 2 (mVar 1))
  (j7 (yu 400 (Yk (j8 (j0 gLt (mVar 2) (jl U1 (mCons (mVar 0) mNil)))) (u7 (Y1 zi (j0 je (mVar 0) (mVar 2))))) qy)
  (jh (mVar 2))))
noncomputable def Yg:Fn:=fnOf 1 Qg
noncomputable def qz:MSt:=(E4 2 (mC (.int 1)))
noncomputable def Qh:MSt:=(j7 (jr 2 (mVar 1))
  (j7 (yu 400 (Yk (j8 (j0 gLt (mVar 2) (jl U1 (mCons (mVar 0) mNil)))) (u7 (Y1 X6 (j0 je (mVar 0) (mVar 2))))) qz)
  (jh (mVar 2))))
noncomputable def Yh:Fn:=fnOf 1 Qh
noncomputable def Wp:MSt:=(j7 (Js (u7 (Y1 zi (j0 je (mVar 0) (mVar 1))))
  (jh (j9 Yg (mCons (mVar 0) (mCons (mVar 1) mNil))))
  jf)
  (j7 (Js (u7 (Y1 X6 (j0 je (mVar 0) (mVar 1))))
  (jh (j9 Yh (mCons (mVar 0) (mCons (mVar 1) mNil))))
  jf)
  (j7 (Js (j8 (j0 gIn (Bg (mVar 0) (jk (mVar 1)) (jk (j0 jo (mVar 1) (mC (.int 2))))) (mC c_LONG_SIGNS)))
  (jh (j0 jo (mVar 1) (mC (.int 2))))
  jf)
  (jh (j0 jo (mVar 1) (mC (.int 1)))))))
noncomputable def ye:Fn:=fnOf 0 Wp
noncomputable def Fy:MSt:=(jh (Zs (Bf .int (mVar 0)) (a46 (Bf .bool (mVar 0)))))
noncomputable def Xx:Fn:=fnOf 0 Fy
noncomputable def kg:MSt:=(jh (Zs (j9 Xx (mCons (mVar 0) mNil)) (q0 gLe gLt (mC (.int 0)) (mVar 0) (mC c_ROUND))))
noncomputable def yn:Fn:=fnOf 0 kg
noncomputable def kh:MSt:=(j7 (Js (j8 (j0 gGt (jl U1 (mCons (mVar 0) mNil)) (mC c_MOST_FIGURES)))
  (jh (mC .non))
  jf)
  (j7 (jr 1 (jl Km (mCons (mVar 0) mNil)))
  (jh (mIf (u7 (j9 yn (mCons (mVar 1) mNil))) (mVar 1) (mC .non)))))
noncomputable def zu:Fn:=fnOf 1 kh
noncomputable def Eg:MSt:=(j7 (Js (u7 (Y1 zi (j0 je (mVar 0) (mC (.int 0)))))
  (jh (j9 zu (mCons (mVar 0) mNil)))
  jf)
  (j7 (Js (mOr (j8 (j0 gIn (mVar 0) (mC c_NAMES))) (mOr (j8 (j0 gIn (mVar 0) (mC c_LONG_SIGNS))) (j8 (j0 gIn (mVar 0) (mC c_SIGNS)))))
  (jh (mVar 0))
  jf)
  (jh (mC .non))))
noncomputable def qt:Fn:=fnOf 0 Eg
noncomputable def y6:MSt:=(j7 (jr 3 (j9 ye (mCons (mVar 0) (mCons (mVar 2) mNil))))
  (j7 (Js (j8 (j0 gNe (j0 je (mVar 0) (mVar 2)) (mC (.str w72))))
  (Jr (Z7 (mVar 1) (j9 qt (mCons (Bg (mVar 0) (jk (mVar 2)) (jk (mVar 3))) mNil))))
  jf)
  (jr 2 (mVar 3))))
noncomputable def Fz:MSt:=(j7 (jr 1 (a47 mNil))
  (j7 (jr 2 (mC (.int 0)))
  (j7 (yu 400 (j8 (j0 gLt (mVar 2) (jl U1 (mCons (mVar 0) mNil)))) y6)
  (jh (mVar 1)))))
noncomputable def y9:Fn:=fnOf 3 Fz
noncomputable def wl:MSt:=(jh (mIf (j8 (j0 gLt (z5 oC_Reader "place" (mVar 0)) (jl U1 (mCons (z5 oC_Reader "words" (mVar 0)) mNil)))) (j0 je (z5 oC_Reader "words" (mVar 0)) (z5 oC_Reader "place" (mVar 0))) (mC .non)))
noncomputable def jx:Fn:=fnOf 0 wl
noncomputable def qq:MSt:=(Kw oC_Reader "place" (mVar 0) (mC (.int 1)))
noncomputable def ju:Fn:=fnOf 0 qq
noncomputable def Xt:MSt:=(V4 0 (j0 jo (z5 oC_Reader "place" (mVar 0)) (mC (.int 1))))
noncomputable def J1:Fn:=fnOf 0 Xt
noncomputable def qp:MSt:=(j7 (Js (j8 (j0 gGe (mVar 1) (mC c_MOST_WITHIN)))
  (Jr (yf "Reader" "refuse" J1 (mVar 0) mNil))
  jf)
  (Kw oC_Reader "place" (mVar 0) (mC (.int 1))))
noncomputable def jg:Fn:=fnOf 0 qp
noncomputable def Xs:MSt:=(j7 (Js (j8 (j0 gNe (mMe "Reader" "ahead" jx (mVar 0) mNil) (mVar 1)))
  (Jr (yf "Reader" "refuse" J1 (mVar 0) mNil))
  jf)
  (Kw oC_Reader "place" (mVar 0) (mC (.int 1))))
noncomputable def jb:Fn:=fnOf 0 Xs
noncomputable def Vz (R:Nat->Fn):MSt:=(j7 (jr 3 (j0 y7 (mC (.dic Yj Yf)) (mMe "Reader" "ahead" jx (mVar 0) mNil)))
  (j7 (Jr (mMe "Reader" "step_over" ju (mVar 0) mNil))
  (jr 2 (Jo (mCons (mVar 3) (mCons (mVar 2) (mCons (J9 (R 1) (mCons (mVar 0) (mCons (mVar 1) mNil))) mNil)))))))
noncomputable def Zv (R:Nat->Fn):MSt:=(j7 (jr 2 (J9 (R 1) (mCons (mVar 0) (mCons (mVar 1) mNil))))
  (j7 (yu 100 (j8 (j0 (zh false) (mMe "Reader" "ahead" jx (mVar 0) mNil) (mC (.dic Yj Yf)))) (Vz R))
  (jh (mVar 2))))
noncomputable def Qp (R:Nat->Fn):MSt:=(j7 (jr 3 (j0 y7 (mC (.dic U8 Uz)) (mMe "Reader" "ahead" jx (mVar 0) mNil)))
  (j7 (Jr (mMe "Reader" "step_over" ju (mVar 0) mNil))
  (jr 2 (Jo (mCons (mVar 3) (mCons (mVar 2) (mCons (J9 (R 2) (mCons (mVar 0) (mCons (mVar 1) mNil))) mNil)))))))
noncomputable def yq (R:Nat->Fn):MSt:=(j7 (jr 2 (J9 (R 2) (mCons (mVar 0) (mCons (mVar 1) mNil))))
  (j7 (yu 100 (j8 (j0 (zh false) (mMe "Reader" "ahead" jx (mVar 0) mNil) (mC (.dic U8 Uz)))) (Qp R))
  (jh (mVar 2))))
noncomputable def Yc (R:Nat->Fn):MSt:=(j7 (jr 2 (mMe "Reader" "ahead" jx (mVar 0) mNil))
  (j7 (Js (j8 (j0 (zh false) (mVar 2) (mC (.dic Jz Jy))))
  (jh (J9 (R 3) (mCons (mVar 0) (mCons (mVar 1) mNil))))
  jf)
  (j7 (Js (j8 (j0 gEq (mVar 2) (mC (.str w10))))
  (jh (J9 (R 4) (mCons (mVar 0) (mCons (mVar 1) mNil))))
  jf)
  (j7 (Js (j8 (j0 gEq (mVar 2) (mC (.str w_len))))
  (j7 (Jr (mMe "Reader" "step_over" ju (mVar 0) mNil))
  (jh (Jo (mCons (mC (.str w_len)) mNil))))
  jf)
  (j7 (Js (ko (u7 (Bf .int (mVar 2))))
  (Jr (yf "Reader" "refuse" J1 (mVar 0) mNil))
  jf)
  (j7 (Jr (mMe "Reader" "step_over" ju (mVar 0) mNil))
  (jh (Jo (mCons (mC (.str w_number)) (mCons (mVar 2) mNil))))))))))
noncomputable def zq (R:Nat->Fn):MSt:=(j7 (jr 2 (j0 y7 (mC (.dic Jz Jy)) (mMe "Reader" "ahead" jx (mVar 0) mNil)))
  (j7 (Jr (yf "Reader" "step_into" jg (mVar 0) (mCons (mVar 1) mNil)))
  (j7 (Jr (yf "Reader" "expect" jb (mVar 0) (mCons (mC (.str w24)) mNil)))
  (j7 (jr 3 (J9 (R 0) (mCons (mVar 0) (mCons (j0 jo (mVar 1) (mC (.int 1))) mNil))))
  (j7 (Jr (yf "Reader" "expect" jb (mVar 0) (mCons (mC (.str w25)) mNil)))
  (jh (Jo (mCons (mC (.str w_load)) (mCons (mVar 2) (mCons (mVar 3) mNil))))))))))
noncomputable def yp (R:Nat->Fn):MSt:=(j7 (Jr (yf "Reader" "step_into" jg (mVar 0) (mCons (mVar 1) mNil)))
  (j7 (jr 2 (J9 (R 0) (mCons (mVar 0) (mCons (j0 jo (mVar 1) (mC (.int 1))) mNil))))
  (j7 (Jr (yf "Reader" "expect" jb (mVar 0) (mCons (mC (.str w12)) mNil)))
  (jh (mVar 2)))))
noncomputable def jv:Nat->Nat->Fn
 |0=>fun _ _ _=>.bad
 |k+1=>fun i=>match i with
  |0=>fnOf 2 (Zv (jv k))
  |1=>fnOf 2 (yq (jv k))
  |2=>fnOf 1 (Yc (jv k))
  |3=>fnOf 2 (zq (jv k))
  |_=>fnOf 1 (yp (jv k))
noncomputable def Zw:Fn:=jv 64 0
noncomputable def Q1:MSt:=(j7 (jr 2 (J9 Zw (mCons (mVar 0) (mCons (mVar 1) mNil))))
  (j7 (jr 3 (mMe "Reader" "ahead" jx (mVar 0) mNil))
  (j7 (Js (j8 (j0 (zh true) (mVar 3) (mC (.dic Je Jd))))
  (Jr (yf "Reader" "refuse" J1 (mVar 0) mNil))
  jf)
  (j7 (Jr (mMe "Reader" "step_over" ju (mVar 0) mNil))
  (jh (Jo (mCons (j0 y7 (mC (.dic Je Jd)) (mVar 3)) (mCons (mVar 2) (mCons (J9 Zw (mCons (mVar 0) (mCons (mVar 1) mNil))) mNil)))))))))
noncomputable def u8:Fn:=fnOf 2 Q1
noncomputable def xf (R:Nat->Fn):MSt:=(j7 (Jr (mMe "Reader" "step_over" ju (mVar 0) mNil))
  (jr 2 (Jo (mCons (mC (.str w_either)) (mCons (mVar 2) (mCons (J9 (R 1) (mCons (mVar 0) (mCons (mVar 1) mNil))) mNil))))))
noncomputable def yb (R:Nat->Fn):MSt:=(j7 (jr 2 (J9 (R 1) (mCons (mVar 0) (mCons (mVar 1) mNil))))
  (j7 (yu 100 (j8 (j0 gEq (mMe "Reader" "ahead" jx (mVar 0) mNil) (mC (.str U0)))) (xf R))
  (jh (mVar 2))))
noncomputable def wy (R:Nat->Fn):MSt:=(j7 (Jr (mMe "Reader" "step_over" ju (mVar 0) mNil))
  (jr 2 (Jo (mCons (mC (.str w_both)) (mCons (mVar 2) (mCons (J9 (R 2) (mCons (mVar 0) (mCons (mVar 1) mNil))) mNil))))))
noncomputable def Yd (R:Nat->Fn):MSt:=(j7 (jr 2 (J9 (R 2) (mCons (mVar 0) (mCons (mVar 1) mNil))))
  (j7 (yu 100 (j8 (j0 gEq (mMe "Reader" "ahead" jx (mVar 0) mNil) (mC (.str Jk)))) (wy R))
  (jh (mVar 2))))
noncomputable def zr (R:Nat->Fn):MSt:=(j7 (jr 2 (mMe "Reader" "ahead" jx (mVar 0) mNil))
  (j7 (Js (mOr (j8 (j0 gEq (mVar 2) (mC (.str Jt)))) (j8 (j0 gEq (mVar 2) (mC (.str Jw)))))
  (j7 (Jr (mMe "Reader" "step_over" ju (mVar 0) mNil))
  (jh (Jo (mCons (mC (.str w_truth)) (mCons (j0 gEq (mVar 2) (mC (.str Jt))) mNil)))))
  jf)
  (j7 (Js (j8 (j0 gEq (mVar 2) (mC (.str w_not))))
  (j7 (Jr (yf "Reader" "step_into" jg (mVar 0) (mCons (mVar 1) mNil)))
  (jh (Jo (mCons (mC (.str w_not)) (mCons (J9 (R 2) (mCons (mVar 0) (mCons (j0 jo (mVar 1) (mC (.int 1))) mNil))) mNil)))))
  jf)
  (j7 (Js (j8 (j0 gEq (mVar 2) (mC (.str Y3))))
  (jh (J9 (R 3) (mCons (mVar 0) (mCons (mVar 1) mNil))))
  jf)
  (jh (J9 u8 (mCons (mVar 0) (mCons (mVar 1) mNil))))))))
noncomputable def qr (R:Nat->Fn):MSt:=(j7 (Jr (yf "Reader" "step_into" jg (mVar 0) (mCons (mVar 1) mNil)))
  (j7 (Jr (yf "Reader" "expect" jb (mVar 0) (mCons (mC (.str w10)) mNil)))
  (j7 (jr 2 (J9 (R 0) (mCons (mVar 0) (mCons (j0 jo (mVar 1) (mC (.int 1))) mNil))))
  (j7 (Jr (yf "Reader" "expect" jb (mVar 0) (mCons (mC (.str w12)) mNil)))
  (jh (mVar 2))))))
noncomputable def jw:Nat->Nat->Fn
 |0=>fun _ _ _=>.bad
 |k+1=>fun i=>match i with
  |0=>fnOf 1 (yb (jw k))
  |1=>fnOf 1 (Yd (jw k))
  |2=>fnOf 1 (zr (jw k))
  |_=>fnOf 1 (qr (jw k))
noncomputable def Zr:Fn:=jw 64 0
noncomputable def Zj:MSt:=(Js (j8 (j0 gLt (z5 oC_Reader "place" (mVar 0)) (jl U1 (mCons (z5 oC_Reader "words" (mVar 0)) mNil))))
  (Jr (yf "Reader" "refuse" J1 (mVar 0) mNil))
  jf)
noncomputable def Jb:Fn:=fnOf 0 Zj
noncomputable def a87:MSt:=(j7 (jr 1 (af9 "Reader" um (mCons (j9 y9 (mCons (mVar 0) mNil)) mNil)))
  (j7 (jr 2 (J9 Zr (mCons (mVar 1) (mCons (mC (.int 0)) mNil))))
  (j7 (Jr (yf "Reader" "expect_end" Jb (mVar 1) mNil))
  (jh (mVar 2)))))
noncomputable def U9:Fn:=fnOf 2 a87
noncomputable def ai2:MSt:=(jh (Zs (Bf .int (mVar 0)) (a46 (Bf .bool (mVar 0)))))
noncomputable def fh:Fn:=fnOf 0 ai2
noncomputable def qj:MSt:=(j7 (jr 7 (mIf (Yk (u7 (Gf (fun c=>([("BadFilter",true)]:List (Str×Bool)).lookup c) (mVar 8))) (u7 (Gf (fun c=>([("BadFilter",true)]:List (Str×Bool)).lookup c) (mVar 8)))) (af7 (fun c=>(["BadFilter"]:List Str).contains c) "word" (mVar 8)) (au3 (mC (.int 1)))))
  (Js (u7 (Gf (fun c=>([("BadFilter",false)]:List (Str×Bool)).lookup c) (mVar 8)))
  (jr 7 (au3 (mC (.int 1))))
  jf))
noncomputable def aG9:MSt:=(j7 (jr 1 (j9 qf mNil))
  (j7 (jr 2 (j9 fg (mCons (mVar 0) (mCons (mVar 1) mNil))))
  (j7 (Js (j8 (j0 gEq (j0 Jl (j9 u6 (mCons (mVar 0) (mCons (mC (.int 59)) mNil))) (mC (.int 2))) (mC (.int 0))))
  (j7 (jr 2 (mSl (j9 wr (mCons (j9 Xy (mCons (mVar 0) (mCons (mC (.int 0)) (mCons (mC (.int 2)) mNil)))) mNil)) Jh (jk (mC (.int 60)))))
  (j7 (jr 3 (j0 Jl (j9 u6 (mCons (mVar 0) (mCons (mC (.int 60)) mNil))) (jl U1 (mCons (mVar 2) mNil))))
  (j7 (jr 4 (j0 je (j9 Qi mNil) (j0 Jl (j9 u6 (mCons (mVar 0) (mCons (mC (.int 61)) mNil))) (mC (.int 44)))))
  (j7 (jr 5 (j0 jo (j0 jo (mSl (mVar 2) Jh (jk (mVar 3))) (jj (mCons (mVar 4) mNil))) (mSl (mVar 2) (jk (j0 jo (mVar 3) (mC (.int 1)))) Jh)))
  (j7 (jr 2 (jj (mCons (mVar 2) (mCons (mSl (mVar 2) Jh (jk (j0 jo (mVar 3) (mC (.int 1))))) (mCons (j0 jo (mSl (mVar 2) Jh (jk (mVar 3))) (mSl (mVar 2) (jk (j0 jo (mVar 3) (mC (.int 1)))) Jh)) (mCons (mVar 5) (mCons (j0 jo (j0 jo (mSl (mVar 2) Jh (jk (mVar 3))) (jj (mCons (mVar 4) mNil))) (mSl (mVar 2) (jk (mVar 3)) Jh)) mNil)))))))
  (j7 (jr 2 (j0 je (mVar 2) (j0 Jl (j9 u6 (mCons (mVar 0) (mCons (mC (.int 62)) mNil))) (mC (.int 5)))))
  (Js (j8 (j0 gGt (jl U1 (mCons (Ww z6 (mC (.str w72)) (mCons (mVar 2) mNil)) mNil)) (mC (.int 300))))
  (jr 2 (mSl (mVar 2) Jh (jk (mC (.int 12)))))
  jf)))))))
  jf)
  (j7 (jr 6 (j9 Xz (mCons (mVar 1) (mCons (mVar 2) mNil))))
  (j7 (jr 7 (mC (.int 0)))
  (j7 (Za 8 (fun k=>k==0) xc (J9 U9 (mCons (Ww z6 (mC (.str w72)) (mCons (mVar 2) mNil)) mNil)) qj)
  (jh (Zs (j9 fh (mCons (mVar 7) mNil)) (j0 gEq (mVar 7) (mVar 6))))))))))
noncomputable def f_law:Fn:=fnOf 8 aG9
structure Tx (w:World) (K:PySem.W.Frag) (mg:Str->Option Value):Prop where
 n_len:mg "len"=none
 n_range:mg "range"=none
 n_any:mg "any"=none
 n_int:mg "int"=none
 n_str:mg "str"=none
 n_all:mg "all"=none
 n_isinstance:mg "isinstance"=none
 n_bool:mg "bool"=none
 n_ValueError:mg "ValueError"=none
 c_LONG_SIGNS:Yx K mg "LONG_SIGNS" c_LONG_SIGNS
 c_MOST_FIGURES:Yx K mg "MOST_FIGURES" c_MOST_FIGURES
 c_ROUND:Yx K mg "ROUND" c_ROUND
 c_NAMES:Yx K mg "NAMES" c_NAMES
 c_SIGNS:Yx K mg "SIGNS" c_SIGNS
 c_MOST_WITHIN:Yx K mg "MOST_WITHIN" c_MOST_WITHIN
 c_SUM_OPS:qm w K mg "SUM_OPS" Yj Yf
 c_PRODUCT_OPS:qm w K mg "PRODUCT_OPS" U8 Uz
 c_LOAD_SIZES:qm w K mg "LOAD_SIZES" Jz Jy
 c_COMPARISONS:qm w K mg "COMPARISONS" Je Jd
 m_SieveError:k6 K mg "SieveError"
 m_Reader:k6 K mg "Reader"
 m_BadFilter:k6 K mg "BadFilter"
 m_TooDeep:k6 K mg "TooDeep"
 m_Stuck:k6 K mg "Stuck"
 m_NotLetIn:k6 K mg "NotLetIn"
 m_BadLine:k6 K mg "BadLine"
 x_BadFilter:ExAt K mg "BadFilter" "word" "BadFilter.__init__" "self" "word" si_BadFilter
 u_SieveError:XUp K (cA K "SieveError")
 h_SieveError:am7 K mg "SieveError"
 s_BadFilter_SieveError:PySem.W.subIn K (.ref (cA K "BadFilter")) (.ref (cA K "SieveError"))=some true
 g_BadFilter:XGet K (cA K "BadFilter")
 a_BadFilter:PySem.W.findIn K (.ref (cA K "BadFilter")) "word"=some none
 k_BadFilter_BadFilter:PySem.W.kitOne K (.ref (cA K "BadFilter")) (.ref (cA K "BadFilter"))=some true
 k_BadFilter_ValueError:PySem.W.kitOne K (.ref (cA K "BadFilter")) (.type "ValueError")=some true
 k_BadFilter_BadLine_NotLetIn_Stuck_TooDeep:PySem.W.kitAny K (.ref (cA K "BadFilter")) ([(cA K "BadLine"),(cA K "NotLetIn"),(cA K "Stuck"),(cA K "TooDeep")].map .ref)=some false
 o_Reader:Cls K (cA K "Reader")
 na_Reader_words:zp K (cA K "Reader") "words"
 na_Reader_place:zp K (cA K "Reader") "place"
 d_p_Reader__init__:MkD K mg "Reader" "Reader.__init__" s_p_Reader__init__ ["self","words"]
 d_m_Reader_ahead:MtD K "Reader" "ahead" "Reader.ahead" s_m_Reader_ahead ["self"]
 d_m_Reader_step_over:MtD K "Reader" "step_over" "Reader.step_over" s_m_Reader_step_over ["self"]
 d_m_Reader_refuse:MtD K "Reader" "refuse" "Reader.refuse" s_m_Reader_refuse ["self"]
 d_m_Reader_step_into:MtD K "Reader" "step_into" "Reader.step_into" s_m_Reader_step_into ["self","within"]
 d_m_Reader_expect:MtD K "Reader" "expect" "Reader.expect" s_m_Reader_expect ["self","word"]
 d_m_Reader_expect_end:MtD K "Reader" "expect_end" "Reader.expect_end" s_m_Reader_expect_end ["self"]
 d_grammar:Jx K mg "_law_grammar" K3 []
 d_menu:Jx K mg "_law_menu" Ad []
 d_cell:Jx K mg "_law_cell" Aa ["_law_script","_law_k_here"]
 d_mix:Jx K mg "_law_mix" ak2 ["_law_script","_law_k_here"]
 d_begins:Jx K mg "_law_begins" vq ["_law_table","_law_goal","_law_kind_here"]
 d_next:Jx K mg "_law_next" gc ["_law_table","_law_goals_here","_law_kind_here"]
 d_kind:Jx K mg "_law_kind" Ab ["_law_word"]
 d_made:Jx K mg "_law_made" Ac ["_law_script","_law_table"]
 d_sign:Jx K mg "_law_sign" Ae ["_law_word"]
 d_told:Jx K mg "_law_told" Af ["_law_tree"]
 d_inner:Jx K mg "_law_inner" C8 ["_law_tree","_law_kinds"]
 d_op:Jx K mg "_law_op" aA5 ["_law_number_here"]
 d_number:Jx K mg "_law_number" Fq ["_law_script","_law_base","_law_deep"]
 d_truth:Jx K mg "_law_truth" C7 ["_law_script","_law_base","_law_deep"]
 d_wrong:Jx K mg "_law_wrong" ge ["_law_table","_law_words"]
 d_p_end_of_figures:Jx K mg "end_of_figures" Yn ["text","place"]
 d_p_end_of_letters:Jx K mg "end_of_letters" Yo ["text","place"]
 d_p_end_of_word:Jx K mg "end_of_word" Zu ["text","place"]
 d_p_is_whole:Jx K mg "is_whole" xx ["thing"]
 d_p_is_number:Jx K mg "is_number" Q4 ["thing"]
 d_p_number_of:Jx K mg "number_of" Q3 ["figures"]
 d_p_word_of:Jx K mg "word_of" wc ["piece"]
 d_p_words_of:Jx K mg "words_of" xy ["text"]
 d_p_read_sum:Jx K mg "read_sum" Uc ["reader","within"]
 d_p_read_product:Jx K mg "read_product" u9 ["reader","within"]
 d_p_read_plain:Jx K mg "read_plain" U5 ["reader","within"]
 d_p_read_load:Jx K mg "read_load" Uu ["reader","within"]
 d_p_read_bracket:Jx K mg "read_bracket" uz ["reader","within"]
 d_p_read_comparison:Jx K mg "read_comparison" jc ["reader","within"]
 d_p_read_filter:Jx K mg "read_filter" ul ["reader","within"]
 d_p_read_tests:Jx K mg "read_tests" U4 ["reader","within"]
 d_p_read_test:Jx K mg "read_test" Uv ["reader","within"]
 d_p_read_so:Jx K mg "read_so" yk ["reader","within"]
 d_p_read:Jx K mg "read" Ub ["text"]
 d_whole:Jx K mg "_law_whole" C6 ["_law_found"]
 d_law:Jx K mg "law" Fp ["_law_script"]
section
variable {P:Program}{w:World}{K:PySem.W.Frag}{mg:Str->Option Value}{base:Heap}
theorem G1 (T:Tx w K mg):aH4 P w K mg base "BadFilter" "word" 1:=by
 obtain⟨fi,fd,h1,c,F,hb⟩:=T.x_BadFilter
 exact⟨fi,fd,_,_,h1,c,hb,ag7 F ⟨rfl,rfl,rfl,by decide +kernel,rfl,by decide +kernel,by decide +kernel⟩ c T.u_SieveError T.m_SieveError (by decide +kernel) rfl (by decide +kernel) (.inl (by decide +kernel)) (.inl (by decide +kernel)) (fun _=>⟨_,rfl⟩) (fun _=>rfl) (fun _=>rfl)⟩
theorem Dq (T:Tx w K mg):ui P w K mg base "_law_grammar" 1 0 qf:=fnC T.d_grammar [] [] ⟨rfl,rfl,rfl,by decide +kernel,rfl,by decide +kernel,by decide +kernel⟩ (by decide +kernel) (by decide +kernel) rfl rfl fun _ _ _ _ _ _ _ hr C=>(j4 (jy (au2 (Ut gy (me_lst (ma_cons (me_lst (ma_cons (me_str dy) (ma_cons (me_str w_F2_eq) ma_nil rfl) rfl)) ma_nil rfl)) (Ut w_F2_eq (me_lst (ma_cons (me_lst (ma_cons (me_str zb) (ma_cons (me_str dy) (ma_cons (me_str w_F2_eq) ma_nil rfl) rfl) rfl)) (ma_cons (me_lst ma_nil) ma_nil rfl) rfl)) (Ut dy (me_lst (ma_cons (me_lst (ma_cons (me_str gz) (ma_cons (me_str w_B2_eq) ma_nil rfl) rfl)) ma_nil rfl)) (Ut w_B2_eq (me_lst (ma_cons (me_lst (ma_cons (me_str Yr) (ma_cons (me_str gz) (ma_cons (me_str w_B2_eq) ma_nil rfl) rfl) rfl)) (ma_cons (me_lst ma_nil) ma_nil rfl) rfl)) (Ut gz (me_lst (ma_cons (me_lst (ma_cons (me_str zo) ma_nil rfl)) (ma_cons (me_lst (ma_cons (me_str za) ma_nil rfl)) (ma_cons (me_lst (ma_cons (me_str Yt) (ma_cons (me_str gz) ma_nil rfl) rfl)) (ma_cons (me_lst (ma_cons (me_str Wo) (ma_cons (me_str Zg) (ma_cons (me_str gy) (ma_cons (me_str Zh) ma_nil rfl) rfl) rfl) rfl)) (ma_cons (me_lst (ma_cons (me_str Wc) (ma_cons (me_str Wa) (ma_cons (me_str Wc) ma_nil rfl) rfl) rfl)) ma_nil rfl) rfl) rfl) rfl) rfl)) (Ut Wc (me_lst (ma_cons (me_lst (ma_cons (me_str d0) (ma_cons (me_str w_S2_eq) ma_nil rfl) rfl)) ma_nil rfl)) (Ut w_S2_eq (me_lst (ma_cons (me_lst (ma_cons (me_str gv) (ma_cons (me_str d0) (ma_cons (me_str w_S2_eq) ma_nil rfl) rfl) rfl)) (ma_cons (me_lst ma_nil) ma_nil rfl) rfl)) (Ut d0 (me_lst (ma_cons (me_lst (ma_cons (me_str dz) (ma_cons (me_str w_P2_eq) ma_nil rfl) rfl)) ma_nil rfl)) (Ut w_P2_eq (me_lst (ma_cons (me_lst (ma_cons (me_str gw) (ma_cons (me_str dz) (ma_cons (me_str w_P2_eq) ma_nil rfl) rfl) rfl)) (ma_cons (me_lst ma_nil) ma_nil rfl) rfl)) (Ut dz (me_lst (ma_cons (me_lst (ma_cons (me_str Az) ma_nil rfl)) (ma_cons (me_lst (ma_cons (me_str Ys) ma_nil rfl)) (ma_cons (me_lst (ma_cons (me_str ql) (ma_cons (me_str gx) (ma_cons (me_str Wc) (ma_cons (me_str Wb) ma_nil rfl) rfl) rfl) rfl)) (ma_cons (me_lst (ma_cons (me_str Zg) (ma_cons (me_str Wc) (ma_cons (me_str Zh) ma_nil rfl) rfl) rfl)) ma_nil rfl) rfl) rfl) rfl)) ae8)))))))))) (by decide) rfl rfl (by intro h;cases h) (by decide))))
theorem Cr (T:Tx w K mg):ui P w K mg base "_law_menu" 1 0 Qi:=fnC T.d_menu [] [] ⟨rfl,rfl,rfl,by decide +kernel,rfl,by decide +kernel,by decide +kernel⟩ (by decide +kernel) (by decide +kernel) rfl rfl fun _ _ _ _ _ _ _ hr C=>(j4 (jy (me_lst (ma_cons (me_str Yr) (ma_cons (me_str zb) (ma_cons (me_str Yt) (ma_cons (me_str Wo) (ma_cons (me_str Ys) (ma_cons (me_str ql) (ma_cons (me_str Xk) (ma_cons (me_str Xp) (ma_cons (me_str Yw) (ma_cons (me_str zo) (ma_cons (me_str za) (ma_cons (me_str de) (ma_cons (me_str df) (ma_cons (me_str dg) (ma_cons (me_str dh) (ma_cons (me_str di) (ma_cons (me_str dj) (ma_cons (me_str dl) (ma_cons (me_str Wa) (ma_cons (me_str gv) (ma_cons (me_str dm) (ma_cons (me_str gw) (ma_cons (me_str dn) (ma_cons (me_str dq) (ma_cons (me_str du) (ma_cons (me_str dv) (ma_cons (me_str Zg) (ma_cons (me_str Zh) (ma_cons (me_str gx) (ma_cons (me_str Wb) (ma_cons (me_str Ax) (ma_cons (me_str an6) (ma_cons (me_str W9) (ma_cons (me_str W8) (ma_cons (me_str Xj) (ma_cons (me_str B8) (ma_cons (me_str an9) (ma_cons (me_str an4) (ma_cons (me_str Zg) (ma_cons (me_str Zh) (ma_cons (me_str Wb) (ma_cons (me_str Wa) (ma_cons (me_str an7) (ma_cons (me_str a93) ma_nil rfl) rfl) rfl) rfl) rfl) rfl) rfl) rfl) rfl) rfl) rfl) rfl) rfl) rfl) rfl) rfl) rfl) rfl) rfl) rfl) rfl) rfl) rfl) rfl) rfl) rfl) rfl) rfl) rfl) rfl) rfl) rfl) rfl) rfl) rfl) rfl) rfl) rfl) rfl) rfl) rfl) rfl) rfl) rfl))))
theorem ad8 (T:Tx w K mg):ui P w K mg base "_law_cell" 1 2 c6:=fnC T.d_cell ["_law_script","_law_k_here"] ["len"] ⟨rfl,rfl,rfl,by decide +kernel,rfl,by decide +kernel,by decide +kernel⟩ (by decide +kernel) (by decide +kernel) rfl rfl fun _ _ _ _ _ _ _ hr C=>(j3 (J7 (mt_truth (sv C 0 rfl) (fun _=>rfl))
  (j4 (jy (me_idx (sv C 0 rfl) (j6 Ji (sv C 1 rfl) (u5 yc (C.g 0 rfl) T.n_len PySem.boot_len (ma_cons (sv C 0 rfl) ma_nil rfl))) (fun _ _=>rfl))))
  jq)
  (j4 (jy me_int)))
theorem zy (T:Tx w K mg):ui P w K mg base "_law_mix" 2 2 u6:=fnC T.d_mix ["_law_script","_law_k_here","_law_number_here"] ["_law_cell"] ⟨rfl,rfl,rfl,by decide +kernel,rfl,by decide +kernel,by decide +kernel⟩ (by decide +kernel) (by decide +kernel) rfl rfl fun _ _ _ _ _ _ _ hr C=>(j3 (sa C 2 rfl (j6 Ji (j6 jm (me_fn (ad8 T) (hr.mono (by decide)) (C.g 0 rfl) (ma_cons (sv C 0 rfl) (ma_cons (sv C 1 rfl) ma_nil rfl) rfl) rfl) (j6 Ym me_int (j6 jm (sv C 1 rfl) me_int))) me_int))
  (j3 (sa C 2 rfl (j6 Ji (j6 Ym (sv C 2 rfl) me_int) me_int))
  (j4 (jy (j6 Ji (j6 jm (j6 Ym (j6 Zc (sv C 2 rfl) me_int) me_int) (sv C 2 rfl)) me_int)))))
theorem Ds (T:Tx w K mg):∀k,ui P w K mg base "_law_begins" (1+k) 3 (uy k 0):=by
 intro k
 induction k with
 |zero=>exact qu T.d_begins rfl
 |succ k ih =>
  have ih0:=ih
  refine ?_
  ·show ui P w K mg base "_law_begins" (1+k+1) 3 (fnOf 0 (k4 (uy k)))
   exact fnC T.d_begins ["_law_table","_law_goal","_law_kind_here"] ["any"] ⟨rfl,rfl,rfl,by decide +kernel,rfl,by decide +kernel,by decide +kernel⟩ (by decide +kernel) (by decide +kernel) rfl rfl fun _ _ _ _ _ _ _ hr C=>(j3 (J7 (Bi C.un (sv C 1 rfl) (sv C 0 rfl) rfl)
  (j4 (jy (me_cmp (om_eq C.un) (sv C 1 rfl) (sv C 2 rfl) (nomark _))))
  jq)
  (j4 (jy (u5 (aw9 C.calm) (C.g 0 rfl) T.n_any PyProof.Rows.boot_any (ma_cons (Cf (T:=["_law_one"]) (caps:=["_law_table","_law_kind_here"]) (ix:=[0,2]) (Yz (show Kg _ (defScope vq)=true by decide +kernel)) (Wi C.hN (by decide +kernel)) C.calm (xp (Gg C.un (sv C 0 rfl) (sv C 1 rfl) (fun _ _=>rfl))) (fun C2 s2 H2 ex2=>have B:Eh _ ["_law_one"] ["_law_table","_law_kind_here"] ["_law_begins"]=true:=(by decide +kernel);have C:=bd (C:=C2) (s:=s2) (H:=H2) (ex:=ex2) C.calm C.un (by decide +kernel) B;And.intro (stb C 0 rfl (blk_loc B (j:=0) rfl)) (And.intro mifs_nil (me_and (me_cmp (om_ne C.un) (svb C 0 rfl) (me_lst ma_nil) (nomark _)) (me_one (me_fn ih0 (hr.mono (by omega)) (C.g 0 rfl) (ma_cons (svb C 1 rfl) (ma_cons (me_idx (svb C 0 rfl) me_int (fun _ _=>rfl)) (ma_cons (svb C 2 rfl) ma_nil rfl) rfl) rfl) rfl)))))) ma_nil rfl)))))
theorem Bl (T:Tx w K mg):ui P w K mg base "_law_begins" 11 3 Vg:=(Ds T 10)
theorem Gw (T:Tx w K mg):ui P w K mg base "_law_next" 12 3 zt:=fnC T.d_next ["_law_table","_law_goals_here","_law_kind_here","_law_ways","_law_way"] [] ⟨rfl,rfl,rfl,by decide +kernel,rfl,by decide +kernel,by decide +kernel⟩ (by decide +kernel) (by decide +kernel) rfl rfl fun _ _ _ _ _ _ _ hr C=>(j3 (yj 1000 PassesOwn.never (mw_and (mt_truth (sv C 1 rfl) (fun _=>rfl)) (Y7 (at3 C.un (me_idx (sv C 1 rfl) me_int (fun _ _=>rfl)) (sv C 0 rfl) rfl))).t
  (j3 (sa C 3 rfl (Gg C.un (sv C 0 rfl) (me_idx (sv C 1 rfl) me_int (fun _ _=>rfl)) (fun _ _=>rfl)))
  (j3 (sac C 4 rfl (T:=["_law_one"]) (caps:=["_law_table","_law_kind_here"]) (ix:=[0,2]) (Yz (show Kg _ (defScope gc)=true by decide +kernel)) (Wi C.hN (by decide +kernel)) C.calm (xp (sv C 3 rfl)) (fun C2 s2 H2 ex2=>have B:Eh _ ["_law_one"] ["_law_table","_law_kind_here"] ["_law_begins"]=true:=(by decide +kernel);have C:=bd (C:=C2) (s:=s2) (H:=H2) (ex:=ex2) C.calm C.un (by decide +kernel) B;And.intro (stb C 0 rfl (blk_loc B (j:=0) rfl)) (And.intro (mifs_one (mw_and (mt_truth (svb C 0 rfl) (fun _=>rfl)) (Y7 (mt_truth (me_fn (Bl T) (hr.mono (by decide)) (C.g 0 rfl) (ma_cons (svb C 1 rfl) (ma_cons (me_idx (svb C 0 rfl) me_int (fun _ _=>rfl)) (ma_cons (svb C 2 rfl) ma_nil rfl) rfl) rfl) rfl) (fun _=>rfl)))).t) (svb C 0 rfl))))
  (j3 (J7 (Dm (mt_truth (sv C 4 rfl) (fun _=>rfl)))
  (j4 (sac C 4 rfl (T:=["_law_one"]) (caps:=[]) (ix:=[]) (Yz (show Kg _ (defScope gc)=true by decide +kernel)) (Wi C.hN (by decide +kernel)) C.calm (xp (sv C 3 rfl)) (fun C2 s2 H2 ex2=>have B:Eh _ ["_law_one"] [] []=true:=(by decide +kernel);have C:=bd (C:=C2) (s:=s2) (H:=H2) (ex:=ex2) C.calm C.un (by decide +kernel) B;And.intro (stb C 0 rfl (blk_loc B (j:=0) rfl)) (And.intro (mifs_one (mt_cmp (om_eq C.un) (svb C 0 rfl) (me_lst ma_nil) (nomark _))) (svb C 0 rfl)))))
  jq)
  (j3 (J7 (Dm (mt_truth (sv C 4 rfl) (fun _=>rfl)))
  (j4 (jy w9))
  jq)
  (j4 (sa C 1 rfl (j6 jm (me_idx (sv C 4 rfl) me_int (fun _ _=>rfl)) (U7 (sv C 1 rfl) (ur me_int) y1)))))))))
  (j4 (jy (V3 (mw_and (mt_truth (sv C 1 rfl) (fun _=>rfl)) (Y7 (mt_cmp (om_eq C.un) (me_idx (sv C 1 rfl) me_int (fun _ _=>rfl)) (sv C 2 rfl) (nomark _)))).t (U7 (sv C 1 rfl) (ur me_int) y1) w9))))
theorem Gv (T:Tx w K mg):ui P w K mg base "_law_kind" 1 1 yr:=fnC T.d_kind ["_law_word","_law_kind_here","_law_words"] ["len","int"] ⟨rfl,rfl,rfl,by decide +kernel,rfl,by decide +kernel,by decide +kernel⟩ (by decide +kernel) (by decide +kernel) rfl rfl fun _ _ _ _ _ _ _ hr C=>(j3 (J7 (a35 a20 a20 (me_str Ax) (me_idx (sv C 0 rfl) me_int (fun _ _=>rfl)) (me_str an5) rfl)
  (j4 (jy (V3 (mw_and (mt_cmp a21 (u5 yc (C.g 0 rfl) T.n_len PySem.boot_len (ma_cons (sv C 0 rfl) ma_nil rfl)) me_int (nomark _)) (Y7 (mt_cmp a21 (zl bf (C.g 1 rfl) T.n_int PyProof.Rows.boot_int (ma_cons (sv C 0 rfl) ma_nil rfl)) me_int (nomark _)))).t (me_str Az) (me_str Ea))))
  jq)
  (j3 (Gi PassesOwn.never C.calm (xp (me_lst (ma_cons (me_tup (ma_cons (me_str ql) (ma_cons (me_tup (ma_cons (me_str Xk) (ma_cons (me_str Xp) ma_nil rfl) rfl)) ma_nil rfl) rfl)) (ma_cons (me_tup (ma_cons (me_str Wa) (ma_cons (me_tup (ma_cons (me_str di) (ma_cons (me_str dj) (ma_cons (me_str dl) (ma_cons (me_str dg) (ma_cons (me_str dh) ma_nil rfl) rfl) rfl) rfl) rfl)) ma_nil rfl) rfl)) (ma_cons (me_tup (ma_cons (me_str gv) (ma_cons (me_tup (ma_cons (me_str dm) (ma_cons (me_str du) (ma_cons (me_str dv) ma_nil rfl) rfl) rfl)) ma_nil rfl) rfl)) (ma_cons (me_tup (ma_cons (me_str gw) (ma_cons (me_tup (ma_cons (me_str dn) (ma_cons (me_str Yw) (ma_cons (me_str dq) (ma_cons (me_str de) (ma_cons (me_str df) ma_nil rfl) rfl) rfl) rfl) rfl)) ma_nil rfl) rfl)) ma_nil rfl) rfl) rfl) rfl))) (at0 C.calm (Fa (st C 1 rfl) (Fa (st C 2 rfl) ae4)))
  (j4 (J7 (mt_cmp (om_in C.un) (sv C 0 rfl) (sv C 2 rfl) rfl)
  (j4 (jy (sv C 1 rfl)))
  jq)))
  (j4 (jy (sv C 0 rfl)))))
theorem ad7 (T:Tx w K mg):ui P w K mg base "_law_made" 13 2 fg:=fnC T.d_made ["_law_script","_law_table","_law_menu_here","_law_goals_here","_law_found","_law_k_here","_law_word","_law_j","_law_some","_law_good"] ["_law_menu","_law_mix","range","_law_kind","_law_next"] ⟨rfl,rfl,rfl,by decide +kernel,rfl,by decide +kernel,by decide +kernel⟩ (by decide +kernel) (by decide +kernel) rfl rfl fun _ _ _ _ _ _ _ hr C=>(j3 (sa C 2 rfl (Dg (Cr T) (hr.mono (by decide)) (C.g 0 rfl)))
  (j3 (sa C 3 rfl (me_lst (ma_cons (me_str gy) ma_nil rfl)))
  (j3 (sa C 4 rfl (Ci ma_nil))
  (j3 (Gi PassesOwn.never C.calm (Xa (C.g 2 rfl) T.n_range (j6 jm me_int (j6 Ji (me_fn (zy T) (hr.mono (by decide)) (C.g 1 rfl) (ma_cons (sv C 0 rfl) (ma_cons me_int ma_nil rfl) rfl) rfl) me_int))) (st C 5 rfl)
  (j3 (sa C 6 rfl (me_idx (sv C 2 rfl) (j6 Ji (me_fn (zy T) (hr.mono (by decide)) (C.g 1 rfl) (ma_cons (sv C 0 rfl) (ma_cons (j6 jm me_int (sv C 5 rfl)) ma_nil rfl) rfl) rfl) me_int) (fun _ _=>rfl)))
  (j3 (Gi PassesOwn.never C.calm (Xa (C.g 2 rfl) T.n_range me_int) (st C 7 rfl)
  (j3 (sa C 8 rfl (me_idx (sv C 2 rfl) (j6 Ji (me_fn (zy T) (hr.mono (by decide)) (C.g 1 rfl) (ma_cons (sv C 0 rfl) (ma_cons (j6 jm (j6 jm me_int (sv C 5 rfl)) (j6 Ym me_int (sv C 7 rfl))) ma_nil rfl) rfl) rfl) me_int) (fun _ _=>rfl)))
  (j3 (sa C 9 rfl (af0 (me_fn (Gw T) (hr.mono (by decide)) (C.g 4 rfl) (ma_cons (sv C 1 rfl) (ma_cons (sv C 3 rfl) (ma_cons (me_fn (Gv T) (hr.mono (by decide)) (C.g 3 rfl) (ma_cons (sv C 8 rfl) ma_nil rfl) rfl) ma_nil rfl) rfl) rfl) rfl)))
  (j4 (J7 (mw_and (mt_truth (sv C 9 rfl) (fun _=>rfl)) (Y7 (mt_cmp Cs (j6 Ji (me_fn (zy T) (hr.mono (by decide)) (C.g 1 rfl) (ma_cons (sv C 0 rfl) (ma_cons (j6 jm me_int (sv C 5 rfl)) ma_nil rfl) rfl) rfl) me_int) me_int (nomark _)))).t
  (j4 (sa C 6 rfl (sv C 8 rfl)))
  jq)))))
  (j3 (Jv (Kx (sv C 4 rfl) (ma_cons (sv C 6 rfl) ma_nil rfl) (fun _ _=>rfl)))
  (j4 (sa C 3 rfl (at8 (me_fn (Gw T) (hr.mono (by decide)) (C.g 4 rfl) (ma_cons (sv C 1 rfl) (ma_cons (sv C 3 rfl) (ma_cons (me_fn (Gv T) (hr.mono (by decide)) (C.g 3 rfl) (ma_cons (sv C 6 rfl) ma_nil rfl) rfl) ma_nil rfl) rfl) rfl) rfl) (me_one (me_lst ma_nil)))))))))
  (j4 (jy (sv C 4 rfl)))))))
theorem Gy (T:Tx w K mg):ui P w K mg base "_law_sign" 1 1 zw:=fnC T.d_sign ["_law_word","_law_signs"] [] ⟨rfl,rfl,rfl,by decide +kernel,rfl,by decide +kernel,by decide +kernel⟩ (by decide +kernel) (by decide +kernel) rfl rfl fun _ _ _ _ _ _ _ hr C=>(j3 (sa C 1 rfl (af3 [(Ui,w14),(u4,w33),(uc,w34),(ub,w35),(Uf,w31),(ud,w32),(Uh,w17),(ue,w36),(ug,w20),(Ug,w37),(Ju,Ju),(Jk,w38),(U0,w39),(Ya,w40),(Ue,w29),(uf,w30)] (.cons kf Wa (.cons wf di (.cons We dj (.cons Wd dl (.cons ke dg (.cons Wf dh (.cons Xo gv (.cons Q9 dm (.cons Q7 gw (.cons Xn dn (.cons Yw Yw (.cons Yr dq (.cons zb du (.cons Wg dv (.cons Xl de (.cons Q8 df .nil)))))))))))))))) (by decide) rfl))
  (j4 (jy (Gg C.un (sv C 1 rfl) (sv C 0 rfl) (fun _ _=>rfl)))))
theorem a23 (T:Tx w K mg):∀k,ui P w K mg base "_law_told" (2+k) 1 (J4 k 0)/\ui P w K mg base "_law_inner" (2+k) 2 (J4 k 1):=by
 intro k
 induction k with
 |zero=>exact⟨qu T.d_told rfl,qu T.d_inner rfl⟩
 |succ k ih =>
  obtain⟨ih0,ih1⟩:=ih
  refine⟨?_,?_⟩
  ·show ui P w K mg base "_law_told" (2+k+1) 1 (fnOf 6 (cu (J4 k)))
   exact fnC T.d_told ["_law_tree","_law_kind_here","_law_kinds","_law_words","_law_behind","_law_loose","_law_tight"] ["str","int","_law_told","_law_inner","_law_sign"] ⟨rfl,rfl,rfl,by decide +kernel,rfl,by decide +kernel,by decide +kernel⟩ (by decide +kernel) (by decide +kernel) rfl rfl fun _ _ _ _ _ _ _ hr C=>(j3 (sa C 1 rfl (me_idx (sv C 0 rfl) me_int (fun _ _=>rfl)))
  (j3 (J7 (mt_cmp (om_eq C.un) (sv C 1 rfl) (me_str z0) (nomark _))
  (j4 (jy (me_lst (ma_cons (zl aw8 (C.g 0 rfl) T.n_str M.boot_str (ma_cons (me_idx (sv C 0 rfl) me_int (fun _ _=>rfl)) ma_nil rfl)) ma_nil rfl))))
  jq)
  (j3 (J7 (mt_cmp (om_eq C.un) (sv C 1 rfl) (me_str Ys) (nomark _))
  (j4 (jy (me_lst (ma_cons (me_str Ys) ma_nil rfl))))
  jq)
  (j3 (J7 (mt_cmp (om_eq C.un) (sv C 1 rfl) (me_str Q6) (nomark _))
  (j4 (jy (me_lst (ma_cons (me_idx (me_lst (ma_cons (me_str za) (ma_cons (me_str zo) ma_nil rfl) rfl)) (zl a79 (C.g 1 rfl) T.n_int PyProof.Rows.boot_int (ma_cons (me_idx (sv C 0 rfl) me_int (fun _ _=>rfl)) ma_nil rfl)) (fun _ _=>rfl)) ma_nil rfl))))
  jq)
  (j3 (J7 (mt_cmp (om_eq C.un) (sv C 1 rfl) (me_str Xm) (nomark _))
  (j4 (jy (j6 jm (j6 jm (me_lst (ma_cons (me_idx (me_lst (ma_cons (me_str Aw) (ma_cons (me_str ql) (ma_cons (me_str Xk) (ma_cons (me_str Aw) (ma_cons (me_str Xp) ma_nil rfl) rfl) rfl) rfl) rfl)) (me_idx (sv C 0 rfl) me_int (fun _ _=>rfl)) (fun _ _=>rfl)) (ma_cons (me_str gx) ma_nil rfl) rfl)) (me_fn ih0 (hr.mono (by omega)) (C.g 2 rfl) (ma_cons (me_idx (sv C 0 rfl) me_int (fun _ _=>rfl)) ma_nil rfl) rfl)) (me_lst (ma_cons (me_str Wb) ma_nil rfl)))))
  jq)
  (j3 (J7 (mt_cmp (om_eq C.un) (sv C 1 rfl) (me_str Yt) (nomark _))
  (j4 (jy (j6 jm (me_lst (ma_cons (me_str Yt) ma_nil rfl)) (me_fn ih1 (hr.mono (by omega)) (C.g 3 rfl) (ma_cons (me_idx (sv C 0 rfl) me_int (fun _ _=>rfl)) (ma_cons (me_tup (ma_cons (me_str yw) (ma_cons (me_str Uo) ma_nil rfl) rfl)) ma_nil rfl) rfl) rfl))))
  jq)
  (j3 (J7 (mt_cmp (om_in C.un) (sv C 1 rfl) (me_tup (ma_cons (me_str yw) (ma_cons (me_str Uo) ma_nil rfl) rfl)) rfl)
  (j3 (sa C 2 rfl (V3 (mt_cmp (om_eq C.un) (sv C 1 rfl) (me_str yw) (nomark _)) (me_tup (ma_cons (me_str Uo) ma_nil rfl)) (me_tup ma_nil)))
  (j3 (sa C 3 rfl (me_idx (me_lst (ma_cons (me_lst (ma_cons (me_str zb) ma_nil rfl)) (ma_cons (me_lst (ma_cons (me_str Yr) ma_nil rfl)) ma_nil rfl) rfl)) (zl a79 (C.g 1 rfl) T.n_int PyProof.Rows.boot_int (ma_cons (me_cmp (om_eq C.un) (sv C 1 rfl) (me_str yw) (nomark _)) ma_nil rfl)) (fun _ _=>rfl)))
  (j3 (sa C 4 rfl (me_fn ih1 (hr.mono (by omega)) (C.g 3 rfl) (ma_cons (me_idx (sv C 0 rfl) me_int (fun _ _=>rfl)) (ma_cons (j6 jm (sv C 2 rfl) (me_tup (ma_cons (sv C 1 rfl) ma_nil rfl))) ma_nil rfl) rfl) rfl))
  (j4 (jy (j6 jm (j6 jm (me_fn ih1 (hr.mono (by omega)) (C.g 3 rfl) (ma_cons (me_idx (sv C 0 rfl) me_int (fun _ _=>rfl)) (ma_cons (sv C 2 rfl) ma_nil rfl) rfl) rfl) (sv C 3 rfl)) (sv C 4 rfl)))))))
  jq)
  (j3 (sa C 5 rfl (me_tup (ma_cons (me_str Xo) (ma_cons (me_str Q9) (ma_cons (me_str zb) (ma_cons (me_str Wg) ma_nil rfl) rfl) rfl) rfl)))
  (j3 (sa C 6 rfl (me_tup (ma_cons (me_str Q7) (ma_cons (me_str Xn) (ma_cons (me_str Yw) (ma_cons (me_str Yr) (ma_cons (me_str Xl) (ma_cons (me_str Q8) ma_nil rfl) rfl) rfl) rfl) rfl) rfl)))
  (j3 (J7 (mt_cmp (om_in C.un) (sv C 1 rfl) (sv C 6 rfl) rfl)
  (j3 (sa C 4 rfl (me_fn ih1 (hr.mono (by omega)) (C.g 3 rfl) (ma_cons (me_idx (sv C 0 rfl) me_int (fun _ _=>rfl)) (ma_cons (j6 jm (sv C 5 rfl) (sv C 6 rfl)) ma_nil rfl) rfl) rfl))
  (j4 (jy (j6 jm (j6 jm (me_fn ih1 (hr.mono (by omega)) (C.g 3 rfl) (ma_cons (me_idx (sv C 0 rfl) me_int (fun _ _=>rfl)) (ma_cons (sv C 5 rfl) ma_nil rfl) rfl) rfl) (me_lst (ma_cons (me_fn (Gy T) (hr.mono (by omega)) (C.g 4 rfl) (ma_cons (sv C 1 rfl) ma_nil rfl) rfl) ma_nil rfl))) (sv C 4 rfl)))))
  jq)
  (j3 (J7 (mt_cmp (om_in C.un) (sv C 1 rfl) (sv C 5 rfl) rfl)
  (j4 (jy (j6 jm (j6 jm (me_fn ih1 (hr.mono (by omega)) (C.g 3 rfl) (ma_cons (me_idx (sv C 0 rfl) me_int (fun _ _=>rfl)) (ma_cons (me_tup ma_nil) ma_nil rfl) rfl) rfl) (me_lst (ma_cons (me_fn (Gy T) (hr.mono (by omega)) (C.g 4 rfl) (ma_cons (sv C 1 rfl) ma_nil rfl) rfl) ma_nil rfl))) (me_fn ih1 (hr.mono (by omega)) (C.g 3 rfl) (ma_cons (me_idx (sv C 0 rfl) me_int (fun _ _=>rfl)) (ma_cons (sv C 5 rfl) ma_nil rfl) rfl) rfl))))
  jq)
  (j4 (jy (j6 jm (j6 jm (me_fn ih0 (hr.mono (by omega)) (C.g 2 rfl) (ma_cons (me_idx (sv C 0 rfl) me_int (fun _ _=>rfl)) ma_nil rfl) rfl) (me_lst (ma_cons (me_fn (Gy T) (hr.mono (by omega)) (C.g 4 rfl) (ma_cons (sv C 1 rfl) ma_nil rfl) rfl) ma_nil rfl))) (me_fn ih0 (hr.mono (by omega)) (C.g 2 rfl) (ma_cons (me_idx (sv C 0 rfl) me_int (fun _ _=>rfl)) ma_nil rfl) rfl)))))))))))))))
  ·show ui P w K mg base "_law_inner" (2+k+1) 2 (fnOf 0 (Fx (J4 k)))
   exact fnC T.d_inner ["_law_tree","_law_kinds"] ["_law_told"] ⟨rfl,rfl,rfl,by decide +kernel,rfl,by decide +kernel,by decide +kernel⟩ (by decide +kernel) (by decide +kernel) rfl rfl fun _ _ _ _ _ _ _ hr C=>(j3 (J7 (mt_cmp (a19 C.un) (me_idx (sv C 0 rfl) me_int (fun _ _=>rfl)) (sv C 1 rfl) rfl)
  (j4 (jy (me_fn ih0 (hr.mono (by omega)) (C.g 0 rfl) (ma_cons (sv C 0 rfl) ma_nil rfl) rfl)))
  jq)
  (j3 (J7 (mt_cmp (om_in C.un) (me_idx (sv C 0 rfl) me_int (fun _ _=>rfl)) (me_tup (ma_cons (me_str yw) (ma_cons (me_str Uo) ma_nil rfl) rfl)) rfl)
  (j4 (jy (j6 jm (j6 jm (me_lst (ma_cons (me_str Wo) (ma_cons (me_str Zg) ma_nil rfl) rfl)) (me_fn ih0 (hr.mono (by omega)) (C.g 0 rfl) (ma_cons (sv C 0 rfl) ma_nil rfl) rfl)) (me_lst (ma_cons (me_str Zh) ma_nil rfl)))))
  jq)
  (j4 (jy (j6 jm (j6 jm (me_lst (ma_cons (me_str Zg) ma_nil rfl)) (me_fn ih0 (hr.mono (by omega)) (C.g 0 rfl) (ma_cons (sv C 0 rfl) ma_nil rfl) rfl)) (me_lst (ma_cons (me_str Zh) ma_nil rfl)))))))
theorem ad6 (T:Tx w K mg):ui P w K mg base "_law_told" 32 1 wr:=(a23 T 30).1
theorem aC7 (T:Tx w K mg):ui P w K mg base "_law_op" 1 1 av9:=fnC T.d_op ["_law_number_here"] [] ⟨rfl,rfl,rfl,by decide +kernel,rfl,by decide +kernel,by decide +kernel⟩ (by decide +kernel) (by decide +kernel) rfl rfl fun _ _ _ _ _ _ _ hr C=>(j4 (jy (me_idx (me_lst (ma_cons (me_str Xo) (ma_cons (me_str Q9) (ma_cons (me_str Q7) (ma_cons (me_str Xn) (ma_cons (me_str Yw) (ma_cons (me_str Yr) (ma_cons (me_str zb) (ma_cons (me_str Wg) (ma_cons (me_str Xl) (ma_cons (me_str Q8) ma_nil rfl) rfl) rfl) rfl) rfl) rfl) rfl) rfl) rfl) rfl)) (j6 Ji (sv C 0 rfl) me_int) (fun _ _=>rfl))))
theorem Dt (T:Tx w K mg):∀k,ui P w K mg base "_law_number" (3+k) 3 (yv k 0):=by
 intro k
 induction k with
 |zero=>exact qu T.d_number rfl
 |succ k ih =>
  have ih0:=ih
  refine ?_
  ·show ui P w K mg base "_law_number" (3+k+1) 3 (fnOf 3 (Va (yv k)))
   exact fnC T.d_number ["_law_script","_law_base","_law_deep","_law_number_here","_law_k_here","_law_one"] ["_law_mix","_law_number","_law_op"] ⟨rfl,rfl,rfl,by decide +kernel,rfl,by decide +kernel,by decide +kernel⟩ (by decide +kernel) (by decide +kernel) rfl rfl fun _ _ _ _ _ _ _ hr C=>(j3 (sa C 3 rfl (me_fn (zy T) (hr.mono (by omega)) (C.g 0 rfl) (ma_cons (sv C 0 rfl) (ma_cons (sv C 1 rfl) ma_nil rfl) rfl) rfl))
  (j3 (J7 (Co (mt_cmp (om_eq C.un) (sv C 2 rfl) me_int (nomark _)) (Do (mt_cmp W1 (j6 Ji (sv C 3 rfl) me_int) me_int (nomark _)))).t
  (j3 (sa C 4 rfl (me_idx (me_lst (ma_cons me_int (ma_cons me_int (ma_cons me_int (ma_cons me_int (ma_cons me_int (ma_cons me_int (ma_cons me_int (ma_cons me_int (ma_cons me_int (ma_cons (j6 Ji (sv C 3 rfl) me_int) ma_nil rfl) rfl) rfl) rfl) rfl) rfl) rfl) rfl) rfl) rfl)) (j6 Ji (j6 Zc (sv C 3 rfl) me_int) me_int) (fun _ _=>rfl)))
  (j4 (jy (me_idx (me_lst (ma_cons (me_tup (ma_cons (me_str Ys) ma_nil rfl)) (ma_cons (me_tup (ma_cons (me_str z0) (ma_cons (sv C 4 rfl) ma_nil rfl) rfl)) (ma_cons (me_tup (ma_cons (me_str z0) (ma_cons (sv C 4 rfl) ma_nil rfl) rfl)) ma_nil rfl) rfl) rfl)) (j6 Ji (j6 Zc (sv C 3 rfl) me_int) me_int) (fun _ _=>rfl)))))
  jq)
  (j3 (J7 (mt_cmp (om_eq C.un) (j6 Ji (sv C 3 rfl) me_int) me_int (nomark _))
  (j4 (jy (me_tup (ma_cons (me_str Xm) (ma_cons (me_idx (me_lst (ma_cons me_int (ma_cons me_int (ma_cons me_int ma_nil rfl) rfl) rfl)) (j6 Ji (j6 Zc (sv C 3 rfl) me_int) me_int) (fun _ _=>rfl)) (ma_cons (me_fn ih0 (hr.mono (by omega)) (C.g 1 rfl) (ma_cons (sv C 0 rfl) (ma_cons (j6 jm (j6 Ym me_int (sv C 1 rfl)) me_int) (ma_cons (j6 Xe (sv C 2 rfl) me_int) ma_nil rfl) rfl) rfl) rfl) ma_nil rfl) rfl) rfl))))
  jq)
  (j3 (sa C 5 rfl (me_fn ih0 (hr.mono (by omega)) (C.g 1 rfl) (ma_cons (sv C 0 rfl) (ma_cons (j6 jm (j6 Ym me_int (sv C 1 rfl)) me_int) (ma_cons (j6 Xe (sv C 2 rfl) me_int) ma_nil rfl) rfl) rfl) rfl))
  (j4 (jy (me_tup (ma_cons (me_fn (aC7 T) (hr.mono (by omega)) (C.g 2 rfl) (ma_cons (j6 Zc (sv C 3 rfl) me_int) ma_nil rfl) rfl) (ma_cons (sv C 5 rfl) (ma_cons (me_fn ih0 (hr.mono (by omega)) (C.g 1 rfl) (ma_cons (sv C 0 rfl) (ma_cons (j6 jm (j6 Ym me_int (sv C 1 rfl)) me_int) (ma_cons (j6 Xe (sv C 2 rfl) me_int) ma_nil rfl) rfl) rfl) rfl) ma_nil rfl) rfl) rfl))))))))
theorem K8 (T:Tx w K mg):ui P w K mg base "_law_number" 9 3 Vh:=(Dt T 6)
theorem Bn (T:Tx w K mg):∀k,ui P w K mg base "_law_truth" (10+k) 3 (U6 k 0):=by
 intro k
 induction k with
 |zero=>exact qu T.d_truth rfl
 |succ k ih =>
  have ih0:=ih
  refine ?_
  ·show ui P w K mg base "_law_truth" (10+k+1) 3 (fnOf 3 (Xu (U6 k)))
   exact fnC T.d_truth ["_law_script","_law_base","_law_deep","_law_number_here","_law_one","_law_test"] ["_law_mix","_law_truth","_law_number"] ⟨rfl,rfl,rfl,by decide +kernel,rfl,by decide +kernel,by decide +kernel⟩ (by decide +kernel) (by decide +kernel) rfl rfl fun _ _ _ _ _ _ _ hr C=>(j3 (sa C 3 rfl (me_fn (zy T) (hr.mono (by omega)) (C.g 0 rfl) (ma_cons (sv C 0 rfl) (ma_cons (sv C 1 rfl) ma_nil rfl) rfl) rfl))
  (j3 (J7 (mw_and (mt_cmp Cs (sv C 2 rfl) me_int (nomark _)) (Y7 (mt_cmp W1 (j6 Ji (sv C 3 rfl) me_int) me_int (nomark _)))).t
  (j3 (sa C 4 rfl (me_fn ih0 (hr.mono (by omega)) (C.g 1 rfl) (ma_cons (sv C 0 rfl) (ma_cons (j6 jm (j6 Ym me_int (sv C 1 rfl)) me_int) (ma_cons (j6 Xe (sv C 2 rfl) me_int) ma_nil rfl) rfl) rfl) rfl))
  (j3 (J7 (mt_cmp (om_eq C.un) (j6 Ji (sv C 3 rfl) me_int) me_int (nomark _))
  (j4 (jy (me_tup (ma_cons (me_str Yt) (ma_cons (sv C 4 rfl) ma_nil rfl) rfl))))
  jq)
  (j4 (jy (me_tup (ma_cons (me_idx (me_lst (ma_cons (me_str yw) (ma_cons (me_str Uo) ma_nil rfl) rfl)) (j6 Xe (j6 Ji (sv C 3 rfl) me_int) me_int) (fun _ _=>rfl)) (ma_cons (sv C 4 rfl) (ma_cons (me_fn ih0 (hr.mono (by omega)) (C.g 1 rfl) (ma_cons (sv C 0 rfl) (ma_cons (j6 jm (j6 Ym me_int (sv C 1 rfl)) me_int) (ma_cons (j6 Xe (sv C 2 rfl) me_int) ma_nil rfl) rfl) rfl) rfl) ma_nil rfl) rfl) rfl))))))
  jq)
  (j3 (J7 (mt_cmp (om_eq C.un) (j6 Ji (j6 Zc (sv C 3 rfl) me_int) me_int) me_int (nomark _))
  (j4 (jy (me_tup (ma_cons (me_str Q6) (ma_cons (me_cmp (om_eq C.un) (j6 Ji (j6 Zc (sv C 3 rfl) me_int) me_int) me_int (nomark _)) ma_nil rfl) rfl))))
  jq)
  (j3 (sa C 5 rfl (me_idx (me_lst (ma_cons (me_str kf) (ma_cons (me_str wf) (ma_cons (me_str We) (ma_cons (me_str Wd) (ma_cons (me_str ke) (ma_cons (me_str Wf) ma_nil rfl) rfl) rfl) rfl) rfl) rfl)) (j6 Ji (j6 Zc (sv C 3 rfl) me_int) me_int) (fun _ _=>rfl)))
  (j4 (jy (me_tup (ma_cons (sv C 5 rfl) (ma_cons (me_fn (K8 T) (hr.mono (by omega)) (C.g 2 rfl) (ma_cons (sv C 0 rfl) (ma_cons (j6 jm (j6 Ym me_int (sv C 1 rfl)) me_int) (ma_cons me_int ma_nil rfl) rfl) rfl) rfl) (ma_cons (me_fn (K8 T) (hr.mono (by omega)) (C.g 2 rfl) (ma_cons (sv C 0 rfl) (ma_cons (j6 jm (j6 Ym me_int (sv C 1 rfl)) me_int) (ma_cons me_int ma_nil rfl) rfl) rfl) rfl) ma_nil rfl) rfl) rfl))))))))
theorem a26 (T:Tx w K mg):ui P w K mg base "_law_truth" 16 3 Xy:=(Bn T 6)
theorem a24 (T:Tx w K mg):ui P w K mg base "_law_wrong" 13 2 Xz:=fnC T.d_wrong ["_law_table","_law_words","_law_goals_here","_law_k_here"] ["len","range","_law_kind","_law_next","all"] ⟨rfl,rfl,rfl,by decide +kernel,rfl,by decide +kernel,by decide +kernel⟩ (by decide +kernel) (by decide +kernel) rfl rfl fun _ _ _ _ _ _ _ hr C=>(j3 (sa C 2 rfl (me_lst (ma_cons (me_str gy) ma_nil rfl)))
  (j3 (Gi PassesOwn.never C.calm (Xa (C.g 1 rfl) T.n_range (u5 yc (C.g 0 rfl) T.n_len PySem.boot_len (ma_cons (sv C 1 rfl) ma_nil rfl))) (st C 3 rfl)
  (j3 (sa C 2 rfl (me_fn (Gw T) (hr.mono (by decide)) (C.g 3 rfl) (ma_cons (sv C 0 rfl) (ma_cons (sv C 2 rfl) (ma_cons (me_fn (Gv T) (hr.mono (by decide)) (C.g 2 rfl) (ma_cons (me_idx (sv C 1 rfl) (sv C 3 rfl) (fun _ _=>rfl)) ma_nil rfl) rfl) ma_nil rfl) rfl) rfl) rfl))
  (j4 (J7 (at2 (sv C 2 rfl))
  (j4 (jy (j6 jm (sv C 3 rfl) me_int)))
  jq))))
  (j4 (jy (V3 (mt_truth (u5 (ax0 C.calm) (C.g 4 rfl) T.n_all PyProof.Rows.boot_all (ma_cons (Cf (T:=["_law_goal"]) (caps:=[]) (ix:=[]) (Yz (show Kg _ (defScope ge)=true by decide +kernel)) (Wi C.hN (by decide +kernel)) C.calm (xp (sv C 2 rfl)) (fun C2 s2 H2 ex2=>have B:Eh _ ["_law_goal"] [] []=true:=(by decide +kernel);have C:=bd (C:=C2) (s:=s2) (H:=H2) (ex:=ex2) C.calm C.un (by decide +kernel) B;And.intro (stb C 0 rfl (blk_loc B (j:=0) rfl)) (And.intro mifs_nil (me_cmp (om_in C.un) (svb C 0 rfl) (me_tup (ma_cons (me_str w_F2_eq) (ma_cons (me_str w_B2_eq) (ma_cons (me_str w_S2_eq) (ma_cons (me_str w_P2_eq) ma_nil rfl) rfl) rfl) rfl)) rfl)))) ma_nil rfl)) (fun _=>rfl)) me_int (j6 jm (u5 yc (C.g 0 rfl) T.n_len PySem.boot_len (ma_cons (sv C 1 rfl) ma_nil rfl)) me_int))))))
theorem Y0:FnScope ["self","words"] ["self","words"] (defScope s_p_Reader__init__):=⟨rfl,rfl,rfl,by decide +kernel,rfl,by decide +kernel,by decide +kernel⟩
theorem qb:Yb (defScope s_p_Reader__init__) ["self","words"]=true:=by decide +kernel
theorem Q0:glB (defScope s_p_Reader__init__) []=true:=by decide +kernel
theorem qc (T:Tx w K mg):ay0 P w K mg base "Reader" 1 1 um:=by
 refine ae9 T.d_p_Reader__init__ rfl fun f fd F=>?_
 refine Es F Y0 rfl rfl fun cdv A outer s H E hr=>?_
 have C:=bg (CX:=CX0) (P:=P) (w:=w) (K:=K) (mg:=mg) (base:=base) (outer:=outer) (H:=H) (E:=E) Y0.nd (Qs qb) (Vn Q0) hr
 exact((j3 (Cm (of_mem (by simp only[List.forall_mem_cons,List.not_mem_nil,false_implies,implies_true,and_true];exact⟨T.o_Reader,T.na_Reader_words⟩)) (sv C 0 rfl) (sv C 1 rfl))
  (j4 (Cm (of_mem (by simp only[List.forall_mem_cons,List.not_mem_nil,false_implies,implies_true,and_true];exact⟨T.o_Reader,T.na_Reader_place⟩)) (sv C 0 rfl) me_int))))
theorem qd (T:Tx w K mg):ui P w K mg base "end_of_figures" 1 2 Yg:=fnC T.d_p_end_of_figures ["text","place","end"] ["len"] ⟨rfl,rfl,rfl,by decide +kernel,rfl,by decide +kernel,by decide +kernel⟩ (by decide +kernel) (by decide +kernel) rfl rfl fun _ _ _ _ _ _ _ hr C=>(j3 (sa C 2 rfl (sv C 1 rfl))
  (j3 (yj 400 PassesOwn.never (mw_and (mt_cmp W1 (sv C 2 rfl) (u5 yc (C.g 0 rfl) T.n_len PySem.boot_len (ma_cons (sv C 0 rfl) ma_nil rfl)) (nomark _)) (Y7 (mt_truth (Qu (me_idx (sv C 0 rfl) (sv C 2 rfl) (fun _ _=>rfl))) (fun _=>rfl)))).t
  (j4 (sag C 2 rfl me_int)))
  (j4 (jy (sv C 2 rfl)))))
theorem qe (T:Tx w K mg):ui P w K mg base "end_of_letters" 1 2 Yh:=fnC T.d_p_end_of_letters ["text","place","end"] ["len"] ⟨rfl,rfl,rfl,by decide +kernel,rfl,by decide +kernel,by decide +kernel⟩ (by decide +kernel) (by decide +kernel) rfl rfl fun _ _ _ _ _ _ _ hr C=>(j3 (sa C 2 rfl (sv C 1 rfl))
  (j3 (yj 400 PassesOwn.never (mw_and (mt_cmp W1 (sv C 2 rfl) (u5 yc (C.g 0 rfl) T.n_len PySem.boot_len (ma_cons (sv C 0 rfl) ma_nil rfl)) (nomark _)) (Y7 (mt_truth (V1 (me_idx (sv C 0 rfl) (sv C 2 rfl) (fun _ _=>rfl))) (fun _=>rfl)))).t
  (j4 (sag C 2 rfl me_int)))
  (j4 (jy (sv C 2 rfl)))))
theorem Xc (T:Tx w K mg):ui P w K mg base "end_of_word" 2 2 ye:=fnC T.d_p_end_of_word ["text","place"] ["end_of_figures","end_of_letters","LONG_SIGNS"] ⟨rfl,rfl,rfl,by decide +kernel,rfl,by decide +kernel,by decide +kernel⟩ (by decide +kernel) (by decide +kernel) rfl rfl fun _ _ _ _ _ _ _ hr C=>(j3 (J7 (mt_truth (Qu (me_idx (sv C 0 rfl) (sv C 1 rfl) (fun _ _=>rfl))) (fun _=>rfl))
  (j4 (jy (me_fn (qd T) (hr.mono (by decide)) (C.g 0 rfl) (ma_cons (sv C 0 rfl) (ma_cons (sv C 1 rfl) ma_nil rfl) rfl) rfl)))
  jq)
  (j3 (J7 (mt_truth (V1 (me_idx (sv C 0 rfl) (sv C 1 rfl) (fun _ _=>rfl))) (fun _=>rfl))
  (j4 (jy (me_fn (qe T) (hr.mono (by decide)) (C.g 1 rfl) (ma_cons (sv C 0 rfl) (ma_cons (sv C 1 rfl) ma_nil rfl) rfl) rfl)))
  jq)
  (j3 (J7 (mt_cmp (om_in C.un) (Kz (sv C 0 rfl) (ur (sv C 1 rfl)) (ur (j6 jm (sv C 1 rfl) me_int))) (Yl T.c_LONG_SIGNS (C.g 2 rfl)) rfl)
  (j4 (jy (j6 jm (sv C 1 rfl) me_int)))
  jq)
  (j4 (jy (j6 jm (sv C 1 rfl) me_int))))))
theorem kq (T:Tx w K mg):ui P w K mg base "is_whole" 1 1 Xx:=fnC T.d_p_is_whole ["thing"] ["isinstance","int","bool"] ⟨rfl,rfl,rfl,by decide +kernel,rfl,by decide +kernel,by decide +kernel⟩ (by decide +kernel) (by decide +kernel) rfl rfl fun _ _ _ _ _ _ _ hr C=>(j4 (jy (me_and (V2 .int PyProof.Rows.boot_int (C.g 0 rfl) T.n_isinstance (C.g 1 rfl) T.n_int (sv C 0 rfl)) (me_one (a39 (V2 .bool M.boot_bool (C.g 0 rfl) T.n_isinstance (C.g 2 rfl) T.n_bool (sv C 0 rfl)))))))
theorem vd (T:Tx w K mg):ui P w K mg base "is_number" 2 1 yn:=fnC T.d_p_is_number ["thing"] ["is_whole","ROUND"] ⟨rfl,rfl,rfl,by decide +kernel,rfl,by decide +kernel,by decide +kernel⟩ (by decide +kernel) (by decide +kernel) rfl rfl fun _ _ _ _ _ _ _ hr C=>(j4 (jy (me_and (me_fn (kq T) (hr.mono (by decide)) (C.g 0 rfl) (ma_cons (sv C 0 rfl) ma_nil rfl) rfl) (me_one (a41 a21 W1 me_int (sv C 0 rfl) (Yl T.c_ROUND (C.g 1 rfl)) rfl)))))
theorem ve (T:Tx w K mg):ui P w K mg base "number_of" 3 1 zu:=fnC T.d_p_number_of ["figures","number"] ["len","MOST_FIGURES","int","is_number"] ⟨rfl,rfl,rfl,by decide +kernel,rfl,by decide +kernel,by decide +kernel⟩ (by decide +kernel) (by decide +kernel) rfl rfl fun _ _ _ _ _ _ _ hr C=>(j3 (J7 (mt_cmp Cs (u5 yc (C.g 0 rfl) T.n_len PySem.boot_len (ma_cons (sv C 0 rfl) ma_nil rfl)) (Yl T.c_MOST_FIGURES (C.g 1 rfl)) (nomark _))
  (j4 (jy w9))
  jq)
  (j3 (sa C 1 rfl (zl bf (C.g 2 rfl) T.n_int PyProof.Rows.boot_int (ma_cons (sv C 0 rfl) ma_nil rfl)))
  (j4 (jy (V3 (mt_truth (me_fn (vd T) (hr.mono (by decide)) (C.g 3 rfl) (ma_cons (sv C 1 rfl) ma_nil rfl) rfl) (fun _=>rfl)) (sv C 1 rfl) w9)))))
theorem Gx (T:Tx w K mg):ui P w K mg base "word_of" 4 1 qt:=fnC T.d_p_word_of ["piece"] ["number_of","NAMES","LONG_SIGNS","SIGNS"] ⟨rfl,rfl,rfl,by decide +kernel,rfl,by decide +kernel,by decide +kernel⟩ (by decide +kernel) (by decide +kernel) rfl rfl fun _ _ _ _ _ _ _ hr C=>(j3 (J7 (mt_truth (Qu (me_idx (sv C 0 rfl) me_int (fun _ _=>rfl))) (fun _=>rfl))
  (j4 (jy (me_fn (ve T) (hr.mono (by decide)) (C.g 0 rfl) (ma_cons (sv C 0 rfl) ma_nil rfl) rfl)))
  jq)
  (j3 (J7 (Co (mt_cmp (om_in C.un) (sv C 0 rfl) (Yl T.c_NAMES (C.g 1 rfl)) rfl) (Co (mt_cmp (om_in C.un) (sv C 0 rfl) (Yl T.c_LONG_SIGNS (C.g 2 rfl)) rfl) (Do (mt_cmp (om_in C.un) (sv C 0 rfl) (Yl T.c_SIGNS (C.g 3 rfl)) rfl)))).t
  (j4 (jy (sv C 0 rfl)))
  jq)
  (j4 (jy w9))))
theorem kr (T:Tx w K mg):ui P w K mg base "words_of" 5 1 y9:=fnC T.d_p_words_of ["text","words","place","end"] ["len","end_of_word","word_of"] ⟨rfl,rfl,rfl,by decide +kernel,rfl,by decide +kernel,by decide +kernel⟩ (by decide +kernel) (by decide +kernel) rfl rfl fun _ _ _ _ _ _ _ hr C=>(j3 (sa C 1 rfl (Ci ma_nil))
  (j3 (sa C 2 rfl me_int)
  (j3 (yj 400 PassesOwn.never (mt_cmp W1 (sv C 2 rfl) (u5 yc (C.g 0 rfl) T.n_len PySem.boot_len (ma_cons (sv C 0 rfl) ma_nil rfl)) (nomark _))
  (j3 (sa C 3 rfl (me_fn (Xc T) (hr.mono (by decide)) (C.g 1 rfl) (ma_cons (sv C 0 rfl) (ma_cons (sv C 2 rfl) ma_nil rfl) rfl) rfl))
  (j3 (J7 (mt_cmp (om_ne C.un) (me_idx (sv C 0 rfl) (sv C 2 rfl) (fun _ _=>rfl)) (me_str dw) (nomark _))
  (j4 (Jv (Kx (sv C 1 rfl) (ma_cons (me_fn (Gx T) (hr.mono (by decide)) (C.g 2 rfl) (ma_cons (Kz (sv C 0 rfl) (ur (sv C 2 rfl)) (ur (sv C 3 rfl))) ma_nil rfl) rfl) ma_nil rfl) (fun _ _=>rfl))))
  jq)
  (j4 (sa C 2 rfl (sv C 3 rfl))))))
  (j4 (jy (sv C 1 rfl))))))
theorem x9:FnScope ["self"] ["self"] (defScope s_m_Reader_ahead):=⟨rfl,rfl,rfl,by decide +kernel,rfl,by decide +kernel,by decide +kernel⟩
theorem xg:Yb (defScope s_m_Reader_ahead) ["self"]=true:=by decide +kernel
theorem X5:glB (defScope s_m_Reader_ahead) ["len"]=true:=by decide +kernel
theorem ji (T:Tx w K mg):Ee P w K mg base "Reader" "ahead" 1 0 jx:=ez T.d_m_Reader_ahead rfl fun f fd F=>fnM F ["len"] x9 xg X5 rfl rfl fun cdv A outer s H E hr C=>(j4 (jy (V3 (mt_cmp W1 (Z6 (of_mem (by simp only[List.forall_mem_cons,List.not_mem_nil,false_implies,implies_true,and_true];exact⟨T.o_Reader,T.na_Reader_place⟩)) (sv C 0 rfl)) (u5 yc (C.g 0 rfl) T.n_len PySem.boot_len (ma_cons (Z6 (of_mem (by simp only[List.forall_mem_cons,List.not_mem_nil,false_implies,implies_true,and_true];exact⟨T.o_Reader,T.na_Reader_words⟩)) (sv C 0 rfl)) ma_nil rfl)) (nomark _)) (me_idx (Z6 (of_mem (by simp only[List.forall_mem_cons,List.not_mem_nil,false_implies,implies_true,and_true];exact⟨T.o_Reader,T.na_Reader_words⟩)) (sv C 0 rfl)) (Z6 (of_mem (by simp only[List.forall_mem_cons,List.not_mem_nil,false_implies,implies_true,and_true];exact⟨T.o_Reader,T.na_Reader_place⟩)) (sv C 0 rfl)) (fun _ _=>rfl)) w9)))
theorem Zq:FnScope ["self"] ["self"] (defScope s_m_Reader_step_over):=⟨rfl,rfl,rfl,by decide +kernel,rfl,by decide +kernel,by decide +kernel⟩
theorem Zn:Yb (defScope s_m_Reader_step_over) ["self"]=true:=by decide +kernel
theorem Zl:glB (defScope s_m_Reader_step_over) []=true:=by decide +kernel
theorem jd (T:Tx w K mg):Ee P w K mg base "Reader" "step_over" 1 0 ju:=ez T.d_m_Reader_step_over rfl fun f fd F=>fnM F [] Zq Zn Zl rfl rfl fun cdv A outer s H E hr C=>(j4 (Gh (of_mem (by simp only[List.forall_mem_cons,List.not_mem_nil,false_implies,implies_true,and_true];exact⟨T.o_Reader,T.na_Reader_place⟩)) (by intro c c' h h';simp only[List.contains_cons,List.contains_nil,Bool.or_false,beq_iff_eq] at h h';rw[h,h']) (sv C 0 rfl) me_int))
theorem Qz:FnScope ["self"] ["self"] (defScope s_m_Reader_refuse):=⟨rfl,rfl,rfl,by decide +kernel,rfl,by decide +kernel,by decide +kernel⟩
theorem Qr:Yb (defScope s_m_Reader_refuse) ["self"]=true:=by decide +kernel
theorem Qm:glB (defScope s_m_Reader_refuse) ["BadFilter"]=true:=by decide +kernel
theorem Jg (T:Tx w K mg):Qd P w K mg base xc "Reader" "refuse" 4 0 J1:=qg T.d_m_Reader_refuse rfl fun f fd F=>fnX F ["BadFilter"] Qz Qr Qm rfl rfl fun cdv A outer s H E hr C0 C hx ho=>(j4 (at4 (G1 T) rfl (hr.mono (by decide)) (C0.g 0 rfl) (j6 jm (Z6 (of_mem (by simp only[List.forall_mem_cons,List.not_mem_nil,false_implies,implies_true,and_true];exact⟨T.o_Reader,T.na_Reader_place⟩)) (sv C 0 rfl)) me_int)))
theorem Zp:FnScope ["self","within"] ["self","within"] (defScope s_m_Reader_step_into):=⟨rfl,rfl,rfl,by decide +kernel,rfl,by decide +kernel,by decide +kernel⟩
theorem Zm:Yb (defScope s_m_Reader_step_into) ["self","within"]=true:=by decide +kernel
theorem Zk:glB (defScope s_m_Reader_step_into) ["MOST_WITHIN"]=true:=by decide +kernel
theorem Jc (T:Tx w K mg):Qd P w K mg base xc "Reader" "step_into" 5 1 jg:=qg T.d_m_Reader_step_into rfl fun f fd F=>fnX F ["MOST_WITHIN"] Zp Zm Zk rfl rfl fun cdv A outer s H E hr C0 C hx ho=>(j3 (J7 (mt_cmp aC6 (sv C 1 rfl) (Yl T.c_MOST_WITHIN (C.g 0 rfl)) (nomark _))
  (j4 (Jv (Yv hx (Jg T) (hr.mono (by decide)) (sv C 0 rfl))))
  jq)
  (j4 (Gh (of_mem (by simp only[List.forall_mem_cons,List.not_mem_nil,false_implies,implies_true,and_true];exact⟨T.o_Reader,T.na_Reader_place⟩)) (by intro c c' h h';simp only[List.contains_cons,List.contains_nil,Bool.or_false,beq_iff_eq] at h h';rw[h,h']) (sv C 0 rfl) me_int)))
theorem Qy:FnScope ["self","word"] ["self","word"] (defScope s_m_Reader_expect):=⟨rfl,rfl,rfl,by decide +kernel,rfl,by decide +kernel,by decide +kernel⟩
theorem Qq:Yb (defScope s_m_Reader_expect) ["self","word"]=true:=by decide +kernel
theorem Ql:glB (defScope s_m_Reader_expect) []=true:=by decide +kernel
theorem Jf (T:Tx w K mg):Qd P w K mg base xc "Reader" "expect" 5 1 jb:=qg T.d_m_Reader_expect rfl fun f fd F=>fnX F [] Qy Qq Ql rfl rfl fun cdv A outer s H E hr C0 C hx ho=>(j3 (J7 (mt_cmp (om_ne C.un) (Jp (ji T) (hr.mono (by decide)) (sv C 0 rfl)) (sv C 1 rfl) (nomark _))
  (j4 (Jv (Yv hx (Jg T) (hr.mono (by decide)) (sv C 0 rfl))))
  jq)
  (j4 (Gh (of_mem (by simp only[List.forall_mem_cons,List.not_mem_nil,false_implies,implies_true,and_true];exact⟨T.o_Reader,T.na_Reader_place⟩)) (by intro c c' h h';simp only[List.contains_cons,List.contains_nil,Bool.or_false,beq_iff_eq] at h h';rw[h,h']) (sv C 0 rfl) me_int)))
theorem kt:FnScope ["reader","within","tree","op"] ["reader","within"] (defScope Uc):=⟨rfl,rfl,rfl,by decide +kernel,rfl,by decide +kernel,by decide +kernel⟩
theorem km:Yb (defScope Uc) ["reader","within","tree","op"]=true:=by decide +kernel
theorem kj:glB (defScope Uc) ["read_product","SUM_OPS"]=true:=by decide +kernel
theorem x5:FnScope ["reader","within","tree","op"] ["reader","within"] (defScope u9):=⟨rfl,rfl,rfl,by decide +kernel,rfl,by decide +kernel,by decide +kernel⟩
theorem xj:Yb (defScope u9) ["reader","within","tree","op"]=true:=by decide +kernel
theorem X3:glB (defScope u9) ["read_plain","PRODUCT_OPS"]=true:=by decide +kernel
theorem Wy:FnScope ["reader","within","word"] ["reader","within"] (defScope U5):=⟨rfl,rfl,rfl,by decide +kernel,rfl,by decide +kernel,by decide +kernel⟩
theorem Wu:Yb (defScope U5) ["reader","within","word"]=true:=by decide +kernel
theorem Wr:glB (defScope U5) ["LOAD_SIZES","read_load","read_bracket","isinstance","int"]=true:=by decide +kernel
theorem vw:FnScope ["reader","within","size","tree"] ["reader","within"] (defScope Uu):=⟨rfl,rfl,rfl,by decide +kernel,rfl,by decide +kernel,by decide +kernel⟩
theorem V8:Yb (defScope Uu) ["reader","within","size","tree"]=true:=by decide +kernel
theorem Vo:glB (defScope Uu) ["LOAD_SIZES","read_sum"]=true:=by decide +kernel
theorem x8:FnScope ["reader","within","tree"] ["reader","within"] (defScope uz):=⟨rfl,rfl,rfl,by decide +kernel,rfl,by decide +kernel,by decide +kernel⟩
theorem xi:Yb (defScope uz) ["reader","within","tree"]=true:=by decide +kernel
theorem X4:glB (defScope uz) ["read_sum"]=true:=by decide +kernel
theorem vf (T:Tx w K mg):∀k,uj P w K mg base xc "read_sum" (6+k) 2 (jv k 0)/\uj P w K mg base xc "read_product" (6+k) 2 (jv k 1)/\uj P w K mg base xc "read_plain" (6+k) 2 (jv k 2)/\uj P w K mg base xc "read_load" (6+k) 2 (jv k 3)/\uj P w K mg base xc "read_bracket" (6+k) 2 (jv k 4):=by
 intro k
 induction k with
 |zero=>exact⟨Ux T.d_p_read_sum rfl,Ux T.d_p_read_product rfl,Ux T.d_p_read_plain rfl,Ux T.d_p_read_load rfl,Ux T.d_p_read_bracket rfl⟩
 |succ k ih =>
  obtain⟨ih0,ih1,ih2,ih3,ih4⟩:=ih
  refine⟨?_,?_,?_,?_,?_⟩
  ·show uj P w K mg base xc "read_sum" (6+k+1) 2 (fnOf 2 (Zv (jv k)))
   exact uk T.d_p_read_sum rfl fun f fd F=>fnX F ["read_product","SUM_OPS"] kt km kj rfl rfl fun cdv A outer s H E hr C0 C hx ho=>(j3 (sa C 2 rfl (ux ih1 hx (hr.mono (by omega)) (C.g 0 rfl) (ma_cons (sv C 0 rfl) (ma_cons (sv C 1 rfl) ma_nil rfl) rfl) rfl))
  (j3 (yj 100 ho (V0 T.c_SUM_OPS (C.g 1 rfl) (Jp (ji T) (hr.mono (by omega)) (sv C 0 rfl)))
  (j3 (sa C 3 rfl (xl T.c_SUM_OPS (C.g 1 rfl) (Jp (ji T) (hr.mono (by omega)) (sv C 0 rfl)) (fun _ _=>rfl)))
  (j3 (Jv (Jp (jd T) (hr.mono (by omega)) (sv C 0 rfl)))
  (j4 (sa C 2 rfl (me_tup (ma_cons (sv C 3 rfl) (ma_cons (sv C 2 rfl) (ma_cons (ux ih1 hx (hr.mono (by omega)) (C.g 0 rfl) (ma_cons (sv C 0 rfl) (ma_cons (sv C 1 rfl) ma_nil rfl) rfl) rfl) ma_nil rfl) rfl) rfl)))))))
  (j4 (jy (sv C 2 rfl)))))
  ·show uj P w K mg base xc "read_product" (6+k+1) 2 (fnOf 2 (yq (jv k)))
   exact uk T.d_p_read_product rfl fun f fd F=>fnX F ["read_plain","PRODUCT_OPS"] x5 xj X3 rfl rfl fun cdv A outer s H E hr C0 C hx ho=>(j3 (sa C 2 rfl (ux ih2 hx (hr.mono (by omega)) (C.g 0 rfl) (ma_cons (sv C 0 rfl) (ma_cons (sv C 1 rfl) ma_nil rfl) rfl) rfl))
  (j3 (yj 100 ho (V0 T.c_PRODUCT_OPS (C.g 1 rfl) (Jp (ji T) (hr.mono (by omega)) (sv C 0 rfl)))
  (j3 (sa C 3 rfl (xl T.c_PRODUCT_OPS (C.g 1 rfl) (Jp (ji T) (hr.mono (by omega)) (sv C 0 rfl)) (fun _ _=>rfl)))
  (j3 (Jv (Jp (jd T) (hr.mono (by omega)) (sv C 0 rfl)))
  (j4 (sa C 2 rfl (me_tup (ma_cons (sv C 3 rfl) (ma_cons (sv C 2 rfl) (ma_cons (ux ih2 hx (hr.mono (by omega)) (C.g 0 rfl) (ma_cons (sv C 0 rfl) (ma_cons (sv C 1 rfl) ma_nil rfl) rfl) rfl) ma_nil rfl) rfl) rfl)))))))
  (j4 (jy (sv C 2 rfl)))))
  ·show uj P w K mg base xc "read_plain" (6+k+1) 2 (fnOf 1 (Yc (jv k)))
   exact uk T.d_p_read_plain rfl fun f fd F=>fnX F ["LOAD_SIZES","read_load","read_bracket","isinstance","int"] Wy Wu Wr rfl rfl fun cdv A outer s H E hr C0 C hx ho=>(j3 (sa C 2 rfl (Jp (ji T) (hr.mono (by omega)) (sv C 0 rfl)))
  (j3 (J7 (V0 T.c_LOAD_SIZES (C.g 0 rfl) (sv C 2 rfl))
  (j4 (jy (ux ih3 hx (hr.mono (by omega)) (C.g 1 rfl) (ma_cons (sv C 0 rfl) (ma_cons (sv C 1 rfl) ma_nil rfl) rfl) rfl)))
  jq)
  (j3 (J7 (mt_cmp (om_eq C.un) (sv C 2 rfl) (me_str Zg) (nomark _))
  (j4 (jy (ux ih4 hx (hr.mono (by omega)) (C.g 2 rfl) (ma_cons (sv C 0 rfl) (ma_cons (sv C 1 rfl) ma_nil rfl) rfl) rfl)))
  jq)
  (j3 (J7 (mt_cmp (om_eq C.un) (sv C 2 rfl) (me_str Ys) (nomark _))
  (j3 (Jv (Jp (jd T) (hr.mono (by omega)) (sv C 0 rfl)))
  (j4 (jy (me_tup (ma_cons (me_str Ys) ma_nil rfl)))))
  jq)
  (j3 (J7 (Dm (mt_truth (V2 .int PyProof.Rows.boot_int (C.g 3 rfl) T.n_isinstance (C.g 4 rfl) T.n_int (sv C 2 rfl)) (fun _=>rfl)))
  (j4 (Jv (Yv hx (Jg T) (hr.mono (by omega)) (sv C 0 rfl))))
  jq)
  (j3 (Jv (Jp (jd T) (hr.mono (by omega)) (sv C 0 rfl)))
  (j4 (jy (me_tup (ma_cons (me_str z0) (ma_cons (sv C 2 rfl) ma_nil rfl) rfl))))))))))
  ·show uj P w K mg base xc "read_load" (6+k+1) 2 (fnOf 2 (zq (jv k)))
   exact uk T.d_p_read_load rfl fun f fd F=>fnX F ["LOAD_SIZES","read_sum"] vw V8 Vo rfl rfl fun cdv A outer s H E hr C0 C hx ho=>(j3 (sa C 2 rfl (xl T.c_LOAD_SIZES (C.g 0 rfl) (Jp (ji T) (hr.mono (by omega)) (sv C 0 rfl)) (fun _ _=>rfl)))
  (j3 (Jv (y2 hx (Jc T) (hr.mono (by omega)) (sv C 0 rfl) (ma_cons (sv C 1 rfl) ma_nil rfl) rfl))
  (j3 (Jv (y2 hx (Jf T) (hr.mono (by omega)) (sv C 0 rfl) (ma_cons (me_str gx) ma_nil rfl) rfl))
  (j3 (sa C 3 rfl (ux ih0 hx (hr.mono (by omega)) (C.g 1 rfl) (ma_cons (sv C 0 rfl) (ma_cons (j6 jm (sv C 1 rfl) me_int) ma_nil rfl) rfl) rfl))
  (j3 (Jv (y2 hx (Jf T) (hr.mono (by omega)) (sv C 0 rfl) (ma_cons (me_str Wb) ma_nil rfl) rfl))
  (j4 (jy (me_tup (ma_cons (me_str Xm) (ma_cons (sv C 2 rfl) (ma_cons (sv C 3 rfl) ma_nil rfl) rfl) rfl)))))))))
  ·show uj P w K mg base xc "read_bracket" (6+k+1) 2 (fnOf 1 (yp (jv k)))
   exact uk T.d_p_read_bracket rfl fun f fd F=>fnX F ["read_sum"] x8 xi X4 rfl rfl fun cdv A outer s H E hr C0 C hx ho=>(j3 (Jv (y2 hx (Jc T) (hr.mono (by omega)) (sv C 0 rfl) (ma_cons (sv C 1 rfl) ma_nil rfl) rfl))
  (j3 (sa C 2 rfl (ux ih0 hx (hr.mono (by omega)) (C.g 0 rfl) (ma_cons (sv C 0 rfl) (ma_cons (j6 jm (sv C 1 rfl) me_int) ma_nil rfl) rfl) rfl))
  (j3 (Jv (y2 hx (Jf T) (hr.mono (by omega)) (sv C 0 rfl) (ma_cons (me_str Zh) ma_nil rfl) rfl))
  (j4 (jy (sv C 2 rfl))))))
theorem Q5 (T:Tx w K mg):uj P w K mg base xc "read_sum" 70 2 Zw:=(vf T 64).1
theorem ym:FnScope ["reader","within","tree","sign"] ["reader","within"] (defScope jc):=⟨rfl,rfl,rfl,by decide +kernel,rfl,by decide +kernel,by decide +kernel⟩
theorem q9:Yb (defScope jc) ["reader","within","tree","sign"]=true:=by decide +kernel
theorem qv:glB (defScope jc) ["read_sum","COMPARISONS"]=true:=by decide +kernel
theorem Zo (T:Tx w K mg) {f:Addr}{fd:FuncData}(F:Fun K "read_comparison" "read_comparison" jc f fd):FnOk P w K mg base (CXR P w) 71 f fd ["reader","within"] (spX K xc 2 u8):=by
 refine Et F ym rfl rfl fun cdv A outer s H E hr=>?_
 have C0:=cy (CX:=CXR P w) (P:=P) (w:=w) (K:=K) (mg:=mg) (base:=base) (outer:=outer) (H:=H) (E:=E) ym.nd (Qs q9) (Vn qv) hr
 have C:=cz (pn:=[]) (xe:=Rz (uv (CXR P w) P w K mg base ["reader","within","tree","sign"] "read_comparison" (defScope jc) f cdv A outer s H E) E) C0
 have hx:=Dx (X:=(uv (CXR P w) P w K mg base ["reader","within","tree","sign"] "read_comparison" (defScope jc) f cdv A outer s H E)) (E:=E)
 have ho:=Dw (X:=(uv (CXR P w) P w K mg base ["reader","within","tree","sign"] "read_comparison" (defScope jc) f cdv A outer s H E)) (E:=E) rfl rfl
 exact((j3 (sa C 2 rfl (ux (Q5 T) hx (hr.mono (by decide)) (C.g 0 rfl) (ma_cons (sv C 0 rfl) (ma_cons (sv C 1 rfl) ma_nil rfl) rfl) rfl))
  (j3 (sa C 3 rfl (Jp (ji T) (hr.mono (by decide)) (sv C 0 rfl)))
  (j3 (J7 (eu T.c_COMPARISONS (C.g 1 rfl) (sv C 3 rfl))
  (j4 (Jv (Yv hx (Jg T) (hr.mono (by decide)) (sv C 0 rfl))))
  jq)
  (j3 (Jv (Jp (jd T) (hr.mono (by decide)) (sv C 0 rfl)))
  (j4 (jy (me_tup (ma_cons (xl T.c_COMPARISONS (C.g 1 rfl) (sv C 3 rfl) (fun _ _=>rfl)) (ma_cons (sv C 2 rfl) (ma_cons (ux (Q5 T) hx (hr.mono (by decide)) (C.g 0 rfl) (ma_cons (sv C 0 rfl) (ma_cons (sv C 1 rfl) ma_nil rfl) rfl) rfl) ma_nil rfl) rfl) rfl)))))))))
theorem Zb (T:Tx w K mg):uj P w K mg base xc "read_comparison" 71 2 u8:=uk T.d_p_read_comparison rfl fun f fd F=>Zo T F
theorem Xh:FnScope ["reader","within","tree"] ["reader","within"] (defScope ul):=⟨rfl,rfl,rfl,by decide +kernel,rfl,by decide +kernel,by decide +kernel⟩
theorem wz:Yb (defScope ul) ["reader","within","tree"]=true:=by decide +kernel
theorem ww:glB (defScope ul) ["read_tests"]=true:=by decide +kernel
theorem Wz:FnScope ["reader","within","tree"] ["reader","within"] (defScope U4):=⟨rfl,rfl,rfl,by decide +kernel,rfl,by decide +kernel,by decide +kernel⟩
theorem Wv:Yb (defScope U4) ["reader","within","tree"]=true:=by decide +kernel
theorem Ws:glB (defScope U4) ["read_test"]=true:=by decide +kernel
theorem vx:FnScope ["reader","within","word"] ["reader","within"] (defScope Uv):=⟨rfl,rfl,rfl,by decide +kernel,rfl,by decide +kernel,by decide +kernel⟩
theorem V7:Yb (defScope Uv) ["reader","within","word"]=true:=by decide +kernel
theorem Vp:glB (defScope Uv) ["read_test","read_so","read_comparison"]=true:=by decide +kernel
theorem gf:FnScope ["reader","within","tree"] ["reader","within"] (defScope yk):=⟨rfl,rfl,rfl,by decide +kernel,rfl,by decide +kernel,by decide +kernel⟩
theorem Ge:Yb (defScope yk) ["reader","within","tree"]=true:=by decide +kernel
theorem fm:glB (defScope yk) ["read_filter"]=true:=by decide +kernel
theorem xq (T:Tx w K mg):∀k,uj P w K mg base xc "read_filter" (72+k) 2 (jw k 0)/\uj P w K mg base xc "read_tests" (72+k) 2 (jw k 1)/\uj P w K mg base xc "read_test" (72+k) 2 (jw k 2)/\uj P w K mg base xc "read_so" (72+k) 2 (jw k 3):=by
 intro k
 induction k with
 |zero=>exact⟨Ux T.d_p_read_filter rfl,Ux T.d_p_read_tests rfl,Ux T.d_p_read_test rfl,Ux T.d_p_read_so rfl⟩
 |succ k ih =>
  obtain⟨ih0,ih1,ih2,ih3⟩:=ih
  refine⟨?_,?_,?_,?_⟩
  ·show uj P w K mg base xc "read_filter" (72+k+1) 2 (fnOf 1 (yb (jw k)))
   exact uk T.d_p_read_filter rfl fun f fd F=>fnX F ["read_tests"] Xh wz ww rfl rfl fun cdv A outer s H E hr C0 C hx ho=>(j3 (sa C 2 rfl (ux ih1 hx (hr.mono (by omega)) (C.g 0 rfl) (ma_cons (sv C 0 rfl) (ma_cons (sv C 1 rfl) ma_nil rfl) rfl) rfl))
  (j3 (yj 100 ho (mt_cmp (om_eq C.un) (Jp (ji T) (hr.mono (by omega)) (sv C 0 rfl)) (me_str zb) (nomark _))
  (j3 (Jv (Jp (jd T) (hr.mono (by omega)) (sv C 0 rfl)))
  (j4 (sa C 2 rfl (me_tup (ma_cons (me_str Uo) (ma_cons (sv C 2 rfl) (ma_cons (ux ih1 hx (hr.mono (by omega)) (C.g 0 rfl) (ma_cons (sv C 0 rfl) (ma_cons (sv C 1 rfl) ma_nil rfl) rfl) rfl) ma_nil rfl) rfl) rfl))))))
  (j4 (jy (sv C 2 rfl)))))
  ·show uj P w K mg base xc "read_tests" (72+k+1) 2 (fnOf 1 (Yd (jw k)))
   exact uk T.d_p_read_tests rfl fun f fd F=>fnX F ["read_test"] Wz Wv Ws rfl rfl fun cdv A outer s H E hr C0 C hx ho=>(j3 (sa C 2 rfl (ux ih2 hx (hr.mono (by omega)) (C.g 0 rfl) (ma_cons (sv C 0 rfl) (ma_cons (sv C 1 rfl) ma_nil rfl) rfl) rfl))
  (j3 (yj 100 ho (mt_cmp (om_eq C.un) (Jp (ji T) (hr.mono (by omega)) (sv C 0 rfl)) (me_str Yr) (nomark _))
  (j3 (Jv (Jp (jd T) (hr.mono (by omega)) (sv C 0 rfl)))
  (j4 (sa C 2 rfl (me_tup (ma_cons (me_str yw) (ma_cons (sv C 2 rfl) (ma_cons (ux ih2 hx (hr.mono (by omega)) (C.g 0 rfl) (ma_cons (sv C 0 rfl) (ma_cons (sv C 1 rfl) ma_nil rfl) rfl) rfl) ma_nil rfl) rfl) rfl))))))
  (j4 (jy (sv C 2 rfl)))))
  ·show uj P w K mg base xc "read_test" (72+k+1) 2 (fnOf 1 (zr (jw k)))
   exact uk T.d_p_read_test rfl fun f fd F=>fnX F ["read_test","read_so","read_comparison"] vx V7 Vp rfl rfl fun cdv A outer s H E hr C0 C hx ho=>(j3 (sa C 2 rfl (Jp (ji T) (hr.mono (by omega)) (sv C 0 rfl)))
  (j3 (J7 (Co (mt_cmp (om_eq C.un) (sv C 2 rfl) (me_str zo) (nomark _)) (Do (mt_cmp (om_eq C.un) (sv C 2 rfl) (me_str za) (nomark _)))).t
  (j3 (Jv (Jp (jd T) (hr.mono (by omega)) (sv C 0 rfl)))
  (j4 (jy (me_tup (ma_cons (me_str Q6) (ma_cons (me_cmp (om_eq C.un) (sv C 2 rfl) (me_str zo) (nomark _)) ma_nil rfl) rfl)))))
  jq)
  (j3 (J7 (mt_cmp (om_eq C.un) (sv C 2 rfl) (me_str Yt) (nomark _))
  (j3 (Jv (y2 hx (Jc T) (hr.mono (by omega)) (sv C 0 rfl) (ma_cons (sv C 1 rfl) ma_nil rfl) rfl))
  (j4 (jy (me_tup (ma_cons (me_str Yt) (ma_cons (ux ih2 hx (hr.mono (by omega)) (C.g 0 rfl) (ma_cons (sv C 0 rfl) (ma_cons (j6 jm (sv C 1 rfl) me_int) ma_nil rfl) rfl) rfl) ma_nil rfl) rfl)))))
  jq)
  (j3 (J7 (mt_cmp (om_eq C.un) (sv C 2 rfl) (me_str Wo) (nomark _))
  (j4 (jy (ux ih3 hx (hr.mono (by omega)) (C.g 1 rfl) (ma_cons (sv C 0 rfl) (ma_cons (sv C 1 rfl) ma_nil rfl) rfl) rfl)))
  jq)
  (j4 (jy (ux (Zb T) hx (hr.mono (by omega)) (C.g 2 rfl) (ma_cons (sv C 0 rfl) (ma_cons (sv C 1 rfl) ma_nil rfl) rfl) rfl)))))))
  ·show uj P w K mg base xc "read_so" (72+k+1) 2 (fnOf 1 (qr (jw k)))
   exact uk T.d_p_read_so rfl fun f fd F=>fnX F ["read_filter"] gf Ge fm rfl rfl fun cdv A outer s H E hr C0 C hx ho=>(j3 (Jv (y2 hx (Jc T) (hr.mono (by omega)) (sv C 0 rfl) (ma_cons (sv C 1 rfl) ma_nil rfl) rfl))
  (j3 (Jv (y2 hx (Jf T) (hr.mono (by omega)) (sv C 0 rfl) (ma_cons (me_str Zg) ma_nil rfl) rfl))
  (j3 (sa C 2 rfl (ux ih0 hx (hr.mono (by omega)) (C.g 0 rfl) (ma_cons (sv C 0 rfl) (ma_cons (j6 jm (sv C 1 rfl) me_int) ma_nil rfl) rfl) rfl))
  (j3 (Jv (y2 hx (Jf T) (hr.mono (by omega)) (sv C 0 rfl) (ma_cons (me_str Zh) ma_nil rfl) rfl))
  (j4 (jy (sv C 2 rfl)))))))
theorem Xd (T:Tx w K mg):uj P w K mg base xc "read_filter" 136 2 Zr:=(xq T 64).1
theorem Z3:FnScope ["self"] ["self"] (defScope s_m_Reader_expect_end):=⟨rfl,rfl,rfl,by decide +kernel,rfl,by decide +kernel,by decide +kernel⟩
theorem Z9:Yb (defScope s_m_Reader_expect_end) ["self"]=true:=by decide +kernel
theorem Zz:glB (defScope s_m_Reader_expect_end) ["len"]=true:=by decide +kernel
theorem Z4 (T:Tx w K mg):Qd P w K mg base xc "Reader" "expect_end" 5 0 Jb:=qg T.d_m_Reader_expect_end rfl fun f fd F=>fnX F ["len"] Z3 Z9 Zz rfl rfl fun cdv A outer s H E hr C0 C hx ho=>(j4 (J7 (mt_cmp W1 (Z6 (of_mem (by simp only[List.forall_mem_cons,List.not_mem_nil,false_implies,implies_true,and_true];exact⟨T.o_Reader,T.na_Reader_place⟩)) (sv C 0 rfl)) (u5 yc (C.g 0 rfl) T.n_len PySem.boot_len (ma_cons (Z6 (of_mem (by simp only[List.forall_mem_cons,List.not_mem_nil,false_implies,implies_true,and_true];exact⟨T.o_Reader,T.na_Reader_words⟩)) (sv C 0 rfl)) ma_nil rfl)) (nomark _))
  (j4 (Jv (Yv hx (Jg T) (hr.mono (by decide)) (sv C 0 rfl))))
  jq))
theorem K2:FnScope ["text","reader","tree"] ["text"] (defScope Ub):=⟨rfl,rfl,rfl,by decide +kernel,rfl,by decide +kernel,by decide +kernel⟩
theorem Bd:Yb (defScope Ub) ["text","reader","tree"]=true:=by decide +kernel
theorem aw:glB (defScope Ub) ["words_of","Reader","read_filter"]=true:=by decide +kernel
theorem Dr (T:Tx w K mg) {f:Addr}{fd:FuncData}(F:Fun K "read" "read" Ub f fd):FnOk P w K mg base (CXR P w) 137 f fd ["text"] (spX K xc 1 U9):=by
 refine Et F K2 rfl rfl fun cdv A outer s H E hr=>?_
 have C0:=cy (CX:=CXR P w) (P:=P) (w:=w) (K:=K) (mg:=mg) (base:=base) (outer:=outer) (H:=H) (E:=E) K2.nd (Qs Bd) (Vn aw) hr
 have C:=cz (pn:=[]) (xe:=Rz (uv (CXR P w) P w K mg base ["text","reader","tree"] "read" (defScope Ub) f cdv A outer s H E) E) C0
 have hx:=Dx (X:=(uv (CXR P w) P w K mg base ["text","reader","tree"] "read" (defScope Ub) f cdv A outer s H E)) (E:=E)
 have ho:=Dw (X:=(uv (CXR P w) P w K mg base ["text","reader","tree"] "read" (defScope Ub) f cdv A outer s H E)) (E:=E) rfl rfl
 exact((j3 (sa C 1 rfl (at9 (qc T) (hr.mono (by decide)) (C.g 1 rfl) (ma_cons (me_fn (kr T) (hr.mono (by decide)) (C.g 0 rfl) (ma_cons (sv C 0 rfl) ma_nil rfl) rfl) ma_nil rfl) rfl))
  (j3 (sa C 2 rfl (ux (Xd T) hx (hr.mono (by decide)) (C.g 2 rfl) (ma_cons (sv C 1 rfl) (ma_cons me_int ma_nil rfl) rfl) rfl))
  (j3 (Jv (Yv hx (Z4 T) (hr.mono (by decide)) (sv C 1 rfl)))
  (j4 (jy (sv C 2 rfl)))))))
theorem Bm (T:Tx w K mg):uj P w K mg base xc "read" 137 1 U9:=uk T.d_p_read rfl fun f fd F=>Dr T F
theorem a25 (T:Tx w K mg):ui P w K mg base "_law_whole" 1 1 fh:=fnC T.d_whole ["_law_found"] ["isinstance","int","bool"] ⟨rfl,rfl,rfl,by decide +kernel,rfl,by decide +kernel,by decide +kernel⟩ (by decide +kernel) (by decide +kernel) rfl rfl fun _ _ _ _ _ _ _ hr C=>(j4 (jy (me_and (V2 .int PyProof.Rows.boot_int (C.g 0 rfl) T.n_isinstance (C.g 1 rfl) T.n_int (sv C 0 rfl)) (me_one (a39 (V2 .bool M.boot_bool (C.g 0 rfl) T.n_isinstance (C.g 2 rfl) T.n_bool (sv C 0 rfl)))))))
theorem Ag:FnScope ["_law_script","_law_table","_law_words","_law_at","_law_some","_law_changed","_law_due","_law_found","e"] ["_law_script"] (defScope Fp):=⟨rfl,rfl,rfl,by decide +kernel,rfl,by decide +kernel,by decide +kernel⟩
theorem ad5 (T:Tx w K mg) {f:Addr}{fd:FuncData}(F:Fun K "law" "law" Fp f fd):FnOk P w K mg base CX0 138 f fd ["_law_script"] (spM K 1 f_law):=by
 refine bt F Ag rfl rfl fun cdv A outer s H E hr=>?_
 have C:=bg (CX:=CX0) (P:=P) (w:=w) (K:=K) (mg:=mg) (base:=base) (outer:=outer) (H:=H) (E:=E) Ag.nd (Qs (by decide +kernel)) (Vn (show glB _ ["_law_grammar","_law_made","_law_mix","_law_truth","_law_told","len","_law_menu","_law_wrong","SieveError","read","isinstance","BadFilter","ValueError","TooDeep","Stuck","NotLetIn","BadLine","_law_whole"]=true from(by decide +kernel))) hr
 exact((j3 (sa C 1 rfl (Dg (Dq T) (hr.mono (by decide)) (C.g 0 rfl)))
  (j3 (sa C 2 rfl (me_fn (ad7 T) (hr.mono (by decide)) (C.g 1 rfl) (ma_cons (sv C 0 rfl) (ma_cons (sv C 1 rfl) ma_nil rfl) rfl) rfl))
  (j3 (J7 (mt_cmp (om_eq C.un) (j6 Ji (me_fn (zy T) (hr.mono (by decide)) (C.g 2 rfl) (ma_cons (sv C 0 rfl) (ma_cons me_int ma_nil rfl) rfl) rfl) me_int) me_int (nomark _))
  (j3 (sa C 2 rfl (U7 (me_fn (ad6 T) (hr.mono (by decide)) (C.g 4 rfl) (ma_cons (me_fn (a26 T) (hr.mono (by decide)) (C.g 3 rfl) (ma_cons (sv C 0 rfl) (ma_cons me_int (ma_cons me_int ma_nil rfl) rfl) rfl) rfl) ma_nil rfl) rfl) y1 (ur me_int)))
  (j3 (sa C 3 rfl (j6 Ji (me_fn (zy T) (hr.mono (by decide)) (C.g 2 rfl) (ma_cons (sv C 0 rfl) (ma_cons me_int ma_nil rfl) rfl) rfl) (u5 yc (C.g 5 rfl) T.n_len PySem.boot_len (ma_cons (sv C 2 rfl) ma_nil rfl))))
  (j3 (sa C 4 rfl (me_idx (Dg (Cr T) (hr.mono (by decide)) (C.g 6 rfl)) (j6 Ji (me_fn (zy T) (hr.mono (by decide)) (C.g 2 rfl) (ma_cons (sv C 0 rfl) (ma_cons me_int ma_nil rfl) rfl) rfl) me_int) (fun _ _=>rfl)))
  (j3 (sa C 5 rfl (j6 jm (j6 jm (U7 (sv C 2 rfl) y1 (ur (sv C 3 rfl))) (me_lst (ma_cons (sv C 4 rfl) ma_nil rfl))) (U7 (sv C 2 rfl) (ur (j6 jm (sv C 3 rfl) me_int)) y1)))
  (j3 (sa C 2 rfl (me_lst (ma_cons (sv C 2 rfl) (ma_cons (U7 (sv C 2 rfl) y1 (ur (j6 jm (sv C 3 rfl) me_int))) (ma_cons (j6 jm (U7 (sv C 2 rfl) y1 (ur (sv C 3 rfl))) (U7 (sv C 2 rfl) (ur (j6 jm (sv C 3 rfl) me_int)) y1)) (ma_cons (sv C 5 rfl) (ma_cons (j6 jm (j6 jm (U7 (sv C 2 rfl) y1 (ur (sv C 3 rfl))) (me_lst (ma_cons (sv C 4 rfl) ma_nil rfl))) (U7 (sv C 2 rfl) (ur (sv C 3 rfl)) y1)) ma_nil rfl) rfl) rfl) rfl) rfl)))
  (j3 (sa C 2 rfl (me_idx (sv C 2 rfl) (j6 Ji (me_fn (zy T) (hr.mono (by decide)) (C.g 2 rfl) (ma_cons (sv C 0 rfl) (ma_cons me_int ma_nil rfl) rfl) rfl) me_int) (fun _ _=>rfl)))
  (j4 (J7 (mt_cmp Cs (u5 yc (C.g 5 rfl) T.n_len PySem.boot_len (ma_cons (Cg (me_str dw) (ma_cons (sv C 2 rfl) ma_nil rfl)) ma_nil rfl)) me_int (nomark _))
  (j4 (sa C 2 rfl (U7 (sv C 2 rfl) y1 (ur me_int))))
  jq))))))))
  jq)
  (j3 (sa C 6 rfl (me_fn (a24 T) (hr.mono (by decide)) (C.g 7 rfl) (ma_cons (sv C 1 rfl) (ma_cons (sv C 2 rfl) ma_nil rfl) rfl) rfl))
  (j3 (sa C 7 rfl me_int)
  (j3 (a36 C T.h_SieveError (C.g 8 rfl) (show a89 ["_law_script","_law_table","_law_words","_law_at","_law_some","_law_changed","_law_due","_law_found","e"] (defScope Fp)=true from(by decide +kernel)) (ie:=8) rfl (by intro k hk;rcases(show k=0 by simpa using hk) with rfl<;>first|exact T.s_BadFilter_SieveError) (fun pn xe f E hx C=>(ux (Bm T) hx (hr.mono (by decide)) (C.g 9 rfl) (ma_cons (Cg (me_str dw) (ma_cons (sv C 2 rfl) ma_nil rfl)) ma_nil rfl) rfl))
  (fun a pn C=>(j3 (sah C 7 rfl (V3 (mw_and (mt_truth (au1 (C.g 11 rfl) T.m_BadFilter (Gu (by simp only[List.forall_mem_cons,List.not_mem_nil,false_implies,implies_true,and_true];exact⟨T.g_BadFilter,T.k_BadFilter_BadFilter⟩)) (C.g 10 rfl) T.n_isinstance (svh C 8 rfl)) (fun _=>rfl)) (Y7 (mt_truth (af2 (C.g 12 rfl) T.n_ValueError M.boot_ValueError (Gu (by simp only[List.forall_mem_cons,List.not_mem_nil,false_implies,implies_true,and_true];exact⟨T.g_BadFilter,T.k_BadFilter_ValueError⟩)) (C.g 10 rfl) T.n_isinstance (svh C 8 rfl)) (fun _=>rfl)))).t (at7 (of_mem (by simp only[List.forall_mem_cons,List.not_mem_nil,false_implies,implies_true,and_true];exact⟨T.g_BadFilter,T.a_BadFilter⟩)) (svh C 8 rfl)) (a40 me_int)))
  (j4 (J7 (mt_truth (af1 (xr (C.g 16 rfl) T.m_BadLine (xr (C.g 15 rfl) T.m_NotLetIn (xr (C.g 14 rfl) T.m_Stuck (xr (C.g 13 rfl) T.m_TooDeep ac4)))) (show 4<=1000 by decide) (Gu (by simp only[List.forall_mem_cons,List.not_mem_nil,false_implies,implies_true,and_true];exact⟨T.g_BadFilter,T.k_BadFilter_BadLine_NotLetIn_Stuck_TooDeep⟩)) (C.g 10 rfl) T.n_isinstance (svh C 8 rfl)) (fun _=>rfl))
  (j4 (sah C 7 rfl (a40 me_int)))
  jq)))))
  (j4 (jy (me_and (me_fn (a25 T) (hr.mono (by decide)) (C.g 17 rfl) (ma_cons (sv C 7 rfl) ma_nil rfl) rfl) (me_one (me_cmp (om_eq C.un) (sv C 7 rfl) (sv C 6 rfl) (nomark _)))))))))))))
theorem finish {fa:Addr}(hmg:mg "law"=some (.ref fa)) (T:Tx w K mg):∃fd:FuncData,yz fd ["_law_script"]/\∀base:Heap,FnOk P w K mg base CX0 138 fa fd ["_law_script"] (spM K 1 f_law):=by
 obtain⟨f,fd,h1,h2,h3⟩:=T.d_law
 have e:=hmg.symm.trans h1
 cases e
 exact⟨fd,h3,fun base=>ad5 T h2⟩
theorem mkT {h:Heap}(KX:K.In h) (G:h.Ns mainGlobals mg)
    (n_len:PySem.W.nsIn K mainGlobals "len"=some none)
    (n_range:PySem.W.nsIn K mainGlobals "range"=some none)
    (n_any:PySem.W.nsIn K mainGlobals "any"=some none)
    (n_int:PySem.W.nsIn K mainGlobals "int"=some none)
    (n_str:PySem.W.nsIn K mainGlobals "str"=some none)
    (n_all:PySem.W.nsIn K mainGlobals "all"=some none)
    (n_isinstance:PySem.W.nsIn K mainGlobals "isinstance"=some none)
    (n_bool:PySem.W.nsIn K mainGlobals "bool"=some none)
    (n_ValueError:PySem.W.nsIn K mainGlobals "ValueError"=some none)
    {p_LONG_SIGNS:Addr}{t0_LONG_SIGNS t1_LONG_SIGNS t2_LONG_SIGNS t3_LONG_SIGNS t4_LONG_SIGNS:Tok}{od_LONG_SIGNS:Option Addr}{z_LONG_SIGNS:Nat}{sl_LONG_SIGNS:Array (Option Value)}
    (a_LONG_SIGNS:PySem.W.nsIn K mainGlobals "LONG_SIGNS"=some (some (.ref p_LONG_SIGNS)))
    (l_LONG_SIGNS:K.lookup p_LONG_SIGNS=some ⟨.type "tuple",od_LONG_SIGNS,.seq #[.str ⟨w29.toArray⟩ t0_LONG_SIGNS,.str ⟨w30.toArray⟩ t1_LONG_SIGNS,.str ⟨w31.toArray⟩ t2_LONG_SIGNS,.str ⟨w32.toArray⟩ t3_LONG_SIGNS,.str ⟨w33.toArray⟩ t4_LONG_SIGNS] z_LONG_SIGNS,sl_LONG_SIGNS⟩)
    {t_MOST_FIGURES:Tok}
    (a_MOST_FIGURES:PySem.W.nsIn K mainGlobals "MOST_FIGURES"=some (some (.int 10 t_MOST_FIGURES)))
    {t_ROUND:Tok}
    (a_ROUND:PySem.W.nsIn K mainGlobals "ROUND"=some (some (.int 4294967296 t_ROUND)))
    {p_NAMES:Addr}{t0_NAMES t1_NAMES t2_NAMES t3_NAMES t4_NAMES t5_NAMES t6_NAMES t7_NAMES t8_NAMES t9_NAMES t10_NAMES:Tok}{od_NAMES:Option Addr}{z_NAMES:Nat}{sl_NAMES:Array (Option Value)}
    (a_NAMES:PySem.W.nsIn K mainGlobals "NAMES"=some (some (.ref p_NAMES)))
    (l_NAMES:K.lookup p_NAMES=some ⟨.type "tuple",od_NAMES,.seq #[.str ⟨Jk.toArray⟩ t0_NAMES,.str ⟨U0.toArray⟩ t1_NAMES,.str ⟨w_not.toArray⟩ t2_NAMES,.str ⟨Y3.toArray⟩ t3_NAMES,.str ⟨w_len.toArray⟩ t4_NAMES,.str ⟨ut.toArray⟩ t5_NAMES,.str ⟨U3.toArray⟩ t6_NAMES,.str ⟨U2.toArray⟩ t7_NAMES,.str ⟨Ju.toArray⟩ t8_NAMES,.str ⟨Jt.toArray⟩ t9_NAMES,.str ⟨Jw.toArray⟩ t10_NAMES] z_NAMES,sl_NAMES⟩)
    {p_SIGNS:Addr}{t0_SIGNS t1_SIGNS t2_SIGNS t3_SIGNS t4_SIGNS t5_SIGNS t6_SIGNS t7_SIGNS t8_SIGNS t9_SIGNS t10_SIGNS t11_SIGNS t12_SIGNS t13_SIGNS:Tok}{od_SIGNS:Option Addr}{z_SIGNS:Nat}{sl_SIGNS:Array (Option Value)}
    (a_SIGNS:PySem.W.nsIn K mainGlobals "SIGNS"=some (some (.ref p_SIGNS)))
    (l_SIGNS:K.lookup p_SIGNS=some ⟨.type "tuple",od_SIGNS,.seq #[.str ⟨w34.toArray⟩ t0_SIGNS,.str ⟨w35.toArray⟩ t1_SIGNS,.str ⟨w14.toArray⟩ t2_SIGNS,.str ⟨w17.toArray⟩ t3_SIGNS,.str ⟨w36.toArray⟩ t4_SIGNS,.str ⟨w20.toArray⟩ t5_SIGNS,.str ⟨w37.toArray⟩ t6_SIGNS,.str ⟨w38.toArray⟩ t7_SIGNS,.str ⟨w39.toArray⟩ t8_SIGNS,.str ⟨w40.toArray⟩ t9_SIGNS,.str ⟨w10.toArray⟩ t10_SIGNS,.str ⟨w12.toArray⟩ t11_SIGNS,.str ⟨w24.toArray⟩ t12_SIGNS,.str ⟨w25.toArray⟩ t13_SIGNS] z_SIGNS,sl_SIGNS⟩)
    {t_MOST_WITHIN:Tok}
    (a_MOST_WITHIN:PySem.W.nsIn K mainGlobals "MOST_WITHIN"=some (some (.int 12 t_MOST_WITHIN)))
    {p_SUM_OPS:Addr}{ep_SUM_OPS:Nat}{k0_SUM_OPS k1_SUM_OPS k2_SUM_OPS k3_SUM_OPS v0_SUM_OPS v1_SUM_OPS v2_SUM_OPS v3_SUM_OPS:Tok}
    (a_SUM_OPS:PySem.W.nsIn K mainGlobals "SUM_OPS"=some (some (.ref p_SUM_OPS)))
    (l_SUM_OPS:K.lookup p_SUM_OPS=some ⟨.type "dict",none,.dict #[⟨PyData.keyHash w.params ⟨w17.toArray⟩,.str ⟨w17.toArray⟩ k0_SUM_OPS,.str ⟨Uh.toArray⟩ v0_SUM_OPS⟩,⟨PyData.keyHash w.params ⟨w36.toArray⟩,.str ⟨w36.toArray⟩ k1_SUM_OPS,.str ⟨ue.toArray⟩ v1_SUM_OPS⟩,⟨PyData.keyHash w.params ⟨w39.toArray⟩,.str ⟨w39.toArray⟩ k2_SUM_OPS,.str ⟨U0.toArray⟩ v2_SUM_OPS⟩,⟨PyData.keyHash w.params ⟨w40.toArray⟩,.str ⟨w40.toArray⟩ k3_SUM_OPS,.str ⟨Ya.toArray⟩ v3_SUM_OPS⟩] ep_SUM_OPS,#[]⟩)
    (h_SUM_OPS:(p_SUM_OPS==sysModules)=false)
    {p_PRODUCT_OPS:Addr}{ep_PRODUCT_OPS:Nat}{k0_PRODUCT_OPS k1_PRODUCT_OPS k2_PRODUCT_OPS k3_PRODUCT_OPS k4_PRODUCT_OPS k5_PRODUCT_OPS v0_PRODUCT_OPS v1_PRODUCT_OPS v2_PRODUCT_OPS v3_PRODUCT_OPS v4_PRODUCT_OPS v5_PRODUCT_OPS:Tok}
    (a_PRODUCT_OPS:PySem.W.nsIn K mainGlobals "PRODUCT_OPS"=some (some (.ref p_PRODUCT_OPS)))
    (l_PRODUCT_OPS:K.lookup p_PRODUCT_OPS=some ⟨.type "dict",none,.dict #[⟨PyData.keyHash w.params ⟨w20.toArray⟩,.str ⟨w20.toArray⟩ k0_PRODUCT_OPS,.str ⟨ug.toArray⟩ v0_PRODUCT_OPS⟩,⟨PyData.keyHash w.params ⟨w37.toArray⟩,.str ⟨w37.toArray⟩ k1_PRODUCT_OPS,.str ⟨Ug.toArray⟩ v1_PRODUCT_OPS⟩,⟨PyData.keyHash w.params ⟨Ju.toArray⟩,.str ⟨Ju.toArray⟩ k2_PRODUCT_OPS,.str ⟨Ju.toArray⟩ v2_PRODUCT_OPS⟩,⟨PyData.keyHash w.params ⟨w38.toArray⟩,.str ⟨w38.toArray⟩ k3_PRODUCT_OPS,.str ⟨Jk.toArray⟩ v3_PRODUCT_OPS⟩,⟨PyData.keyHash w.params ⟨w29.toArray⟩,.str ⟨w29.toArray⟩ k4_PRODUCT_OPS,.str ⟨Ue.toArray⟩ v4_PRODUCT_OPS⟩,⟨PyData.keyHash w.params ⟨w30.toArray⟩,.str ⟨w30.toArray⟩ k5_PRODUCT_OPS,.str ⟨uf.toArray⟩ v5_PRODUCT_OPS⟩] ep_PRODUCT_OPS,#[]⟩)
    (h_PRODUCT_OPS:(p_PRODUCT_OPS==sysModules)=false)
    {p_LOAD_SIZES:Addr}{ep_LOAD_SIZES:Nat}{k0_LOAD_SIZES k1_LOAD_SIZES k2_LOAD_SIZES v0_LOAD_SIZES v1_LOAD_SIZES v2_LOAD_SIZES:Tok}
    (a_LOAD_SIZES:PySem.W.nsIn K mainGlobals "LOAD_SIZES"=some (some (.ref p_LOAD_SIZES)))
    (l_LOAD_SIZES:K.lookup p_LOAD_SIZES=some ⟨.type "dict",none,.dict #[⟨PyData.keyHash w.params ⟨ut.toArray⟩,.str ⟨ut.toArray⟩ k0_LOAD_SIZES,.int 1 v0_LOAD_SIZES⟩,⟨PyData.keyHash w.params ⟨U3.toArray⟩,.str ⟨U3.toArray⟩ k1_LOAD_SIZES,.int 2 v1_LOAD_SIZES⟩,⟨PyData.keyHash w.params ⟨U2.toArray⟩,.str ⟨U2.toArray⟩ k2_LOAD_SIZES,.int 4 v2_LOAD_SIZES⟩] ep_LOAD_SIZES,#[]⟩)
    (h_LOAD_SIZES:(p_LOAD_SIZES==sysModules)=false)
    {p_COMPARISONS:Addr}{ep_COMPARISONS:Nat}{k0_COMPARISONS k1_COMPARISONS k2_COMPARISONS k3_COMPARISONS k4_COMPARISONS k5_COMPARISONS v0_COMPARISONS v1_COMPARISONS v2_COMPARISONS v3_COMPARISONS v4_COMPARISONS v5_COMPARISONS:Tok}
    (a_COMPARISONS:PySem.W.nsIn K mainGlobals "COMPARISONS"=some (some (.ref p_COMPARISONS)))
    (l_COMPARISONS:K.lookup p_COMPARISONS=some ⟨.type "dict",none,.dict #[⟨PyData.keyHash w.params ⟨w14.toArray⟩,.str ⟨w14.toArray⟩ k0_COMPARISONS,.str ⟨Ui.toArray⟩ v0_COMPARISONS⟩,⟨PyData.keyHash w.params ⟨w33.toArray⟩,.str ⟨w33.toArray⟩ k1_COMPARISONS,.str ⟨u4.toArray⟩ v1_COMPARISONS⟩,⟨PyData.keyHash w.params ⟨w34.toArray⟩,.str ⟨w34.toArray⟩ k2_COMPARISONS,.str ⟨uc.toArray⟩ v2_COMPARISONS⟩,⟨PyData.keyHash w.params ⟨w35.toArray⟩,.str ⟨w35.toArray⟩ k3_COMPARISONS,.str ⟨ub.toArray⟩ v3_COMPARISONS⟩,⟨PyData.keyHash w.params ⟨w31.toArray⟩,.str ⟨w31.toArray⟩ k4_COMPARISONS,.str ⟨Uf.toArray⟩ v4_COMPARISONS⟩,⟨PyData.keyHash w.params ⟨w32.toArray⟩,.str ⟨w32.toArray⟩ k5_COMPARISONS,.str ⟨ud.toArray⟩ v5_COMPARISONS⟩] ep_COMPARISONS,#[]⟩)
    (h_COMPARISONS:(p_COMPARISONS==sysModules)=false)
    {q_SieveError:Addr}
    (a_SieveError:PySem.W.nsIn K mainGlobals "SieveError"=some (some (.ref q_SieveError)))
    {q_Reader:Addr}
    (a_Reader:PySem.W.nsIn K mainGlobals "Reader"=some (some (.ref q_Reader)))
    {q_BadFilter:Addr}
    (a_BadFilter:PySem.W.nsIn K mainGlobals "BadFilter"=some (some (.ref q_BadFilter)))
    {q_TooDeep:Addr}
    (a_TooDeep:PySem.W.nsIn K mainGlobals "TooDeep"=some (some (.ref q_TooDeep)))
    {q_Stuck:Addr}
    (a_Stuck:PySem.W.nsIn K mainGlobals "Stuck"=some (some (.ref q_Stuck)))
    {q_NotLetIn:Addr}
    (a_NotLetIn:PySem.W.nsIn K mainGlobals "NotLetIn"=some (some (.ref q_NotLetIn)))
    {q_BadLine:Addr}
    (a_BadLine:PySem.W.nsIn K mainGlobals "BadLine"=some (some (.ref q_BadLine)))
    {qi_BadFilter:Addr}{oc_BadFilter kV_BadFilter dc_BadFilter pm_BadFilter cd_BadFilter ct_BadFilter:Value}{od_BadFilter an_BadFilter:Option Addr}{os_BadFilter:Array (Option Value)}
    (i_BadFilter:PySem.W.findIn K (.ref q_BadFilter) "__init__"=some (some (.ref qi_BadFilter)))
    (l_BadFilter:K.lookup qi_BadFilter=some ⟨oc_BadFilter,od_BadFilter,.func (PySem.W.fnOf "__init__" "BadFilter.__init__" (defArgs si_BadFilter) (defBody si_BadFilter) (defScope si_BadFilter) .none kV_BadFilter dc_BadFilter pm_BadFilter an_BadFilter cd_BadFilter ct_BadFilter),os_BadFilter⟩)
    (c_BadFilter:PySem.W.codeIn K cd_BadFilter "BadFilter.__init__"=true)
    (k_BadFilter:PySem.W.keepIn K (.ref qi_BadFilter)=true)
    (o_BadFilter:Bp K q_BadFilter qi_BadFilter=true)
    (v_BadFilter:Xf K q_BadFilter=true)
    (y1_BadFilter:PySem.W.findIn K (.ref q_BadFilter) "__setattr__"=some (some (.builtin "object.__setattr__")))
    (y2_BadFilter:PySem.W.findIn K (.ref q_BadFilter) "__getattribute__"=some (some (.builtin "BaseException.__getattribute__")))
    (y3_BadFilter:PySem.W.findIn K (.ref q_BadFilter) "__getattr__"=some none)
    (y4_BadFilter:PySem.W.hasDictIn K q_BadFilter=true)
    (y5_BadFilter:PySem.W.takerIn K q_BadFilter "word"=some none)
    (y6_BadFilter:PySem.W.findIn K (.ref q_BadFilter) "word"=some none)
    (y7_BadFilter:PySem.W.isFn K (.ref qi_BadFilter)=true)
    (y8_BadFilter:PySem.W.keepIn K (.ref q_BadFilter)=true)
    (u1_SieveError:PySem.W.readsIn K q_SieveError (.type "type")=true)
    (u2_SieveError:PySem.W.findCls K (.ref q_SieveError) (.type "type") "__init__"=some (.val (.builtin "ValueError.__init__")))
    (u3_SieveError:PySem.W.specialIn K (.ref q_SieveError) "__getattribute__"=some (some (.builtin "type.__getattribute__")))
    (h1_SieveError:PySem.W.typeIn K (.ref q_SieveError)=some (.type "type"))
    (h2_SieveError:(PySem.W.clsIn K q_SieveError).isSome=true)
    (h3_SieveError:PySem.W.subIn K (.ref q_SieveError) (.type "BaseException")=some true)
    (s_BadFilter_SieveError:PySem.W.subIn K (.ref q_BadFilter) (.ref q_SieveError)=some true)
    (z1_BadFilter:PySem.W.findIn K (.ref q_BadFilter) "__class__"=some (some (.builtin "object.__class__")))
    (z2_BadFilter:PySem.W.specialIn K (.builtin "object.__class__") "__get__"=some (some (.builtin "getset_descriptor.__get__")))
    (z3_BadFilter:PySem.W.takesIn K (.builtin "object.__class__")=some true)
    (z4_BadFilter:PySem.W.mroIn K q_BadFilter (.type "object")=some true)
    (k_BadFilter_BadFilter:PySem.W.kitOne K (.ref q_BadFilter) (.ref q_BadFilter)=some true)
    (k_BadFilter_ValueError:PySem.W.kitOne K (.ref q_BadFilter) (.type "ValueError")=some true)
    (k_BadFilter_BadLine_NotLetIn_Stuck_TooDeep:PySem.W.kitAny K (.ref q_BadFilter) ([q_BadLine,q_NotLetIn,q_Stuck,q_TooDeep].map .ref)=some false)
    (p1_Reader:PySem.W.plainGet K q_Reader Str.empty=true)
    (p2_Reader:PySem.W.hasDictIn K q_Reader=true)
    (p3_Reader:PySem.W.plainOver K q_Reader=true)
    (p4_Reader:PySem.W.findIn K (.ref q_Reader) "__setattr__"=some (some (.builtin "object.__setattr__")))
    (na_Reader_words:PySem.W.findIn K (.ref q_Reader) "words"=some none)
    (na_Reader_place:PySem.W.findIn K (.ref q_Reader) "place"=some none)
    {q_p_Reader__init__:Addr}{oc_p_Reader__init__ kV_p_Reader__init__ dc_p_Reader__init__ pm_p_Reader__init__ cd_p_Reader__init__ ct_p_Reader__init__:Value}{od_p_Reader__init__ an_p_Reader__init__:Option Addr}{os_p_Reader__init__:Array (Option Value)}
    (i_p_Reader__init__:PySem.W.findIn K (.ref q_Reader) "__init__"=some (some (.ref q_p_Reader__init__)))
    (l_p_Reader__init__:K.lookup q_p_Reader__init__=some ⟨oc_p_Reader__init__,od_p_Reader__init__,.func (PySem.W.fnOf "__init__" "Reader.__init__" (defArgs s_p_Reader__init__) (defBody s_p_Reader__init__) (defScope s_p_Reader__init__) .none kV_p_Reader__init__ dc_p_Reader__init__ pm_p_Reader__init__ an_p_Reader__init__ cd_p_Reader__init__ ct_p_Reader__init__),os_p_Reader__init__⟩)
    (c_p_Reader__init__:PySem.W.codeIn K cd_p_Reader__init__ "Reader.__init__"=true)
    (k_p_Reader__init__:PySem.W.keepIn K (.ref q_p_Reader__init__)=true)
    (m1_p_Reader__init__:PySem.W.makesIn K q_Reader=true)
    (m2_p_Reader__init__:PySem.W.isFn K (.ref q_p_Reader__init__)=true)
    (m3_p_Reader__init__:PySem.W.keepIn K (.ref q_Reader)=true)
    {q_m_Reader_ahead:Addr}{oc_m_Reader_ahead kV_m_Reader_ahead dc_m_Reader_ahead pm_m_Reader_ahead cd_m_Reader_ahead ct_m_Reader_ahead:Value}{od_m_Reader_ahead an_m_Reader_ahead:Option Addr}{os_m_Reader_ahead:Array (Option Value)}
    (i_m_Reader_ahead:PySem.W.findIn K (.ref q_Reader) "ahead"=some (some (.ref q_m_Reader_ahead)))
    (l_m_Reader_ahead:K.lookup q_m_Reader_ahead=some ⟨oc_m_Reader_ahead,od_m_Reader_ahead,.func (PySem.W.fnOf "ahead" "Reader.ahead" (defArgs s_m_Reader_ahead) (defBody s_m_Reader_ahead) (defScope s_m_Reader_ahead) .none kV_m_Reader_ahead dc_m_Reader_ahead pm_m_Reader_ahead an_m_Reader_ahead cd_m_Reader_ahead ct_m_Reader_ahead),os_m_Reader_ahead⟩)
    (c_m_Reader_ahead:PySem.W.codeIn K cd_m_Reader_ahead "Reader.ahead"=true)
    (k_m_Reader_ahead:PySem.W.keepIn K (.ref q_m_Reader_ahead)=true)
    (m2_m_Reader_ahead:PySem.W.isFn K (.ref q_m_Reader_ahead)=true)
    {q_m_Reader_step_over:Addr}{oc_m_Reader_step_over kV_m_Reader_step_over dc_m_Reader_step_over pm_m_Reader_step_over cd_m_Reader_step_over ct_m_Reader_step_over:Value}{od_m_Reader_step_over an_m_Reader_step_over:Option Addr}{os_m_Reader_step_over:Array (Option Value)}
    (i_m_Reader_step_over:PySem.W.findIn K (.ref q_Reader) "step_over"=some (some (.ref q_m_Reader_step_over)))
    (l_m_Reader_step_over:K.lookup q_m_Reader_step_over=some ⟨oc_m_Reader_step_over,od_m_Reader_step_over,.func (PySem.W.fnOf "step_over" "Reader.step_over" (defArgs s_m_Reader_step_over) (defBody s_m_Reader_step_over) (defScope s_m_Reader_step_over) .none kV_m_Reader_step_over dc_m_Reader_step_over pm_m_Reader_step_over an_m_Reader_step_over cd_m_Reader_step_over ct_m_Reader_step_over),os_m_Reader_step_over⟩)
    (c_m_Reader_step_over:PySem.W.codeIn K cd_m_Reader_step_over "Reader.step_over"=true)
    (k_m_Reader_step_over:PySem.W.keepIn K (.ref q_m_Reader_step_over)=true)
    (m2_m_Reader_step_over:PySem.W.isFn K (.ref q_m_Reader_step_over)=true)
    {q_m_Reader_refuse:Addr}{oc_m_Reader_refuse kV_m_Reader_refuse dc_m_Reader_refuse pm_m_Reader_refuse cd_m_Reader_refuse ct_m_Reader_refuse:Value}{od_m_Reader_refuse an_m_Reader_refuse:Option Addr}{os_m_Reader_refuse:Array (Option Value)}
    (i_m_Reader_refuse:PySem.W.findIn K (.ref q_Reader) "refuse"=some (some (.ref q_m_Reader_refuse)))
    (l_m_Reader_refuse:K.lookup q_m_Reader_refuse=some ⟨oc_m_Reader_refuse,od_m_Reader_refuse,.func (PySem.W.fnOf "refuse" "Reader.refuse" (defArgs s_m_Reader_refuse) (defBody s_m_Reader_refuse) (defScope s_m_Reader_refuse) .none kV_m_Reader_refuse dc_m_Reader_refuse pm_m_Reader_refuse an_m_Reader_refuse cd_m_Reader_refuse ct_m_Reader_refuse),os_m_Reader_refuse⟩)
    (c_m_Reader_refuse:PySem.W.codeIn K cd_m_Reader_refuse "Reader.refuse"=true)
    (k_m_Reader_refuse:PySem.W.keepIn K (.ref q_m_Reader_refuse)=true)
    (m2_m_Reader_refuse:PySem.W.isFn K (.ref q_m_Reader_refuse)=true)
    {q_m_Reader_step_into:Addr}{oc_m_Reader_step_into kV_m_Reader_step_into dc_m_Reader_step_into pm_m_Reader_step_into cd_m_Reader_step_into ct_m_Reader_step_into:Value}{od_m_Reader_step_into an_m_Reader_step_into:Option Addr}{os_m_Reader_step_into:Array (Option Value)}
    (i_m_Reader_step_into:PySem.W.findIn K (.ref q_Reader) "step_into"=some (some (.ref q_m_Reader_step_into)))
    (l_m_Reader_step_into:K.lookup q_m_Reader_step_into=some ⟨oc_m_Reader_step_into,od_m_Reader_step_into,.func (PySem.W.fnOf "step_into" "Reader.step_into" (defArgs s_m_Reader_step_into) (defBody s_m_Reader_step_into) (defScope s_m_Reader_step_into) .none kV_m_Reader_step_into dc_m_Reader_step_into pm_m_Reader_step_into an_m_Reader_step_into cd_m_Reader_step_into ct_m_Reader_step_into),os_m_Reader_step_into⟩)
    (c_m_Reader_step_into:PySem.W.codeIn K cd_m_Reader_step_into "Reader.step_into"=true)
    (k_m_Reader_step_into:PySem.W.keepIn K (.ref q_m_Reader_step_into)=true)
    (m2_m_Reader_step_into:PySem.W.isFn K (.ref q_m_Reader_step_into)=true)
    {q_m_Reader_expect:Addr}{oc_m_Reader_expect kV_m_Reader_expect dc_m_Reader_expect pm_m_Reader_expect cd_m_Reader_expect ct_m_Reader_expect:Value}{od_m_Reader_expect an_m_Reader_expect:Option Addr}{os_m_Reader_expect:Array (Option Value)}
    (i_m_Reader_expect:PySem.W.findIn K (.ref q_Reader) "expect"=some (some (.ref q_m_Reader_expect)))
    (l_m_Reader_expect:K.lookup q_m_Reader_expect=some ⟨oc_m_Reader_expect,od_m_Reader_expect,.func (PySem.W.fnOf "expect" "Reader.expect" (defArgs s_m_Reader_expect) (defBody s_m_Reader_expect) (defScope s_m_Reader_expect) .none kV_m_Reader_expect dc_m_Reader_expect pm_m_Reader_expect an_m_Reader_expect cd_m_Reader_expect ct_m_Reader_expect),os_m_Reader_expect⟩)
    (c_m_Reader_expect:PySem.W.codeIn K cd_m_Reader_expect "Reader.expect"=true)
    (k_m_Reader_expect:PySem.W.keepIn K (.ref q_m_Reader_expect)=true)
    (m2_m_Reader_expect:PySem.W.isFn K (.ref q_m_Reader_expect)=true)
    {q_m_Reader_expect_end:Addr}{oc_m_Reader_expect_end kV_m_Reader_expect_end dc_m_Reader_expect_end pm_m_Reader_expect_end cd_m_Reader_expect_end ct_m_Reader_expect_end:Value}{od_m_Reader_expect_end an_m_Reader_expect_end:Option Addr}{os_m_Reader_expect_end:Array (Option Value)}
    (i_m_Reader_expect_end:PySem.W.findIn K (.ref q_Reader) "expect_end"=some (some (.ref q_m_Reader_expect_end)))
    (l_m_Reader_expect_end:K.lookup q_m_Reader_expect_end=some ⟨oc_m_Reader_expect_end,od_m_Reader_expect_end,.func (PySem.W.fnOf "expect_end" "Reader.expect_end" (defArgs s_m_Reader_expect_end) (defBody s_m_Reader_expect_end) (defScope s_m_Reader_expect_end) .none kV_m_Reader_expect_end dc_m_Reader_expect_end pm_m_Reader_expect_end an_m_Reader_expect_end cd_m_Reader_expect_end ct_m_Reader_expect_end),os_m_Reader_expect_end⟩)
    (c_m_Reader_expect_end:PySem.W.codeIn K cd_m_Reader_expect_end "Reader.expect_end"=true)
    (k_m_Reader_expect_end:PySem.W.keepIn K (.ref q_m_Reader_expect_end)=true)
    (m2_m_Reader_expect_end:PySem.W.isFn K (.ref q_m_Reader_expect_end)=true)
    (d_grammar:Jm K "_law_grammar" K3)
    (d_menu:Jm K "_law_menu" Ad)
    (d_cell:Jm K "_law_cell" Aa)
    (d_mix:Jm K "_law_mix" ak2)
    (d_begins:Jm K "_law_begins" vq)
    (d_next:Jm K "_law_next" gc)
    (d_kind:Jm K "_law_kind" Ab)
    (d_made:Jm K "_law_made" Ac)
    (d_sign:Jm K "_law_sign" Ae)
    (d_told:Jm K "_law_told" Af)
    (d_inner:Jm K "_law_inner" C8)
    (d_op:Jm K "_law_op" aA5)
    (d_number:Jm K "_law_number" Fq)
    (d_truth:Jm K "_law_truth" C7)
    (d_wrong:Jm K "_law_wrong" ge)
    (d_p_end_of_figures:Jm K "end_of_figures" Yn)
    (d_p_end_of_letters:Jm K "end_of_letters" Yo)
    (d_p_end_of_word:Jm K "end_of_word" Zu)
    (d_p_is_whole:Jm K "is_whole" xx)
    (d_p_is_number:Jm K "is_number" Q4)
    (d_p_number_of:Jm K "number_of" Q3)
    (d_p_word_of:Jm K "word_of" wc)
    (d_p_words_of:Jm K "words_of" xy)
    (d_p_read_sum:Jm K "read_sum" Uc)
    (d_p_read_product:Jm K "read_product" u9)
    (d_p_read_plain:Jm K "read_plain" U5)
    (d_p_read_load:Jm K "read_load" Uu)
    (d_p_read_bracket:Jm K "read_bracket" uz)
    (d_p_read_comparison:Jm K "read_comparison" jc)
    (d_p_read_filter:Jm K "read_filter" ul)
    (d_p_read_tests:Jm K "read_tests" U4)
    (d_p_read_test:Jm K "read_test" Uv)
    (d_p_read_so:Jm K "read_so" yk)
    (d_p_read:Jm K "read" Ub)
    (d_whole:Jm K "_law_whole" C6)
    (d_law:Jm K "law" Fp):Tx w K mg :=
  ⟨PySem.W.mg_none_of KX G n_len,
   PySem.W.mg_none_of KX G n_range,
   PySem.W.mg_none_of KX G n_any,
   PySem.W.mg_none_of KX G n_int,
   PySem.W.mg_none_of KX G n_str,
   PySem.W.mg_none_of KX G n_all,
   PySem.W.mg_none_of KX G n_isinstance,
   PySem.W.mg_none_of KX G n_bool,
   PySem.W.mg_none_of KX G n_ValueError,
   wo (vs:=[.str ⟨w29.toArray⟩,.str ⟨w30.toArray⟩,.str ⟨w31.toArray⟩,.str ⟨w32.toArray⟩,.str ⟨w33.toArray⟩]) KX G a_LONG_SIGNS l_LONG_SIGNS (by show 5<=16777216;decide) (.cons ⟨_,rfl⟩ (.cons ⟨_,rfl⟩ (.cons ⟨_,rfl⟩ (.cons ⟨_,rfl⟩ (.cons ⟨_,rfl⟩ .nil))))) (fun F α=>(j5 (by unfold Rep;rfl) (j5 (by unfold Rep;rfl) (j5 (by unfold Rep;rfl) (j5 (by unfold Rep;rfl) (j5 (by unfold Rep;rfl) J5)))))),
   wn KX G a_MOST_FIGURES,
   wn KX G a_ROUND,
   wo (vs:=[.str ⟨Jk.toArray⟩,.str ⟨U0.toArray⟩,.str ⟨w_not.toArray⟩,.str ⟨Y3.toArray⟩,.str ⟨w_len.toArray⟩,.str ⟨ut.toArray⟩,.str ⟨U3.toArray⟩,.str ⟨U2.toArray⟩,.str ⟨Ju.toArray⟩,.str ⟨Jt.toArray⟩,.str ⟨Jw.toArray⟩]) KX G a_NAMES l_NAMES (by show 11<=16777216;decide) (.cons ⟨_,rfl⟩ (.cons ⟨_,rfl⟩ (.cons ⟨_,rfl⟩ (.cons ⟨_,rfl⟩ (.cons ⟨_,rfl⟩ (.cons ⟨_,rfl⟩ (.cons ⟨_,rfl⟩ (.cons ⟨_,rfl⟩ (.cons ⟨_,rfl⟩ (.cons ⟨_,rfl⟩ (.cons ⟨_,rfl⟩ .nil))))))))))) (fun F α=>(j5 (by unfold Rep;rfl) (j5 (by unfold Rep;rfl) (j5 (by unfold Rep;rfl) (j5 (by unfold Rep;rfl) (j5 (by unfold Rep;rfl) (j5 (by unfold Rep;rfl) (j5 (by unfold Rep;rfl) (j5 (by unfold Rep;rfl) (j5 (by unfold Rep;rfl) (j5 (by unfold Rep;rfl) (j5 (by unfold Rep;rfl) J5)))))))))))),
   wo (vs:=[.str ⟨w34.toArray⟩,.str ⟨w35.toArray⟩,.str ⟨w14.toArray⟩,.str ⟨w17.toArray⟩,.str ⟨w36.toArray⟩,.str ⟨w20.toArray⟩,.str ⟨w37.toArray⟩,.str ⟨w38.toArray⟩,.str ⟨w39.toArray⟩,.str ⟨w40.toArray⟩,.str ⟨w10.toArray⟩,.str ⟨w12.toArray⟩,.str ⟨w24.toArray⟩,.str ⟨w25.toArray⟩]) KX G a_SIGNS l_SIGNS (by show 14<=16777216;decide) (.cons ⟨_,rfl⟩ (.cons ⟨_,rfl⟩ (.cons ⟨_,rfl⟩ (.cons ⟨_,rfl⟩ (.cons ⟨_,rfl⟩ (.cons ⟨_,rfl⟩ (.cons ⟨_,rfl⟩ (.cons ⟨_,rfl⟩ (.cons ⟨_,rfl⟩ (.cons ⟨_,rfl⟩ (.cons ⟨_,rfl⟩ (.cons ⟨_,rfl⟩ (.cons ⟨_,rfl⟩ (.cons ⟨_,rfl⟩ .nil)))))))))))))) (fun F α=>(j5 (by unfold Rep;rfl) (j5 (by unfold Rep;rfl) (j5 (by unfold Rep;rfl) (j5 (by unfold Rep;rfl) (j5 (by unfold Rep;rfl) (j5 (by unfold Rep;rfl) (j5 (by unfold Rep;rfl) (j5 (by unfold Rep;rfl) (j5 (by unfold Rep;rfl) (j5 (by unfold Rep;rfl) (j5 (by unfold Rep;rfl) (j5 (by unfold Rep;rfl) (j5 (by unfold Rep;rfl) (j5 (by unfold Rep;rfl) J5))))))))))))))),
   wn KX G a_MOST_WITHIN,
   Xw [(w17,k0_SUM_OPS,.str ⟨Uh.toArray⟩ v0_SUM_OPS,.str ⟨Uh.toArray⟩),(w36,k1_SUM_OPS,.str ⟨ue.toArray⟩ v1_SUM_OPS,.str ⟨ue.toArray⟩),(w39,k2_SUM_OPS,.str ⟨U0.toArray⟩ v2_SUM_OPS,.str ⟨U0.toArray⟩),(w40,k3_SUM_OPS,.str ⟨Ya.toArray⟩ v3_SUM_OPS,.str ⟨Ya.toArray⟩)] KX G a_SUM_OPS l_SUM_OPS h_SUM_OPS (show([w17,w36,w39,w40]:List (List Nat)).Nodup by decide) rfl (List.forall_mem_cons.mpr ⟨⟨_,rfl⟩,(List.forall_mem_cons.mpr ⟨⟨_,rfl⟩,(List.forall_mem_cons.mpr ⟨⟨_,rfl⟩,(List.forall_mem_cons.mpr ⟨⟨_,rfl⟩,(fun _ z=>nomatch z)⟩)⟩)⟩)⟩) (fun F α=>(j5 (by unfold Rep;rfl) (j5 (by unfold Rep;rfl) (j5 (by unfold Rep;rfl) (j5 (by unfold Rep;rfl) J5))))),
   Xw [(w20,k0_PRODUCT_OPS,.str ⟨ug.toArray⟩ v0_PRODUCT_OPS,.str ⟨ug.toArray⟩),(w37,k1_PRODUCT_OPS,.str ⟨Ug.toArray⟩ v1_PRODUCT_OPS,.str ⟨Ug.toArray⟩),(Ju,k2_PRODUCT_OPS,.str ⟨Ju.toArray⟩ v2_PRODUCT_OPS,.str ⟨Ju.toArray⟩),(w38,k3_PRODUCT_OPS,.str ⟨Jk.toArray⟩ v3_PRODUCT_OPS,.str ⟨Jk.toArray⟩),(w29,k4_PRODUCT_OPS,.str ⟨Ue.toArray⟩ v4_PRODUCT_OPS,.str ⟨Ue.toArray⟩),(w30,k5_PRODUCT_OPS,.str ⟨uf.toArray⟩ v5_PRODUCT_OPS,.str ⟨uf.toArray⟩)] KX G a_PRODUCT_OPS l_PRODUCT_OPS h_PRODUCT_OPS (show([w20,w37,Ju,w38,w29,w30]:List (List Nat)).Nodup by decide) rfl (List.forall_mem_cons.mpr ⟨⟨_,rfl⟩,(List.forall_mem_cons.mpr ⟨⟨_,rfl⟩,(List.forall_mem_cons.mpr ⟨⟨_,rfl⟩,(List.forall_mem_cons.mpr ⟨⟨_,rfl⟩,(List.forall_mem_cons.mpr ⟨⟨_,rfl⟩,(List.forall_mem_cons.mpr ⟨⟨_,rfl⟩,(fun _ z=>nomatch z)⟩)⟩)⟩)⟩)⟩)⟩) (fun F α=>(j5 (by unfold Rep;rfl) (j5 (by unfold Rep;rfl) (j5 (by unfold Rep;rfl) (j5 (by unfold Rep;rfl) (j5 (by unfold Rep;rfl) (j5 (by unfold Rep;rfl) J5))))))),
   Xw [(ut,k0_LOAD_SIZES,.int 1 v0_LOAD_SIZES,.int 1),(U3,k1_LOAD_SIZES,.int 2 v1_LOAD_SIZES,.int 2),(U2,k2_LOAD_SIZES,.int 4 v2_LOAD_SIZES,.int 4)] KX G a_LOAD_SIZES l_LOAD_SIZES h_LOAD_SIZES (show([ut,U3,U2]:List (List Nat)).Nodup by decide) rfl (List.forall_mem_cons.mpr ⟨⟨_,rfl⟩,(List.forall_mem_cons.mpr ⟨⟨_,rfl⟩,(List.forall_mem_cons.mpr ⟨⟨_,rfl⟩,(fun _ z=>nomatch z)⟩)⟩)⟩) (fun F α=>(j5 (by unfold Rep;rfl) (j5 (by unfold Rep;rfl) (j5 (by unfold Rep;rfl) J5)))),
   Xw [(w14,k0_COMPARISONS,.str ⟨Ui.toArray⟩ v0_COMPARISONS,.str ⟨Ui.toArray⟩),(w33,k1_COMPARISONS,.str ⟨u4.toArray⟩ v1_COMPARISONS,.str ⟨u4.toArray⟩),(w34,k2_COMPARISONS,.str ⟨uc.toArray⟩ v2_COMPARISONS,.str ⟨uc.toArray⟩),(w35,k3_COMPARISONS,.str ⟨ub.toArray⟩ v3_COMPARISONS,.str ⟨ub.toArray⟩),(w31,k4_COMPARISONS,.str ⟨Uf.toArray⟩ v4_COMPARISONS,.str ⟨Uf.toArray⟩),(w32,k5_COMPARISONS,.str ⟨ud.toArray⟩ v5_COMPARISONS,.str ⟨ud.toArray⟩)] KX G a_COMPARISONS l_COMPARISONS h_COMPARISONS (show([w14,w33,w34,w35,w31,w32]:List (List Nat)).Nodup by decide) rfl (List.forall_mem_cons.mpr ⟨⟨_,rfl⟩,(List.forall_mem_cons.mpr ⟨⟨_,rfl⟩,(List.forall_mem_cons.mpr ⟨⟨_,rfl⟩,(List.forall_mem_cons.mpr ⟨⟨_,rfl⟩,(List.forall_mem_cons.mpr ⟨⟨_,rfl⟩,(List.forall_mem_cons.mpr ⟨⟨_,rfl⟩,(fun _ z=>nomatch z)⟩)⟩)⟩)⟩)⟩)⟩) (fun F α=>(j5 (by unfold Rep;rfl) (j5 (by unfold Rep;rfl) (j5 (by unfold Rep;rfl) (j5 (by unfold Rep;rfl) (j5 (by unfold Rep;rfl) (j5 (by unfold Rep;rfl) J5))))))),
   (by show mg _=_;rw[Jq a_SieveError];exact PySem.W.mg_of KX G a_SieveError),
   (by show mg _=_;rw[Jq a_Reader];exact PySem.W.mg_of KX G a_Reader),
   (by show mg _=_;rw[Jq a_BadFilter];exact PySem.W.mg_of KX G a_BadFilter),
   (by show mg _=_;rw[Jq a_TooDeep];exact PySem.W.mg_of KX G a_TooDeep),
   (by show mg _=_;rw[Jq a_Stuck];exact PySem.W.mg_of KX G a_Stuck),
   (by show mg _=_;rw[Jq a_NotLetIn];exact PySem.W.mg_of KX G a_NotLetIn),
   (by show mg _=_;rw[Jq a_BadLine];exact PySem.W.mg_of KX G a_BadLine),
   ⟨qi_BadFilter,_,by rw[Jq a_BadFilter];exact PySem.W.mg_of KX G a_BadFilter,by rw[Jq a_BadFilter];exact⟨o_BadFilter,v_BadFilter,y1_BadFilter,y2_BadFilter,y3_BadFilter,y4_BadFilter,y5_BadFilter,y6_BadFilter,y7_BadFilter,y8_BadFilter⟩,Zx (st:=si_BadFilter) l_BadFilter c_BadFilter k_BadFilter,fun us hl=>by obtain⟨_,_,rfl⟩:=len_2 hl;rfl⟩,
   (by rw[Jq a_SieveError];exact⟨u1_SieveError,u2_SieveError,u3_SieveError⟩),
   ⟨by rw[Jq a_SieveError];exact PySem.W.mg_of KX G a_SieveError,by rw[Jq a_SieveError];exact⟨h1_SieveError,h2_SieveError,h3_SieveError⟩⟩,
   (by rw[Jq a_BadFilter,Jq a_SieveError];exact s_BadFilter_SieveError),
   (by rw[Jq a_BadFilter];exact⟨v_BadFilter,y2_BadFilter,y3_BadFilter,y4_BadFilter,z1_BadFilter,z2_BadFilter,z3_BadFilter,z4_BadFilter⟩),
   (by rw[Jq a_BadFilter];exact y6_BadFilter),
   (by rw[Jq a_BadFilter];exact k_BadFilter_BadFilter),
   (by rw[Jq a_BadFilter];exact k_BadFilter_ValueError),
   (by rw[Jq a_BadFilter,Jq a_BadLine,Jq a_NotLetIn,Jq a_Stuck,Jq a_TooDeep];exact k_BadFilter_BadLine_NotLetIn_Stuck_TooDeep),
   (by rw[Jq a_Reader];exact⟨p1_Reader,p2_Reader,p3_Reader,p4_Reader⟩),
   (by rw[Jq a_Reader];exact na_Reader_words),
   (by rw[Jq a_Reader];exact na_Reader_place),
   ⟨q_p_Reader__init__,_,by rw[Jq a_Reader];exact PySem.W.mg_of KX G a_Reader,by rw[Jq a_Reader];exact⟨m1_p_Reader__init__,i_p_Reader__init__,m2_p_Reader__init__,m3_p_Reader__init__⟩,Zx (st:=s_p_Reader__init__) l_p_Reader__init__ c_p_Reader__init__ k_p_Reader__init__,fun us hl=>by obtain⟨_,_,rfl⟩:=len_2 hl;rfl⟩,
   ⟨q_m_Reader_ahead,_,by rw[Jq a_Reader];exact⟨p1_Reader,p2_Reader,p3_Reader,p4_Reader⟩,by rw[Jq a_Reader];exact⟨i_m_Reader_ahead,m2_m_Reader_ahead,k_m_Reader_ahead⟩,Zx (st:=s_m_Reader_ahead) l_m_Reader_ahead c_m_Reader_ahead k_m_Reader_ahead,fun us hl=>by obtain⟨_,rfl⟩:=len_1 hl;rfl⟩,
   ⟨q_m_Reader_step_over,_,by rw[Jq a_Reader];exact⟨p1_Reader,p2_Reader,p3_Reader,p4_Reader⟩,by rw[Jq a_Reader];exact⟨i_m_Reader_step_over,m2_m_Reader_step_over,k_m_Reader_step_over⟩,Zx (st:=s_m_Reader_step_over) l_m_Reader_step_over c_m_Reader_step_over k_m_Reader_step_over,fun us hl=>by obtain⟨_,rfl⟩:=len_1 hl;rfl⟩,
   ⟨q_m_Reader_refuse,_,by rw[Jq a_Reader];exact⟨p1_Reader,p2_Reader,p3_Reader,p4_Reader⟩,by rw[Jq a_Reader];exact⟨i_m_Reader_refuse,m2_m_Reader_refuse,k_m_Reader_refuse⟩,Zx (st:=s_m_Reader_refuse) l_m_Reader_refuse c_m_Reader_refuse k_m_Reader_refuse,fun us hl=>by obtain⟨_,rfl⟩:=len_1 hl;rfl⟩,
   ⟨q_m_Reader_step_into,_,by rw[Jq a_Reader];exact⟨p1_Reader,p2_Reader,p3_Reader,p4_Reader⟩,by rw[Jq a_Reader];exact⟨i_m_Reader_step_into,m2_m_Reader_step_into,k_m_Reader_step_into⟩,Zx (st:=s_m_Reader_step_into) l_m_Reader_step_into c_m_Reader_step_into k_m_Reader_step_into,fun us hl=>by obtain⟨_,_,rfl⟩:=len_2 hl;rfl⟩,
   ⟨q_m_Reader_expect,_,by rw[Jq a_Reader];exact⟨p1_Reader,p2_Reader,p3_Reader,p4_Reader⟩,by rw[Jq a_Reader];exact⟨i_m_Reader_expect,m2_m_Reader_expect,k_m_Reader_expect⟩,Zx (st:=s_m_Reader_expect) l_m_Reader_expect c_m_Reader_expect k_m_Reader_expect,fun us hl=>by obtain⟨_,_,rfl⟩:=len_2 hl;rfl⟩,
   ⟨q_m_Reader_expect_end,_,by rw[Jq a_Reader];exact⟨p1_Reader,p2_Reader,p3_Reader,p4_Reader⟩,by rw[Jq a_Reader];exact⟨i_m_Reader_expect_end,m2_m_Reader_expect_end,k_m_Reader_expect_end⟩,Zx (st:=s_m_Reader_expect_end) l_m_Reader_expect_end c_m_Reader_expect_end k_m_Reader_expect_end,fun us hl=>by obtain⟨_,rfl⟩:=len_1 hl;rfl⟩,
   J2 KX G d_grammar (fun _ _ _ _ _ _ _ _=>by walk_at "bs"),
   J2 KX G d_menu (fun _ _ _ _ _ _ _ _=>by walk_at "bs"),
   J2 KX G d_cell (fun _ _ _ _ _ _ _ _=>by walk_at "bs"),
   J2 KX G d_mix (fun _ _ _ _ _ _ _ _=>by walk_at "bs"),
   J2 KX G d_begins (fun _ _ _ _ _ _ _ _=>by walk_at "bs"),
   J2 KX G d_next (fun _ _ _ _ _ _ _ _=>by walk_at "bs"),
   J2 KX G d_kind (fun _ _ _ _ _ _ _ _=>by walk_at "bs"),
   J2 KX G d_made (fun _ _ _ _ _ _ _ _=>by walk_at "bs"),
   J2 KX G d_sign (fun _ _ _ _ _ _ _ _=>by walk_at "bs"),
   J2 KX G d_told (fun _ _ _ _ _ _ _ _=>by walk_at "bs"),
   J2 KX G d_inner (fun _ _ _ _ _ _ _ _=>by walk_at "bs"),
   J2 KX G d_op (fun _ _ _ _ _ _ _ _=>by walk_at "bs"),
   J2 KX G d_number (fun _ _ _ _ _ _ _ _=>by walk_at "bs"),
   J2 KX G d_truth (fun _ _ _ _ _ _ _ _=>by walk_at "bs"),
   J2 KX G d_wrong (fun _ _ _ _ _ _ _ _=>by walk_at "bs"),
   J2 KX G d_p_end_of_figures (fun _ _ _ _ _ _ _ _=>by walk_at "bs"),
   J2 KX G d_p_end_of_letters (fun _ _ _ _ _ _ _ _=>by walk_at "bs"),
   J2 KX G d_p_end_of_word (fun _ _ _ _ _ _ _ _=>by walk_at "bs"),
   J2 KX G d_p_is_whole (fun _ _ _ _ _ _ _ _=>by walk_at "bs"),
   J2 KX G d_p_is_number (fun _ _ _ _ _ _ _ _=>by walk_at "bs"),
   J2 KX G d_p_number_of (fun _ _ _ _ _ _ _ _=>by walk_at "bs"),
   J2 KX G d_p_word_of (fun _ _ _ _ _ _ _ _=>by walk_at "bs"),
   J2 KX G d_p_words_of (fun _ _ _ _ _ _ _ _=>by walk_at "bs"),
   J2 KX G d_p_read_sum (fun _ _ _ _ _ _ _ _=>by walk_at "bs"),
   J2 KX G d_p_read_product (fun _ _ _ _ _ _ _ _=>by walk_at "bs"),
   J2 KX G d_p_read_plain (fun _ _ _ _ _ _ _ _=>by walk_at "bs"),
   J2 KX G d_p_read_load (fun _ _ _ _ _ _ _ _=>by walk_at "bs"),
   J2 KX G d_p_read_bracket (fun _ _ _ _ _ _ _ _=>by walk_at "bs"),
   J2 KX G d_p_read_comparison (fun _ _ _ _ _ _ _ _=>by walk_at "bs"),
   J2 KX G d_p_read_filter (fun _ _ _ _ _ _ _ _=>by walk_at "bs"),
   J2 KX G d_p_read_tests (fun _ _ _ _ _ _ _ _=>by walk_at "bs"),
   J2 KX G d_p_read_test (fun _ _ _ _ _ _ _ _=>by walk_at "bs"),
   J2 KX G d_p_read_so (fun _ _ _ _ _ _ _ _=>by walk_at "bs"),
   J2 KX G d_p_read (fun _ _ _ _ _ _ _ _=>by walk_at "bs"),
   J2 KX G d_whole (fun _ _ _ _ _ _ _ _=>by walk_at "bs"),
   J2 KX G d_law (fun _ _ _ _ _ _ _ _=>by walk_at "bs")⟩
end
open PySem PySem.Spec PyProof.Rows L2 M NumText
theorem vp {x:List Nat}:∀(m lo:Nat),lo+m<=x.length->(List.range' lo m).filterMap (fun i=>x[i]?)=(x.drop lo).take m
 |0,lo,_=>by simp
 |m+1,lo,h=>by
  rw[List.range'_succ,List.filterMap_cons,List.getElem?_eq_getElem (by omega:lo<x.length),vp m (lo+1) (by omega),List.drop_eq_getElem_cons (by omega:lo<x.length)]
  rfl
theorem Db (a b n:Nat) (h:a<=b):Builtin.Str.strSliceIndices (some (a:Int)) (some (b:Int)) 1 n=List.range' (min a n) (min b n-min a n):=by
 unfold Builtin.Str.strSliceIndices sliceRange
 simp only[show(1:Int)>0 by decide,if_true]
 simp only[show ¬((a:Int)<0) by omega,show ¬((b:Int)<0) by omega,if_false]
 have e1:max 0 (min (a:Int) (n:Int))=((min a n:Nat):Int):=by omega
 have e2:max 0 (min (b:Int) (n:Int))=((min b n:Nat):Int):=by omega
 rw[e1,e2]
 have e3:((if((min a n:Nat):Int)<((min b n:Nat):Int) then(((min b n:Nat):Int)-((min a n:Nat):Int)+1-1) / 1 else 0:Int)).toNat=min b n-min a n:=by
  split<;>omega
 rw[e3,List.range'_eq_map_range]
 refine List.map_congr_left fun k _=>?_
 omega
theorem Fs (x:List Nat) (a b:Nat) (h:a<=b):(Txt.slice (mkS x) (some (a:Int)) (some (b:Int))).cps.toList=(x.drop a).take (b-a):=by
 have hn:(mkS x).length=x.length:=by simp[Str.length]
 have key:((Builtin.Str.strSliceIndices (some (a:Int)) (some (b:Int)) 1 x.length).filterMap fun i=>x[i]?)=(x.drop a).take (b-a):=by
  rw[Db a b x.length h,vp _ _ (by omega)]
  by_cases ha:a<=x.length
  ·rw[Nat.min_eq_left ha]
   by_cases hb:b<=x.length
   ·rw[Nat.min_eq_left hb]
   ·rw[Nat.min_eq_right (by omega),List.take_of_length_le (by simp),List.take_of_length_le (by simp;omega)]
  ·rw[show min a x.length=x.length by omega,List.drop_eq_nil_of_le (Nat.le_refl _),List.drop_eq_nil_of_le (by omega)]
   simp
 unfold Txt.slice
 rw[hn]
 split
 ·rename_i hc
  rw[←key]
  simp only[Bool.and_eq_true,beq_iff_eq] at hc
  have hc:=hc.2
  rw[Db a b x.length h,List.length_range'] at hc
  rw[Db a b x.length h,vp _ _ (by omega),show min b x.length-min a x.length=x.length by omega]
  by_cases hx:x=[]
  ·subst hx;simp
  ·have:0<x.length:=List.length_pos_iff.mpr hx
   rw[show min a x.length=0 by omega]
   simp
 ·show((Builtin.Str.strSliceIndices _ _ 1 x.length).filterMap fun i=>x.toArray[i]?)=_
  simpa using key
noncomputable def dig (c:Nat):Bool:=decide (48<=c)&&decide (c<=57)
noncomputable def alp (c:Nat):Bool:=(decide (65<=c)&&decide (c<=90))||(decide (97<=c)&&decide (c<=122))
theorem aH1:∀c<128,Unicode.isDigit c=dig c:=by decide +kernel
theorem aH2:∀c<128,Unicode.isAlpha c=alp c:=by decide +kernel
theorem isd {c:Nat}(h:c<128):zi (.str [c])=some (.bl (dig c)):=by
 show some (D.bl (Txt.isdigit ⟨#[c]⟩))=_
 rw[←aH1 c h]
 simp[Txt.isdigit,Str.length]
theorem isa {c:Nat}(h:c<128):X6 (.str [c])=some (.bl (alp c)):=by
 show some (D.bl (Txt.isalpha ⟨#[c]⟩))=_
 rw[←aH2 c h]
 simp[Txt.isalpha,Str.length]
theorem gq {g:D->Option D}{mo:MX}{ρ:En}{μ:Mu}{x:List Nat}{d:D}(h1:mo ρ μ=.ok (.str x) μ) (h3:g (.str x)=some d):Y1 g mo ρ μ=.ok d μ:=by
 unfold Y1
 rw[h1,bind_ok]
 show ofO μ (g (.str x))=_
 rw[h3]
 rfl
structure Tx0 (x:List Nat):Prop where
 asc:∀c∈x,c<128
 len:x.length<=390
section
variable {x:List Nat}(hx:Tx0 x) {ρ:En}{μ:Mu}
include hx
theorem ch_at {p c:Nat}{m:MX}(h0:ρ[0]? =some (some (.str x))) (h1:m ρ μ=.ok (.int (p:Nat)) μ) (h:x[p]? =some c):j0 je (mVar 0) m ρ μ=.ok (.str [c]) μ:=by
 refine v_bin (v_var 0 h0) h1 ?_
 show(if x.length<=16777216 then(atI x (p:Int)).map fun c=>D.str [c] else none)=_
 rw[if_pos (by have:=hx.len;omega),Yy (by omega),Int.toNat_natCast,h]
 rfl
theorem au6 (h0:ρ[0]? =some (some (.str x))):jl U1 (mCons (mVar 0) mNil) ρ μ=.ok (.int (x.length:Nat)) μ:=by
 refine v_callB (v_cons (v_var 0 h0) v_nil) ?_
 show(if x.length<=16777216 then some (D.int x.length) else none)=_
 rw[if_pos (by have:=hx.len;omega)]
theorem E5 {p:Nat}{m:MX}(h0:ρ[0]? =some (some (.str x))) (h1:m ρ μ=.ok (.int (p:Nat)) μ):j8 (j0 gLt m (jl U1 (mCons (mVar 0) mNil))) ρ μ=.ok (decide (p<x.length)) μ:=by
 refine v_test (v_bin h1 (au6 hx h0) ?_)
 show some (D.bl (decide ((p:Int)<(x.length:Int))))=_
 by_cases z:p<x.length
 ·rw[decide_eq_true z,decide_eq_true (by omega)]
 ·rw[decide_eq_false z,decide_eq_false (by omega)]
end
theorem Fo {x:List Nat}(hx:Tx0 x) {g:D->Option D}{q:Nat->Bool}(hg:∀c<128,g (.str [c])=some (.bl (q c))) {μ:Mu}{e1:Option D}:∀(w r pre:List Nat),x=pre++w++r->(∀c∈w,q c=true)->(∀c,r.head? =some c->q c=false)->∀fuel,w.length<fuel ->
  Uj (Yk (j8 (j0 gLt (mVar 2) (jl U1 (mCons (mVar 0) mNil)))) (u7 (Y1 g (j0 je (mVar 0) (mVar 2))))) (E4 2 (mC (.int 1))) fuel [some (.str x),e1,some (.int (pre.length:Nat))] μ=.ok (.nx [some (.str x),e1,some (.int ((pre.length+w.length:Nat):Int))]) μ
 |[],r,pre,hxe,_,hr,0,hf=>absurd hf (by simp)
 |[],r,pre,hxe,_,hr,fuel+1,hf=>by
  have ht:Yk (j8 (j0 gLt (mVar 2) (jl U1 (mCons (mVar 0) mNil)))) (u7 (Y1 g (j0 je (mVar 0) (mVar 2)))) [some (.str x),e1,some (.int (pre.length:Nat))] μ=.ok false μ:=by
   have l1:=E5 hx (ρ:=[some (.str x),e1,some (.int (pre.length:Nat))]) (μ:=μ) (p:=pre.length) (m:=mVar 2) rfl rfl
   cases r with
   |nil =>
    rw[decide_eq_false (by rw[hxe];simp)] at l1
    exact v_andF l1
   |cons c r =>
    rw[decide_eq_true (by rw[hxe];simp)] at l1
    have hc:c<128:=hx.asc c (by rw[hxe];simp)
    have hq:=hr c rfl
    refine(v_andT l1).trans (Yp (d:=.bl false) (gq (ch_at hx rfl rfl (p:=pre.length) (c:=c) (by rw[hxe];simp)) ?_) rfl)
    rw[hg c hc,hq]
  unfold Uj
  rw[ht]
  rfl
 |c::w,r,pre,hxe,hw,hr,0,hf=>absurd hf (by simp)
 |c::w,r,pre,hxe,hw,hr,fuel+1,hf=>by
  obtain⟨h1,h2⟩:=List.forall_mem_cons.mp hw
  have ht:Yk (j8 (j0 gLt (mVar 2) (jl U1 (mCons (mVar 0) mNil)))) (u7 (Y1 g (j0 je (mVar 0) (mVar 2)))) [some (.str x),e1,some (.int (pre.length:Nat))] μ=.ok true μ:=by
   have l1:=E5 hx (ρ:=[some (.str x),e1,some (.int (pre.length:Nat))]) (μ:=μ) (p:=pre.length) (m:=mVar 2) rfl rfl
   rw[decide_eq_true (by rw[hxe];simp)] at l1
   have hc:c<128:=hx.asc c (by rw[hxe];simp)
   refine(v_andT l1).trans (Yp (d:=.bl true) (gq (ch_at hx rfl rfl (p:=pre.length) (c:=c) (by rw[hxe];simp)) ?_) rfl)
   rw[hg c hc,h1]
  have ih:=Fo hx hg (μ:=μ) (e1:=e1) w r (pre++[c]) (by rw[hxe];simp) h2 hr fuel (by simpa using hf)
  unfold Uj
  rw[ht]
  have eb:E4 2 (mC (.int 1)) [some (.str x),e1,some (.int (pre.length:Nat))] μ=.ok (.nx [some (.str x),e1,some (.int ((pre.length:Int)+1))]) μ:=rfl
  rw[bind_ok,if_pos rfl,eb]
  show Uj _ _ fuel [some (.str x),e1,some (.int ((pre.length:Int)+1))] μ=_
  have e2:(pre.length:Int)+1=(((pre++[c]).length:Nat):Int):=by simp
  rw[e2,ih]
  congr 5
  simp
  omega
noncomputable def longL:List (List Nat):=[[60,60],[62,62],[60,61],[62,61],[33,61]]
noncomputable def Bz:List (List Nat):=[[60],[62],[61],[43],[45],[42],[47],[38],[124],[94],[40],[41],[91],[93]]
noncomputable def nmL:List (List Nat):=[Jk,U0,w_not,Y3,w_len,ut,U3,U2,Ju,Jt,Jw]
theorem Um {x:List Nat}(h:∀c∈x,c<128):jp (.str x)=true:=by
 show(x.all fun c=>decide (c<0x110000))=true
 rw[List.all_eq_true]
 exact fun c hc=>decide_eq_true (by have:=h c hc;omega)
theorem a8 {x:List Nat}(hx:∀c∈x,c<128) {L:List (List Nat)}(hL:plainDs (L.map .str)=true):gIn (.str x) (.tup (L.map .str))=some (.bl (decide (x∈L))):=by
 show(if Vu (.str x) (L.map .str)=true then some (D.bl (inD (.str x) (L.map .str))) else none)=_
 have h1:Vu (.str x) (L.map .str)=true:=by
  unfold Vu
  rw[Um hx,hL]
  rfl
 rw[if_pos h1]
 congr 2
 unfold inD
 rw[List.any_map,Bool.eq_iff_iff,List.any_eq_true,decide_eq_true_eq]
 exact⟨fun⟨y,hy,e⟩=>by have e:(y==x)=true:=e;rw[←eq_of_beq e];exact hy,fun h=>⟨x,h,by show(x==x)=true;exact beq_self_eq_true x⟩⟩
theorem aD0 {c d:Nat}(hc:c<128) (hd:d<128):gNe (.str [c]) (.str [d])=some (.bl (!decide (c=d))):=by
 have h1:jp (.str [c])=true:=Um fun e he=>by rw[List.mem_singleton.mp he];exact hc
 have h2:jp (.str [d])=true:=Um fun e he=>by rw[List.mem_singleton.mp he];exact hd
 unfold gNe Y2
 rw[h1,h2]
 show some (D.bl (!([c]==[d])))=_
 congr 2
 by_cases z:c=d
 ·subst z;simp
 ·simp[z]
inductive Tk:List Nat->List Nat->Prop
 |fig {w r:List Nat}:w≠[]->(∀c∈w,dig c=true)->(∀c,r.head? =some c->dig c=false)->Tk w r
 |alp {w r:List Nat}:w≠[]->(∀c∈w,alp c=true)->(∀c,r.head? =some c->alp c=false)->Tk w r
 |two {w r:List Nat}:w∈longL->Tk w r
 |one {c:Nat}{r:List Nat}:dig c=false->alp c=false->c::r.take 1∉longL->Tk [c] r
theorem a28 {c:Nat}(h:alp c=true):dig c=false:=by
 unfold alp at h
 unfold dig
 simp only[Bool.or_eq_true,Bool.and_eq_true,decide_eq_true_eq] at h
 rcases h with h|h
 ·rw[decide_eq_true (by omega:48<=c),decide_eq_false (by omega:¬c<=57)];rfl
 ·rw[decide_eq_true (by omega:48<=c),decide_eq_false (by omega:¬c<=57)];rfl
section
variable {x:List Nat}(hx:Tx0 x) {μ:Mu}
include hx
theorem bo {g:D->Option D}{q:Nat->Bool}{b:MSt}(hb:b=j7 (jr 2 (mVar 1)) (j7 (yu 400 (Yk (j8 (j0 gLt (mVar 2) (jl U1 (mCons (mVar 0) mNil)))) (u7 (Y1 g (j0 je (mVar 0) (mVar 2))))) (E4 2 (mC (.int 1)))) (jh (mVar 2)))) (hg:∀c<128,g (.str [c])=some (.bl (q c)))
  (w r pre:List Nat) (e:x=pre++w++r) (hw:∀c∈w,q c=true) (hr:∀c,r.head? =some c->q c=false):fnOf 1 b [.str x,.int (pre.length:Nat)] μ=.ok (.int ((pre.length+w.length:Nat):Int)) μ:=by
 subst hb
 have hl:w.length<400:=by have:=hx.len;rw[e,List.length_append,List.length_append] at this;omega
 refine u3 1 ((v_set 2 rfl).trans ((v_seqN (ρ1:=[some (.str x),some (.int (pre.length:Nat)),some (.int ((pre.length+w.length:Nat):Int))]) ?_).trans (v_ret (v_var 2 rfl))))
 exact Fo hx hg (μ:=μ) (e1:=some (.int (pre.length:Nat))) w r pre e hw hr 400 hl
theorem a75 {w r pre:List Nat}(e:x=pre++w++r) (h:Tk w r):ye [.str x,.int (pre.length:Nat)] μ=.ok (.int ((pre.length+w.length:Nat):Int)) μ:=by
 have first:∀{c:Nat}{w':List Nat},w=c::w'->c<128/\(∀{g:D->Option D}{k:Bool},g (.str [c])=some (.bl k)->u7 (Y1 g (j0 je (mVar 0) (mVar 1))) [some (.str x),some (.int (pre.length:Nat))] μ=.ok k μ):=fun{c w'} hw=>by
  have hc:c<128:=hx.asc c (by rw[e,hw];simp)
  exact⟨hc,fun{g k} hg=>Yp (d:=.bl k) (gq (ch_at hx rfl rfl (p:=pre.length) (c:=c) (by rw[e,hw];simp)) hg) rfl⟩
 have sl:Bg (mVar 0) (jk (mVar 1)) (jk (j0 jo (mVar 1) (mC (.int 2)))) [some (.str x),some (.int (pre.length:Nat))] μ=.ok (.str ((w++r).take 2)) μ:=by
  show ofO μ (if x.length<=16777215 then some (D.str (Txt.slice (mkS x) (some (pre.length:Int)) (some ((pre.length:Int)+2))).cps.toList) else none)=_
  rw[if_pos (by have:=hx.len;omega),show(pre.length:Int)+2=((pre.length+2:Nat):Int) by omega,Fs x _ _ (by omega),e,List.append_assoc,List.drop_left,Nat.add_sub_cancel_left]
  rfl
 have asc2:∀c∈(w++r).take 2,c<128:=fun c hc=>hx.asc c (by rw[e,List.append_assoc];exact List.mem_append_right _ (List.mem_of_mem_take hc))
 have tl:j8 (j0 gIn (Bg (mVar 0) (jk (mVar 1)) (jk (j0 jo (mVar 1) (mC (.int 2))))) (mC c_LONG_SIGNS)) [some (.str x),some (.int (pre.length:Nat))] μ=.ok (decide ((w++r).take 2∈longL)) μ:=v_test (v_bin sl rfl (a8 asc2 (L:=longL) (by decide)))
 cases h with
 |fig hn ha hr =>
  cases w with
  |nil=>exact absurd rfl hn
  |cons c w' =>
   obtain⟨hc,hf⟩:=first rfl
   exact u3 0 (v_take (hf ((isd hc).trans (by rw[ha c List.mem_cons_self]))) (v_call rfl (bo hx rfl (fun c h=>isd h) (c::w') r pre e ha hr)))
 |alp hn ha hr =>
  cases w with
  |nil=>exact absurd rfl hn
  |cons c w' =>
   obtain⟨hc,hf⟩:=first rfl
   have h1:=ha c List.mem_cons_self
   exact u3 0 ((v_skip (hf ((isd hc).trans (by rw[a28 h1])))).trans (v_take (hf ((isa hc).trans (by rw[h1]))) (v_call rfl (bo hx rfl (fun c h=>isa h) (c::w') r pre e ha hr))))
 |two hm =>
  have h2:∀v∈longL,∃c d,v=[c,d]/\dig c=false/\alp c=false:=by
   simp only[longL,List.forall_mem_cons,List.not_mem_nil,false_implies,implies_true,and_true]
   exact⟨⟨_,_,rfl,rfl,rfl⟩,⟨_,_,rfl,rfl,rfl⟩,⟨_,_,rfl,rfl,rfl⟩,⟨_,_,rfl,rfl,rfl⟩,⟨_,_,rfl,rfl,rfl⟩⟩
  obtain⟨c,d,rfl,hd,ha⟩:=h2 w hm
  obtain⟨hc,hf⟩:=first rfl
  rw[show([c,d]++r).take 2=[c,d] by simp,decide_eq_true hm] at tl
  refine u3 0 ((v_skip (hf ((isd hc).trans (by rw[hd])))).trans ((v_skip (hf ((isa hc).trans (by rw[ha])))).trans (v_take tl (v_bin rfl rfl ?_))))
  show some (D.int ((pre.length:Int)+2))=_
  rfl
 |one hd ha hm =>
  rename_i c
  obtain⟨hc,hf⟩:=first rfl
  rw[show([c]++r).take 2=c::r.take 1 by simp,decide_eq_false hm] at tl
  refine u3 0 ((v_skip (hf ((isd hc).trans (by rw[hd])))).trans ((v_skip (hf ((isa hc).trans (by rw[ha])))).trans ((v_skip tl).trans (v_ret (v_bin rfl rfl ?_)))))
  show some (D.int ((pre.length:Int)+1))=_
  rfl
end
theorem aG0 (i j:Int) (ρ:En) (μ:Mu) (ma mb mc:MX) (h1:ma ρ μ=.ok (.int 0) μ) (h2:mb ρ μ=.ok (.int i) μ) (h3:mc ρ μ=.ok (.int j) μ):q0 gLe gLt ma mb mc ρ μ=.ok (.bl (decide (0<=i)&&decide (i<j))) μ:=by
 rw[aF8,h1,bind_ok,am3,h2,bind_ok,am2,deref_int,deref_int,g_le]
 by_cases h:0<=i
 ·simp only[h,decide_true,Bool.true_and,Option.bind_some]
  show Res.bind (.ok true μ) _=_
  rw[bind_ok,aw5,h3,bind_ok]
  rfl
 ·simp only[h,decide_false,Bool.false_and]
  rfl
noncomputable def nm (x:List Nat):D:=if 10<x.length then .non else if digitsVal x<4294967296 then .int (digitsVal x:Nat) else .non
theorem aE5 (n:Int) (μ:Mu):yn [.int n] μ=.ok (.bl (decide (0<=n)&&decide (n<4294967296))) μ:=u3 0 (v_ret ((v_andVT rfl).trans (aG0 n 4294967296 _ _ _ _ _ rfl rfl rfl)))
theorem aC8 {x:List Nat}(h:∀c∈x,48<=c/\c<=57) (hn:x≠[]) (hl:x.length<=640) (μ:Mu):zu [.str x] μ=.ok (nm x) μ:=by
 have e0:jl U1 (mCons (mVar 0) mNil) [some (.str x),none] μ=.ok (.int x.length) μ:=v_callB (v_cons rfl v_nil) (by show(if x.length<=16777216 then some (D.int x.length) else none)=_;rw[if_pos (by omega)])
 have e1:j8 (j0 gGt (jl U1 (mCons (mVar 0) mNil)) (mC c_MOST_FIGURES)) [some (.str x),none] μ=.ok (decide (10<x.length)) μ:=v_test (v_bin e0 rfl (by
  show some (D.bl (decide ((10:Int)<(x.length:Int))))=_
  by_cases z:10<x.length
  ·rw[decide_eq_true z,decide_eq_true (by omega)]
  ·rw[decide_eq_false z,decide_eq_false (by omega)]))
 unfold nm
 by_cases h10:10<x.length
 ·rw[decide_eq_true h10] at e1
  rw[if_pos h10]
  exact u3 1 (v_take e1 rfl)
 ·rw[decide_eq_false h10] at e1
  rw[if_neg h10]
  have e2:jl Km (mCons (mVar 0) mNil) [some (.str x),none] μ=.ok (.int (digitsVal x:Nat)) μ:=v_callB (v_cons rfl v_nil) (by
   show(if x.length<=640 then(PySem.intText? (mkS x)).map D.int else none)=_
   rw[if_pos hl,intText_digits (x:=mkS x) h hn (by show x.toArray.size<=4300;rw[List.size_toArray];omega)]
   rfl)
  refine u3 1 ((v_skip e1).trans ((v_set 1 e2).trans (v_ret ?_)))
  have e3:u7 (j9 yn (mCons (mVar 1) mNil)) [some (.str x),some (.int (digitsVal x:Nat))] μ=.ok (decide (0<=((digitsVal x:Nat):Int))&&decide (((digitsVal x:Nat):Int)<4294967296)) μ:=Yp (v_call (v_cons rfl v_nil) (aE5 _ μ)) rfl
  rw[decide_eq_true (show 0<=((digitsVal x:Nat):Int) by omega),Bool.true_and] at e3
  by_cases h32:digitsVal x<4294967296
  ·rw[decide_eq_true (by omega)] at e3
   rw[if_pos h32]
   exact v_ifT e3
  ·rw[decide_eq_false (by omega)] at e3
   rw[if_neg h32]
   exact v5 e3
noncomputable def wd (w:List Nat):D:=if(w.head?.any dig)=true then nm w else if w∈nmL\/w∈longL\/w∈Bz then .str w else .non
theorem a92 {w r:List Nat}(h:Tk w r) (hw:∀c∈w,c<128) (hl:w.length<=390) (μ:Mu):qt [.str w] μ=.ok (wd w) μ:=by
 obtain⟨c,w',rfl⟩:∃c w',w=c::w':=by
  cases h with
  |one=>exact⟨_,_,rfl⟩
  |two hm=>revert hm;revert w;intro w _ _ hm;cases w with
   |nil=>exact absurd hm (by decide)
   |cons a b=>exact⟨a,b,rfl⟩
  |fig hn=>cases w with
   |nil=>exact absurd rfl hn
   |cons a b=>exact⟨a,b,rfl⟩
  |alp hn=>cases w with
   |nil=>exact absurd rfl hn
   |cons a b=>exact⟨a,b,rfl⟩
 have hc:=hw c List.mem_cons_self
 have t1:u7 (Y1 zi (j0 je (mVar 0) (mC (.int 0)))) [some (.str (c::w'))] μ=.ok (dig c) μ:=Yp (d:=.bl (dig c)) (gq (ch_at ⟨hw,hl⟩ rfl (p:=0) rfl rfl) (isd hc)) rfl
 unfold wd
 show _=Res.ok (if dig c=true then _ else _) μ
 by_cases hd:dig c=true
 ·rw[if_pos hd]
  rw[hd] at t1
  have hall:∀d∈c::w',48<=d/\d<=57:=by
   cases h with
   |fig _ ha _ =>
    intro d hd2
    have:=ha d hd2
    simpa[dig] using this
   |alp _ ha _=>rw[a28 (ha c List.mem_cons_self)] at hd;cases hd
   |two hm =>
    have:∀v∈longL,v.head?.any dig=false:=by decide
    have:=this _ hm
    rw[show(c::w').head?.any dig=dig c from rfl,hd] at this
    cases this
   |one h1 _ _=>rw[h1] at hd;cases hd
  exact u3 0 (v_take t1 (v_call rfl (aC8 hall (by simp) (by omega) μ)))
 ·rw[if_neg hd]
  rw[show dig c=false by cases hq:dig c<;>simp_all] at t1
  have i1:j8 (j0 gIn (mVar 0) (mC c_NAMES)) [some (.str (c::w'))] μ=.ok (decide ((c::w')∈nmL)) μ:=v_test (v_bin rfl rfl (a8 hw (L:=nmL) (by decide)))
  have i2:j8 (j0 gIn (mVar 0) (mC c_LONG_SIGNS)) [some (.str (c::w'))] μ=.ok (decide ((c::w')∈longL)) μ:=v_test (v_bin rfl rfl (a8 hw (L:=longL) (by decide)))
  have i3:j8 (j0 gIn (mVar 0) (mC c_SIGNS)) [some (.str (c::w'))] μ=.ok (decide ((c::w')∈Bz)) μ:=v_test (v_bin rfl rfl (a8 hw (L:=Bz) (by decide)))
  by_cases z1:(c::w')∈nmL
  ·rw[if_pos (.inl z1)]
   rw[decide_eq_true z1] at i1
   exact u3 0 ((v_skip t1).trans (v_take (v_orT i1) rfl))
  ·rw[decide_eq_false z1] at i1
   by_cases z2:(c::w')∈longL
   ·rw[if_pos (.inr (.inl z2))]
    rw[decide_eq_true z2] at i2
    exact u3 0 ((v_skip t1).trans (v_take ((v_orF i1).trans (v_orT i2)) rfl))
   ·rw[decide_eq_false z2] at i2
    by_cases z3:(c::w')∈Bz
    ·rw[if_pos (.inr (.inr z3))]
     rw[decide_eq_true z3] at i3
     exact u3 0 ((v_skip t1).trans (v_take ((v_orF i1).trans ((v_orF i2).trans i3)) rfl))
    ·rw[if_neg (fun z=>z.elim z1 fun z=>z.elim z2 z3)]
     rw[decide_eq_false z3] at i3
     exact u3 0 ((v_skip t1).trans ((v_skip ((v_orF i1).trans ((v_orF i2).trans i3))).trans (v_ret rfl)))
theorem B0 {μ0:Mu}{c:Cell}:(μ0++[c])[μ0.length]? =some c:=by
 rw[List.getElem?_append_right (Nat.le_refl _),Nat.sub_self]
 rfl
theorem Ah {μ0:Mu}{c d:Cell}:(μ0++[c]).set μ0.length d=μ0++[d]:=by
 rw[List.set_append_right _ _ (Nat.le_refl _),Nat.sub_self]
 rfl
theorem v_app {mo m:MX}{ρ:En}{μ0:Mu}{L:List D}{y:D}(ho:mo ρ (μ0++[.lst L])=.ok (.ref μ0.length) (μ0++[.lst L])) (hm:m ρ (μ0++[.lst L])=.ok y (μ0++[.lst L])) (hl:L.length<16777216):Jr (Z7 mo m) ρ (μ0++[.lst L])=.ok (.nx ρ) (μ0++[.lst (L++[y])]):=by
 have e:Z7 mo m ρ (μ0++[.lst L])=.ok .non (μ0++[.lst (L++[y])]):=by
  unfold Z7
  rw[ho,bind_ok,show deref (μ0++[.lst L]) (.ref μ0.length)=.lst L by unfold deref;dsimp only;rw[B0],if_pos (show a56 (.lst L)=true from rfl),hm,bind_ok]
  unfold ai3
  dsimp only
  rw[B0]
  dsimp only
  rw[if_pos hl,Ah]
 unfold Jr
 rw[e]
 rfl
inductive Lx:List Nat->List D->Prop
 |nil:Lx [] []
 |sp {r:List Nat}{ds:List D}:Lx r ds->Lx (32::r) ds
 |wd {w r:List Nat}{ds:List D}:Tk w r->(∀c,w.head? =some c->c≠32)->Lx r ds->Lx (w++r) (wd w::ds)
theorem ay8 {w r:List Nat}(h:Tk w r):∃c w',w=c::w':=by
 cases h with
 |one=>exact⟨_,_,rfl⟩
 |two hm=>cases w with
  |nil=>exact absurd hm (by decide)
  |cons a b=>exact⟨a,b,rfl⟩
 |fig hn=>cases w with
  |nil=>exact absurd rfl hn
  |cons a b=>exact⟨a,b,rfl⟩
 |alp hn=>cases w with
  |nil=>exact absurd rfl hn
  |cons a b=>exact⟨a,b,rfl⟩
noncomputable abbrev wT:MB:=j8 (j0 gLt (mVar 2) (jl U1 (mCons (mVar 0) mNil)))
theorem Ed {x:List Nat}(hx:Tx0 x) {μ0:Mu}{r:List Nat}{ds:List D}(h:Lx r ds):∀(pre:List Nat) (acc:List D) (e3:Option D) (fuel:Nat),x=pre++r->r.length<fuel->acc.length+r.length<1000 ->
  ∃y3,Uj wT y6 fuel [some (.str x),some (.ref μ0.length),some (.int (pre.length:Nat)),e3] (μ0++[.lst acc])=.ok (.nx [some (.str x),some (.ref μ0.length),some (.int (x.length:Nat)),y3]) (μ0++[.lst (acc++ds)]):=by
 induction h with
 |nil =>
  intro pre acc e3 fuel e hf _
  obtain⟨fuel,rfl⟩:∃k,fuel=k+1:=⟨fuel-1,by simp at hf;omega⟩
  have l1:wT [some (.str x),some (.ref μ0.length),some (.int (pre.length:Nat)),e3] (μ0++[.lst acc])=.ok (decide (pre.length<x.length)) (μ0++[.lst acc]):=E5 hx (p:=pre.length) (m:=mVar 2) rfl rfl
  rw[decide_eq_false (by rw[e];simp)] at l1
  refine⟨e3,?_⟩
  unfold Uj
  rw[l1,List.append_nil]
  rw[show x.length=pre.length by rw[e];simp]
  rfl
 | @sp r ds _ ih =>
  intro pre acc e3 fuel e hf ha
  obtain⟨fuel,rfl⟩:∃k,fuel=k+1:=⟨fuel-1,by simp at hf;omega⟩
  have l1:wT [some (.str x),some (.ref μ0.length),some (.int (pre.length:Nat)),e3] (μ0++[.lst acc])=.ok (decide (pre.length<x.length)) (μ0++[.lst acc]):=E5 hx (p:=pre.length) (m:=mVar 2) rfl rfl
  rw[decide_eq_true (by rw[e];simp)] at l1
  have hk:Tk [32] r:=.one rfl rfl (by
   intro z
   cases r with
   |nil=>exact absurd z (by decide)
   | cons c r=>simp[longL] at z)
  have e4:=a75 hx (μ:=μ0++[.lst acc]) (pre:=pre) (w:=[32]) (r:=r) (by rw[e];simp) hk
  obtain⟨y3,ih⟩:=ih (pre++[32]) acc (some (.int ((pre.length+1:Nat):Int))) fuel (by rw[e];simp) (by simpa using hf) (by simp at ha;omega)
  refine⟨y3,?_⟩
  have eb:y6 [some (.str x),some (.ref μ0.length),some (.int (pre.length:Nat)),e3] (μ0++[.lst acc])=.ok (.nx [some (.str x),some (.ref μ0.length),some (.int ((pre.length+1:Nat):Int)),some (.int ((pre.length+1:Nat):Int))]) (μ0++[.lst acc]) :=
   (v_set 3 (v_call rfl e4)).trans ((v_skip (v_test (v_bin (ch_at hx rfl rfl (p:=pre.length) (c:=32) (by rw[e];simp)) rfl (aD0 (by decide) (by decide))))).trans rfl)
  unfold Uj
  rw[l1,bind_ok,if_pos rfl,eb]
  have e5:pre.length+1=(pre++[32]).length:=by simp
  show Uj _ _ fuel [some (.str x),some (.ref μ0.length),some (.int ((pre.length+1:Nat):Int)),some (.int ((pre.length+1:Nat):Int))] _=_
  rw[e5] at ih ⊢
  exact ih
 | @wd w r ds hk h32 _ ih =>
  intro pre acc e3 fuel e hf ha
  obtain⟨c,w',rfl⟩:=ay8 hk
  obtain⟨fuel,rfl⟩:∃k,fuel=k+1:=⟨fuel-1,by simp at hf;omega⟩
  have hc:c<128:=hx.asc c (by rw[e];simp)
  have l1:wT [some (.str x),some (.ref μ0.length),some (.int (pre.length:Nat)),e3] (μ0++[.lst acc])=.ok (decide (pre.length<x.length)) (μ0++[.lst acc]):=E5 hx (p:=pre.length) (m:=mVar 2) rfl rfl
  rw[decide_eq_true (by rw[e];simp)] at l1
  have e4:=a75 hx (μ:=μ0++[.lst acc]) (pre:=pre) (w:=c::w') (r:=r) (by rw[e];simp) hk
  obtain⟨y3,ih⟩:=ih (pre++(c::w')) (acc++[wd (c::w')]) (some (.int ((pre.length+(c::w').length:Nat):Int))) fuel (by rw[e];simp) (by simp at hf;omega) (by simp at ha ⊢;omega)
  refine⟨y3,?_⟩
  have hlen:(c::w').length<=390:=by have:=hx.len;rw[e] at this;simp at this ⊢;omega
  have hw:=a92 hk (fun d hd=>hx.asc d (by rw[e];exact List.mem_append_right _ (List.mem_append_left _ hd))) hlen (μ0++[.lst acc])
  have sl:Bg (mVar 0) (jk (mVar 2)) (jk (mVar 3)) [some (.str x),some (.ref μ0.length),some (.int (pre.length:Nat)),some (.int ((pre.length+(c::w').length:Nat):Int))] (μ0++[.lst acc])=.ok (.str (c::w')) (μ0++[.lst acc]):=by
   show ofO _ (if x.length<=16777215 then some (D.str (Txt.slice (mkS x) (some (pre.length:Int)) (some ((pre.length+(c::w').length:Nat):Int))).cps.toList) else none)=_
   rw[if_pos (by have:=hx.len;omega),Fs x _ _ (by omega),e,List.drop_left,Nat.add_sub_cancel_left,List.take_left]
   rfl
  have eb:y6 [some (.str x),some (.ref μ0.length),some (.int (pre.length:Nat)),e3] (μ0++[.lst acc])=.ok (.nx [some (.str x),some (.ref μ0.length),some (.int ((pre.length+(c::w').length:Nat):Int)),some (.int ((pre.length+(c::w').length:Nat):Int))]) (μ0++[.lst (acc++[wd (c::w')])]):=by
   have t1:j8 (j0 gNe (j0 je (mVar 0) (mVar 2)) (mC (.str w72))) [some (.str x),some (.ref μ0.length),some (.int (pre.length:Nat)),some (.int ((pre.length+(c::w').length:Nat):Int))] (μ0++[.lst acc])=.ok true (μ0++[.lst acc]) :=
    v_test (v_bin (ch_at hx rfl rfl (p:=pre.length) (c:=c) (by rw[e];simp)) rfl ((aD0 hc (by decide)).trans (by rw[decide_eq_false (h32 c rfl)];rfl)))
   exact(v_set 3 (v_call rfl e4)).trans ((v_seqN ((v_iteT t1).trans (v_app rfl (v_call (v_cons sl v_nil) hw) (by simp at ha;omega)))).trans rfl)
  unfold Uj
  rw[l1,bind_ok,if_pos rfl,eb]
  have e5:pre.length+(c::w').length=(pre++(c::w')).length:=by simp
  show Uj _ _ fuel [some (.str x),some (.ref μ0.length),some (.int ((pre.length+(c::w').length:Nat):Int)),some (.int ((pre.length+(c::w').length:Nat):Int))] _=_
  rw[e5] at ih ⊢
  rw[ih,List.append_assoc]
  rfl
theorem A5 {x:List Nat}(hx:Tx0 x) {ds:List D}(h:Lx x ds) (μ0:Mu):y9 [.str x] μ0=.ok (.ref μ0.length) (μ0++[.lst ds]):=by
 obtain⟨y3,e⟩:=Ed hx (μ0:=μ0) h [] [] none 400 rfl (by have:=hx.len;omega) (by have:=hx.len;simp;omega)
 exact u3 3 ((v_set 1 rfl).trans ((v_set 2 rfl).trans ((v_seqN e).trans (v_ret rfl))))
noncomputable abbrev lpW:List Nat:=w10
noncomputable abbrev rpW:List Nat:=w12
noncomputable abbrev lbW:List Nat:=w24
noncomputable abbrev rbW:List Nat:=w25
noncomputable def sR (μ0:Mu) (ws:List D) (p:Nat):Mu:=μ0++[.lst ws]++[.obj "Reader" ["words","place"] [.ref μ0.length,.int (p:Nat)]]
inductive WV:D->Prop
 |int {i:Int}:WV (.int i)
 |str {x:List Nat}:(∀c∈x,c<128)->WV (.str x)
 |non:WV .non
noncomputable def hd (ws:List D) (p:Nat):D:=(ws[p]?).getD .non
noncomputable def isW:D->List Nat->Bool
 |.str x,w=>x==w
 |_,_=>false
theorem WV.deref {d:D}(h:WV d) (μ:Mu):deref μ d=d:=by cases h<;>rfl
theorem WV.eq {d:D}(h:WV d) {w:List Nat}(hw:jp (.str w)=true):gEq d (.str w)=some (.bl (isW d w)):=by
 cases h with
 |str hx =>
  unfold gEq Y2
  rw[Um hx,hw]
  rfl
 |int =>
  unfold gEq Y2
  rw[hw]
  rfl
 |non =>
  unfold gEq Y2
  rw[hw]
  rfl
theorem WV.ne {d:D}(h:WV d) {w:List Nat}(hw:jp (.str w)=true):gNe d (.str w)=some (.bl (!isW d w)):=by
 cases h with
 |str hx =>
  unfold gNe Y2
  rw[Um hx,hw]
  rfl
 |int =>
  unfold gNe Y2
  rw[hw]
  rfl
 |non =>
  unfold gNe Y2
  rw[hw]
  rfl
theorem gp {m:MX}{ρ:En}{μ μ1:Mu}{d:D}(h:m ρ μ=.ok d μ1):Jr m ρ μ=.ok (.nx ρ) μ1:=by unfold Jr;rw[h];rfl
theorem g8 {m:MX}{ρ:En}{μ μ1:Mu}{x:Exc}(h:m ρ μ=.exc x μ1):Jr m ρ μ=.exc x μ1:=by unfold Jr;rw[h];rfl
theorem Qb {n r:MSt}{ρ:En}{μ μ1:Mu}{x:Exc}(h:n ρ μ=.exc x μ1):j7 n r ρ μ=.exc x μ1:=by unfold j7;rw[h];rfl
theorem A2 {n:MSt}{es:List D}{μ μ1:Mu}{x:Exc}(j:Nat) (h:n (es.map some++List.replicate j none) μ=.exc x μ1):fnOf j n es μ=.exc x μ1:=by rw[c8,h];rfl
theorem ay4 {i:Nat}{m:MX}{r:MSt}{ρ:En}{μ μ1:Mu}{x:Exc}(h:m ρ μ=.exc x μ1):j7 (jr i m) r ρ μ=.exc x μ1:=by unfold j7 jr;rw[h];rfl
theorem aj0 {m:MX}{ρ:En}{μ μ1:Mu}{x:Exc}(h:m ρ μ=.exc x μ1):jh m ρ μ=.exc x μ1:=by unfold jh;rw[h];rfl
theorem Ft {n:MSt}{es:List D}{μ μ1:Mu}{ρ1:En}(j:Nat) (h:n (es.map some++List.replicate j none) μ=.ok (.nx ρ1) μ1):fnOf j n es μ=.ok .non μ1:=by rw[c8,h];rfl
theorem v_callX {φ:Fn}{ms:MAs}{ρ:En}{μ μ1:Mu}{ds:List D}(h:ms ρ μ=.ok ds μ1):J9 φ ms ρ μ=φ ds μ1:=by unfold J9;rw[h];rfl
section
variable {μ0:Mu}{ws:List D}{p:Nat}
theorem aH0:(sR μ0 ws p)[μ0.length+1]? =some (.obj "Reader" ["words","place"] [.ref μ0.length,.int (p:Nat)]):=by
 unfold sR
 rw[List.getElem?_append_right (by simp)]
 simp
theorem at_w:(sR μ0 ws p)[μ0.length]? =some (.lst ws):=by
 unfold sR
 rw[List.append_assoc,List.getElem?_append_right (Nat.le_refl _),Nat.sub_self]
 rfl
theorem am5:deref (sR μ0 ws p) (.ref μ0.length)=.lst ws:=by
 unfold deref
 dsimp only
 rw[at_w]
theorem aA4 {q:Nat}:(sR μ0 ws p).set (μ0.length+1) (.obj "Reader" ["words","place"] [.ref μ0.length,.int (q:Nat)])=sR μ0 ws q:=by
 unfold sR
 rw[List.set_append_right _ _ (by simp)]
 simp
theorem Gr:Wx oC_Reader (.ref (μ0.length+1)) (sR μ0 ws p)=some (μ0.length+1,("Reader":Str),(["words","place"]:List Str),([.ref μ0.length,.int (p:Nat)]:List D)):=by
 unfold Wx
 dsimp only
 rw[aH0]
 exact if_pos (by decide +kernel)
theorem g_w {d e:D}:Qj "words" ["words","place"] [d,e]=some d:=by
 unfold Qj
 exact if_pos rfl
theorem g_p {d e:D}:Qj "place" ["words","place"] [d,e]=some e:=by
 unfold Qj
 rw[if_neg (by decide +kernel)]
 unfold Qj
 exact if_pos rfl
theorem aB4 {d e v:D}:putN "place" v ["words","place"] [d,e]=((["words","place"]:List Str),([d,v]:List D)):=by
 unfold putN
 rw[if_neg (by decide +kernel)]
 unfold putN
 rw[if_pos rfl]
theorem a_w {ρ:En}(h:ρ[0]? =some (some (.ref (μ0.length+1)))):z5 oC_Reader "words" (mVar 0) ρ (sR μ0 ws p)=.ok (.ref μ0.length) (sR μ0 ws p):=by
 unfold z5
 rw[v_var 0 h,bind_ok,Gr,Option.bind_some,g_w]
 rfl
theorem a_p {ρ:En}(h:ρ[0]? =some (some (.ref (μ0.length+1)))):z5 oC_Reader "place" (mVar 0) ρ (sR μ0 ws p)=.ok (.int (p:Nat)) (sR μ0 ws p):=by
 unfold z5
 rw[v_var 0 h,bind_ok,Gr,Option.bind_some,g_p]
 rfl
theorem ax8 {ρ:En}(h:ρ[0]? =some (some (.ref (μ0.length+1)))):Kw oC_Reader "place" (mVar 0) (mC (.int 1)) ρ (sR μ0 ws p)=.ok (.nx ρ) (sR μ0 ws (p+1)):=by
 unfold Kw
 rw[v_var 0 h,bind_ok,Gr,Option.bind_some,g_p]
 show vz oC_Reader "place" ρ (.ref (μ0.length+1)) (.int ((p:Int)+1)) (sR μ0 ws p)=_
 unfold vz
 rw[Gr]
 dsimp only
 rw[if_pos (by decide),aB4]
 show Res.ok (Out.nx ρ) ((sR μ0 ws p).set (μ0.length+1) (.obj "Reader" ["words","place"] [.ref μ0.length,.int ((p+1:Nat):Int)]))=_
 rw[aA4]
theorem aD2 {ρ:En}(h:ρ[0]? =some (some (.ref (μ0.length+1)))):j8 (j0 gLt (z5 oC_Reader "place" (mVar 0)) (jl U1 (mCons (z5 oC_Reader "words" (mVar 0)) mNil))) ρ (sR μ0 ws p)=.ok (decide (p<ws.length)) (sR μ0 ws p):=by
 refine v_test (v_bin (a_p h) (v_callB (d:=.int (ws.length:Nat)) (v_cons (a_w h) v_nil) ?_) ?_)
 ·show U1 [deref (sR μ0 ws p) (.ref μ0.length)]=_
  rw[am5]
  rfl
 ·show some (D.bl (decide ((p:Int)<(ws.length:Int))))=_
  by_cases z:p<ws.length
  ·rw[decide_eq_true z,decide_eq_true (by omega)]
  ·rw[decide_eq_false z,decide_eq_false (by omega)]
theorem a90:jx [.ref (μ0.length+1)] (sR μ0 ws p)=.ok (hd ws p) (sR μ0 ws p):=by
 refine u3 0 (v_ret ?_)
 have t:=aD2 (μ0:=μ0) (ws:=ws) (p:=p) (ρ:=[some (.ref (μ0.length+1))]) rfl
 by_cases z:p<ws.length
 ·rw[decide_eq_true z] at t
  refine(v_ifT t).trans (v_bin (a_w rfl) (a_p rfl) ?_)
  rw[am5]
  show atI ws (p:Int)=_
  rw[Yy (by omega),Int.toNat_natCast]
  unfold hd
  rw[List.getElem?_eq_getElem z]
  rfl
 ·rw[decide_eq_false z] at t
  refine(v5 t).trans ?_
  unfold hd
  rw[List.getElem?_eq_none (by omega)]
  rfl
theorem ac7:ju [.ref (μ0.length+1)] (sR μ0 ws p)=.ok .non (sR μ0 ws (p+1)):=Ft 0 (ax8 rfl)
theorem refuse_eq (hp:p<10000):J1 [.ref (μ0.length+1)] (sR μ0 ws p)=.exc ⟨0,.int ((p+1:Nat):Int)⟩ (sR μ0 ws p):=by
 refine A2 0 ?_
 show V4 0 _ _ _=_
 unfold V4
 rw[v_bin (z:=.int ((p+1:Nat):Int)) (a_p rfl) rfl rfl,bind_ok]
 dsimp only
 rw[if_pos]
 rw[Int.natAbs_natCast]
 exact Nat.lt_of_lt_of_le ((Nat.log2_lt (by omega)).mpr (show p+1<2 ^ 14 by omega)) (by decide)
theorem a27 {m:Str}(h:m∉(["words","place"]:List Str)):Zt "Reader" m (.ref (μ0.length+1)) (sR μ0 ws p)=true:=by
 unfold Zt
 dsimp only
 rw[aH0]
 exact decide_eq_true ⟨rfl,h⟩
theorem ay7 {m:Str}{φ:Fn}{ms:MAs}{ρ:En}{ds:List D}{r:D}{q:Nat}(h0:ρ[0]? =some (some (.ref (μ0.length+1)))) (hm:m∉(["words","place"]:List Str)) (hs:ms ρ (sR μ0 ws p)=.ok ds (sR μ0 ws p)) (hf:φ (.ref (μ0.length+1)::ds) (sR μ0 ws p)=.ok r (sR μ0 ws q)):mMe "Reader" m φ (mVar 0) ms ρ (sR μ0 ws p)=.ok r (sR μ0 ws q):=by
 unfold mMe
 rw[v_var 0 h0,bind_ok,if_pos (a27 hm),hs,bind_ok,hf]
 rfl
theorem Av {m:Str}{φ:Fn}{ms:MAs}{ρ:En}{ds:List D}(h0:ρ[0]? =some (some (.ref (μ0.length+1)))) (hm:m∉(["words","place"]:List Str)) (hs:ms ρ (sR μ0 ws p)=.ok ds (sR μ0 ws p)):yf "Reader" m φ (mVar 0) ms ρ (sR μ0 ws p)=φ (.ref (μ0.length+1)::ds) (sR μ0 ws p):=by
 unfold yf
 rw[v_var 0 h0,bind_ok,if_pos (a27 hm),hs,bind_ok]
theorem m_ahead {ρ:En}(h0:ρ[0]? =some (some (.ref (μ0.length+1)))):mMe "Reader" "ahead" jx (mVar 0) mNil ρ (sR μ0 ws p)=.ok (hd ws p) (sR μ0 ws p):=ay7 h0 (by decide +kernel) rfl a90
theorem m_over {ρ:En}(h0:ρ[0]? =some (some (.ref (μ0.length+1)))):Jr (mMe "Reader" "step_over" ju (mVar 0) mNil) ρ (sR μ0 ws p)=.ok (.nx ρ) (sR μ0 ws (p+1)):=gp (ay7 h0 (by decide +kernel) rfl ac7)
theorem xk {ρ:En}(h0:ρ[0]? =some (some (.ref (μ0.length+1)))) (hp:p<10000):Jr (yf "Reader" "refuse" J1 (mVar 0) mNil) ρ (sR μ0 ws p)=.exc ⟨0,.int ((p+1:Nat):Int)⟩ (sR μ0 ws p):=g8 ((Av h0 (by decide +kernel) rfl).trans (refuse_eq hp))
theorem ag6 {wi:Nat}(h:12<=wi) (hp:p<10000):jg [.ref (μ0.length+1),.int (wi:Nat)] (sR μ0 ws p)=.exc ⟨0,.int ((p+1:Nat):Int)⟩ (sR μ0 ws p):=by
 have t:j8 (j0 gGe (mVar 1) (mC c_MOST_WITHIN)) [some (.ref (μ0.length+1)),some (.int (wi:Nat))] (sR μ0 ws p)=.ok true (sR μ0 ws p):=v_test (v_bin rfl rfl (by
  show some (D.bl (decide ((12:Int)<=(wi:Int))))=_
  rw[decide_eq_true (by omega)]))
 exact A2 0 (Qb ((v_iteT t).trans (xk rfl hp)))
theorem ag5 {wi:Nat}(h:wi<12):jg [.ref (μ0.length+1),.int (wi:Nat)] (sR μ0 ws p)=.ok .non (sR μ0 ws (p+1)):=by
 have t:j8 (j0 gGe (mVar 1) (mC c_MOST_WITHIN)) [some (.ref (μ0.length+1)),some (.int (wi:Nat))] (sR μ0 ws p)=.ok false (sR μ0 ws p):=v_test (v_bin rfl rfl (by
  show some (D.bl (decide ((12:Int)<=(wi:Int))))=_
  rw[decide_eq_false (by omega)]))
 exact Ft 0 ((v_skip t).trans (ax8 rfl))
theorem am1 (hW:WV (hd ws p)) {w:List Nat}(hw:jp (.str w)=true):j8 (j0 gNe (mMe "Reader" "ahead" jx (mVar 0) mNil) (mVar 1)) [some (.ref (μ0.length+1)),some (.str w)] (sR μ0 ws p)=.ok (!isW (hd ws p) w) (sR μ0 ws p):=v_test (v_bin (m_ahead rfl) rfl (by rw[hW.deref];exact hW.ne hw))
theorem aw1 (hW:WV (hd ws p)) {w:List Nat}(hw:jp (.str w)=true) (h:isW (hd ws p) w=false) (hp:p<10000):jb [.ref (μ0.length+1),.str w] (sR μ0 ws p)=.exc ⟨0,.int ((p+1:Nat):Int)⟩ (sR μ0 ws p):=by
 have t:=am1 (μ0:=μ0) hW hw
 rw[h] at t
 exact A2 0 (Qb ((v_iteT t).trans (xk rfl hp)))
theorem aw0 (hW:WV (hd ws p)) {w:List Nat}(hw:jp (.str w)=true) (h:isW (hd ws p) w=true):jb [.ref (μ0.length+1),.str w] (sR μ0 ws p)=.ok .non (sR μ0 ws (p+1)):=by
 have t:=am1 (μ0:=μ0) hW hw
 rw[h] at t
 exact Ft 0 ((v_skip t).trans (ax8 rfl))
end
inductive PR|ok (t:D) (p:Nat)|er (p:Nat)|out
noncomputable def PR.bind:PR->(D->Nat->PR)->PR
 |.ok t p,f=>f t p
 |.er p,_=>.er p
 |.out,_=>.out
noncomputable def ef (p:Nat):PR:=if p<9000 then .er p else .out
noncomputable def opD (ks:List DK) (ds:List D) (d:D):Option D:=(kl d).bind (yi ks ds)
section
variable (ws:List D)
noncomputable def Y9 (w:List Nat) (p:Nat) (k:Nat->PR):PR:=if isW (hd ws p) w=true then k (p+1) else ef p
noncomputable def into (wi p:Nat) (k:Nat->PR):PR:=if 12<=wi then ef p else k (p+1)
noncomputable def lp (T:D->Option D) (f:Nat->PR):Nat->D->Nat->PR
 |0,_,_=>.out
 |n+1,t,p=>match T (hd ws p) with
  |none=>.ok t p
  |some o=>(f (p+1)).bind fun t2 q=>lp T f n (.tup [o,t,t2]) q
noncomputable def gS:Nat->Nat->Nat->Nat->PR
 |0,_,_,_=>.out
 |k+1,i,wi,p=>match i with
  |0=>(gS k 1 wi p).bind fun t q=>lp ws (opD Yj Yf) (fun q=>gS k 1 wi q) 100 t q
  |1=>(gS k 2 wi p).bind fun t q=>lp ws (opD U8 Uz) (fun q=>gS k 2 wi q) 100 t q
  |2=>if(opD Jz Jy (hd ws p)).isSome=true then gS k 3 wi p else if isW (hd ws p) lpW=true then gS k 4 wi p else if isW (hd ws p) w_len=true then .ok (.tup [.str w_len]) (p+1) else match hd ws p with
   |.int i=>.ok (.tup [.str w_number,.int i]) (p+1)
   |_=>ef p
  |3=>match opD Jz Jy (hd ws p) with
   |some sz=>into wi p fun p=>Y9 ws lbW p fun p=>(gS k 0 (wi+1) p).bind fun t q=>Y9 ws rbW q fun q=>.ok (.tup [.str w_load,sz,t]) q
   |none=>.out
  |_=>into wi p fun p=>(gS k 0 (wi+1) p).bind fun t q=>Y9 ws rpW q fun q=>.ok t q
noncomputable def aj (wi p:Nat):PR:=(gS ws 64 0 wi p).bind fun t q=>match opD Je Jd (hd ws q) with
 |none=>ef q
 |some c=>(gS ws 64 0 wi (q+1)).bind fun t2 q2=>.ok (.tup [c,t,t2]) q2
noncomputable def orT (d:D):Option D:=if isW d U0=true then some (.str w_either) else none
noncomputable def ai4 (d:D):Option D:=if isW d Jk=true then some (.str w_both) else none
noncomputable def gF:Nat->Nat->Nat->Nat->PR
 |0,_,_,_=>.out
 |k+1,i,wi,p=>match i with
  |0=>(gF k 1 wi p).bind fun t q=>lp ws orT (fun q=>gF k 1 wi q) 100 t q
  |1=>(gF k 2 wi p).bind fun t q=>lp ws ai4 (fun q=>gF k 2 wi q) 100 t q
  |2=>if isW (hd ws p) Jt=true\/isW (hd ws p) Jw=true then .ok (.tup [.str w_truth,.bl (isW (hd ws p) Jt)]) (p+1) else if isW (hd ws p) w_not=true then into wi p fun p=>(gF k 2 (wi+1) p).bind fun t q=>.ok (.tup [.str w_not,t]) q else if isW (hd ws p) Y3=true then gF k 3 wi p else aj ws wi p
  |_=>into wi p fun p=>Y9 ws lpW p fun p=>(gF k 0 (wi+1) p).bind fun t q=>Y9 ws rpW q fun q=>.ok t q
noncomputable def rdP:PR:=(gF ws 64 0 0 0).bind fun t q=>if q<ws.length then ef q else .ok t q
end
section
variable {μ0:Mu}{ws:List D}
noncomputable def Br (μ0:Mu) (ws:List D) (r:Res D):PR->Prop
 |.ok t q=>r=.ok t (sR μ0 ws q)
 |.er q=>r=.exc ⟨0,.int ((q+1:Nat):Int)⟩ (sR μ0 ws q)
 |.out=>True
noncomputable def BrS (μ0:Mu) (ws:List D) (r:Res Out) (P:D->Out->Prop):PR->Prop
 |.ok t q=>∃o,r=.ok o (sR μ0 ws q)/\P t o
 |.er q=>r=.exc ⟨0,.int ((q+1:Nat):Int)⟩ (sR μ0 ws q)
 |.out=>True
theorem BrS.fn {n:MSt}{es:List D}{j:Nat}{μ:Mu}{r:PR}(h:BrS μ0 ws (n (es.map some++List.replicate j none) μ) (fun t o=>o=.rt t) r):Br μ0 ws (fnOf j n es μ) r:=by
 cases r with
 |ok t q=>obtain⟨o,e,rfl⟩:=h;exact u3 j e
 |er q=>exact A2 j h
 |out=>trivial
theorem BrS.of {r r':Res Out}{P:D->Out->Prop}{x:PR}(e:r=r') (h:BrS μ0 ws r' P x):BrS μ0 ws r P x:=by rw[e];exact h
theorem BrS.set {i:Nat}{m:MX}{r:MSt}{ρ:En}{μ:Mu}{x:PR}{f:D->Nat->PR}{P:D->Out->Prop}(h:Br μ0 ws (m ρ μ) x) (hk:∀t q,BrS μ0 ws (r (ρ.set i (some t)) (sR μ0 ws q)) P (f t q)):BrS μ0 ws (j7 (jr i m) r ρ μ) P (x.bind f):=by
 cases x with
 |ok t q=>exact BrS.of (v_set i h) (hk t q)
 |er q=>exact ay4 h
 |out=>trivial
theorem BrS.ret {m:MX}{ρ:En}{μ:Mu}{x:PR}(h:Br μ0 ws (m ρ μ) x):BrS μ0 ws (jh m ρ μ) (fun t o=>o=.rt t) x:=by
 cases x with
 |ok t q=>exact⟨_,v_ret h,rfl⟩
 |er q=>exact aj0 h
 |out=>trivial
theorem BrS.take {t:MB}{m:MX}{b r:MSt}{ρ:En}{μ:Mu}{x:PR}(ht:t ρ μ=.ok true μ) (h:Br μ0 ws (m ρ μ) x):BrS μ0 ws (j7 (Js t (jh m) b) r ρ μ) (fun t o=>o=.rt t) x:=by
 cases x with
 |ok t q=>exact⟨_,v_take ht h,rfl⟩
 |er q=>exact Qb ((v_iteT ht).trans (aj0 h))
 |out=>trivial
variable (hW:∀p,WV (hd ws p))
theorem BrS.into {r:MSt}{ρ:En}{wi p:Nat}{k:Nat->PR}{P:D->Out->Prop}(h0:ρ[0]? =some (some (.ref (μ0.length+1)))) (h1:ρ[1]? =some (some (.int (wi:Nat)))) (hk:BrS μ0 ws (r ρ (sR μ0 ws (p+1))) P (k (p+1))):BrS μ0 ws (j7 (Jr (yf "Reader" "step_into" jg (mVar 0) (mCons (mVar 1) mNil))) r ρ (sR μ0 ws p)) P (K11.into wi p k):=by
 have e:=Av (μ0:=μ0) (ws:=ws) (p:=p) (m:="step_into") (φ:=jg) (ms:=mCons (mVar 1) mNil) h0 (by decide +kernel) (v_cons (v_var 1 h1) v_nil)
 unfold K11.into
 by_cases hw:12<=wi
 ·rw[if_pos hw]
  unfold ef
  split
  ·rename_i hp
   exact Qb (g8 (e.trans (ag6 hw (by omega))))
  ·trivial
 ·rw[if_neg hw]
  exact BrS.of (v_seqN (gp (e.trans (ag5 (by omega))))) hk
include hW in
theorem BrS.exp {r:MSt}{ρ:En}{p:Nat}{w:List Nat}{k:Nat->PR}{P:D->Out->Prop}(h0:ρ[0]? =some (some (.ref (μ0.length+1)))) (hw:jp (.str w)=true) (hk:BrS μ0 ws (r ρ (sR μ0 ws (p+1))) P (k (p+1))):BrS μ0 ws (j7 (Jr (yf "Reader" "expect" jb (mVar 0) (mCons (mC (.str w)) mNil))) r ρ (sR μ0 ws p)) P (Y9 ws w p k):=by
 have e:=Av (μ0:=μ0) (ws:=ws) (p:=p) (m:="expect") (φ:=jb) (ms:=mCons (mC (.str w)) mNil) h0 (by decide +kernel) rfl
 unfold Y9
 cases hq:isW (hd ws p) w with
 |false =>
  rw[if_neg (by simp)]
  unfold ef
  split
  ·rename_i hp
   exact Qb (g8 (e.trans (aw1 (hW p) hw hq (by omega))))
  ·trivial
 |true =>
  rw[if_pos rfl]
  exact BrS.of (v_seqN (gp (e.trans (aw0 (hW p) hw hq)))) hk
theorem ak6 {d:D}(h:WV d) (neg:Bool) (ks:List DK) (ds:List D):zh neg d (.dic ks ds)=some (.bl (if neg then !(opD ks ds d).isSome else(opD ks ds d).isSome)):=by
 cases h with
 |non=>cases neg<;>rfl
 |int=>rfl
 |str _=>rfl
theorem ao3 {m3 m2:MX}{φ:Fn}{ms:MAs}{ρ:En}{μ:Mu}{a b:D}{ds:List D}(h3:m3 ρ μ=.ok a μ) (h2:m2 ρ μ=.ok b μ) (hs:ms ρ μ=.ok ds μ):Jo (mCons m3 (mCons m2 (mCons (J9 φ ms) mNil))) ρ μ=(φ ds μ).bind fun t μ2=>.ok (.tup [a,b,t]) μ2:=by
 unfold Jo
 rw[wp,h3,bind_ok,Wj,wp,h2,bind_ok,Wj,wp,v_callX hs]
 cases φ ds μ<;>rfl
theorem Br.map {r:Res D}{x:PR}{g:D->D}(h:Br μ0 ws r x):Br μ0 ws (r.bind fun t μ2=>.ok (g t) μ2) (x.bind fun t q=>.ok (g t) q):=by
 cases x with
 |ok t q=>have h:r=_:=h;rw[h];rfl
 |er q=>have h:r=_:=h;rw[h];rfl
 |out=>trivial
theorem a49 {T:D->Option D}{f:Nat->PR}{tst:MB}{body:MSt}{S:D->En->Prop}
  (ht:∀t p ρ,S t ρ->tst ρ (sR μ0 ws p)=.ok (T (hd ws p)).isSome (sR μ0 ws p))
  (hb:∀t p ρ o,S t ρ->T (hd ws p)=some o->BrS μ0 ws (body ρ (sR μ0 ws p)) (fun t2 r=>∃ρ',r=.nx ρ'/\S (.tup [o,t,t2]) ρ') (f (p+1))) :
  ∀(n:Nat) (t:D) (p:Nat) (ρ:En),S t ρ->BrS μ0 ws (Uj tst body n ρ (sR μ0 ws p)) (fun t2 r=>∃ρ',r=.nx ρ'/\S t2 ρ') (lp ws T f n t p)
 |0,_,_,_,_=>trivial
 |n+1,t,p,ρ,h=>by
  have t1:=ht t p ρ h
  unfold lp Uj
  cases hT:T (hd ws p) with
  |none =>
   rw[hT] at t1
   exact⟨.nx ρ,by rw[t1];rfl,ρ,rfl,h⟩
  |some o =>
   rw[hT] at t1
   have b1:=hb t p ρ o h hT
   rw[t1,bind_ok]
   show BrS μ0 ws ((body ρ (sR μ0 ws p)).bind _) _ ((f (p+1)).bind _)
   cases hf:f (p+1) with
   |ok t2 q =>
    rw[hf] at b1
    obtain⟨r,e,ρ',rfl,hS⟩:=b1
    rw[e]
    exact a49 ht hb n _ q ρ' hS
   |er q =>
    rw[hf] at b1
    have b1:body ρ (sR μ0 ws p)=_:=b1
    rw[b1]
    rfl
   |out=>trivial
theorem BrS.wh {T:D->Option D}{f:Nat->PR}{tst:MB}{body r:MSt}{S:D->En->Prop}{n:Nat}{t:D}{p:Nat}{ρ:En}
  (h:BrS μ0 ws (Uj tst body n ρ (sR μ0 ws p)) (fun t2 r=>∃ρ',r=.nx ρ'/\S t2 ρ') (lp ws T f n t p)) (hk:∀t2 q ρ',S t2 ρ'->r ρ' (sR μ0 ws q)=.ok (.rt t2) (sR μ0 ws q)):BrS μ0 ws (j7 (yu n tst body) r ρ (sR μ0 ws p)) (fun t o=>o=.rt t) (lp ws T f n t p):=by
 cases hq:lp ws T f n t p with
 |ok t2 q =>
  rw[hq] at h
  obtain⟨o,e,ρ',rfl,hS⟩:=h
  exact⟨_,(v_seqN e).trans (hk t2 q ρ' hS),rfl⟩
 |er q =>
  rw[hq] at h
  exact Qb h
 |out=>trivial
end
section
variable {μ0:Mu}{ws:List D}
theorem Br.of {r r':Res D}{x:PR}(e:r=r') (h:Br μ0 ws r' x):Br μ0 ws r x:=by rw[e];exact h
theorem BrS.tset {i:Nat}{ρ:En}{μ:Mu}{m:MX}{r:Res D}{x:PR}{g:D->D}{P:D->Out->Prop}(e:m ρ μ=r.bind fun t μ2=>.ok (g t) μ2) (h:Br μ0 ws r x) (hP:∀t,P t (.nx (ρ.set i (some (g t))))):BrS μ0 ws (jr i m ρ μ) P x:=by
 unfold jr
 rw[e]
 cases x with
 |ok t q=>have h:r=_:=h;rw[h];exact⟨_,rfl,hP t⟩
 |er q=>have h:r=_:=h;rw[h];rfl
 |out=>trivial
theorem BrS.skip {t:MB}{a r:MSt}{ρ:En}{μ:Mu}{P:D->Out->Prop}{x:PR}(ht:t ρ μ=.ok false μ) (h:BrS μ0 ws (r ρ μ) P x):BrS μ0 ws (j7 (Js t a jf) r ρ μ) P x:=BrS.of (v_skip ht) h
theorem BrS.refuse {t:MB}{b r:MSt}{ρ:En}{p:Nat}{P:D->Out->Prop}(h0:ρ[0]? =some (some (.ref (μ0.length+1)))) (ht:t ρ (sR μ0 ws p)=.ok true (sR μ0 ws p)):BrS μ0 ws (j7 (Js t (Jr (yf "Reader" "refuse" J1 (mVar 0) mNil)) b) r ρ (sR μ0 ws p)) P (ef p):=by
 unfold ef
 split
 ·exact Qb ((v_iteT ht).trans (xk h0 (by omega)))
 ·trivial
variable (hW:∀p,WV (hd ws p))
include hW
theorem aE6 {ks:List DK}{ds:List D}{m:MX}{ρ:En}{p:Nat}(h:m ρ (sR μ0 ws p)=.ok (hd ws p) (sR μ0 ws p)):j8 (j0 (zh false) m (mC (.dic ks ds))) ρ (sR μ0 ws p)=.ok (opD ks ds (hd ws p)).isSome (sR μ0 ws p):=v_test (v_bin h rfl (by rw[(hW p).deref];exact ak6 (hW p) false _ _))
theorem aC9 {ks:List DK}{ds:List D}{m:MX}{ρ:En}{p:Nat}(h:m ρ (sR μ0 ws p)=.ok (hd ws p) (sR μ0 ws p)):j8 (j0 (zh true) m (mC (.dic ks ds))) ρ (sR μ0 ws p)=.ok (!(opD ks ds (hd ws p)).isSome) (sR μ0 ws p):=v_test (v_bin h rfl (by rw[(hW p).deref];exact ak6 (hW p) true _ _))
theorem ah3 {w:List Nat}(hw:jp (.str w)=true) {m:MX}{ρ:En}{p:Nat}(h:m ρ (sR μ0 ws p)=.ok (hd ws p) (sR μ0 ws p)):j8 (j0 gEq m (mC (.str w))) ρ (sR μ0 ws p)=.ok (isW (hd ws p) w) (sR μ0 ws p):=v_test (v_bin h rfl (by rw[(hW p).deref];exact(hW p).eq hw))
theorem get_t {ks:List DK}{ds:List D}{m:MX}{ρ:En}{p:Nat}{o:D}(h:m ρ (sR μ0 ws p)=.ok (hd ws p) (sR μ0 ws p)) (e:opD ks ds (hd ws p)=some o):j0 y7 (mC (.dic ks ds)) m ρ (sR μ0 ws p)=.ok o (sR μ0 ws p):=v_bin rfl h (by rw[(hW p).deref];exact e)
noncomputable abbrev cA2:MAs:=mCons (mVar 0) (mCons (mVar 1) mNil)
theorem al1 {R:Nat->Fn}{j wi:Nat}{ks:List DK}{ds:List D}{f:Nat->PR}(hR:∀q,Br μ0 ws (R j [.ref (μ0.length+1),.int (wi:Nat)] (sR μ0 ws q)) (f q)) (t:D) (p:Nat) :
  BrS μ0 ws (j7 (yu 100 (j8 (j0 (zh false) (mMe "Reader" "ahead" jx (mVar 0) mNil) (mC (.dic ks ds)))) (j7 (jr 3 (j0 y7 (mC (.dic ks ds)) (mMe "Reader" "ahead" jx (mVar 0) mNil)))
  (j7 (Jr (mMe "Reader" "step_over" ju (mVar 0) mNil))
  (jr 2 (Jo (mCons (mVar 3) (mCons (mVar 2) (mCons (J9 (R j) cA2) mNil)))))))) (jh (mVar 2)) [some (.ref (μ0.length+1)),some (.int (wi:Nat)),some t,none] (sR μ0 ws p)) (fun t o=>o=.rt t) (lp ws (opD ks ds) f 100 t p):=by
 refine BrS.wh (S:=fun t ρ=>∃e3,ρ=[some (.ref (μ0.length+1)),some (.int (wi:Nat)),some t,e3]) (a49 ?_ ?_ 100 t p _ ⟨none,rfl⟩) ?_
 ·rintro t p _ ⟨e3,rfl⟩
  exact aE6 hW (m_ahead rfl)
 ·rintro t p _ o ⟨e3,rfl⟩ ho
  refine BrS.of ((v_set 3 (get_t hW (m_ahead rfl) ho)).trans (v_seqN (m_over rfl))) ?_
  exact BrS.tset (g:=fun t2=>.tup [o,t,t2]) (ao3 rfl rfl rfl) (hR (p+1)) fun t2=>⟨_,rfl,some o,rfl⟩
 ·rintro t2 q _ ⟨e3,rfl⟩
  exact v_ret rfl
theorem s_br:∀(k i wi p:Nat),Br μ0 ws (jv k i [.ref (μ0.length+1),.int (wi:Nat)] (sR μ0 ws p)) (gS ws k i wi p)
 |0,_,_,_=>trivial
 |k+1,0,wi,p=>by
  show Br μ0 ws (fnOf 2 (Zv (jv k)) _ _) ((gS ws k 1 wi p).bind _)
  exact BrS.fn (BrS.set (Br.of (v_callX rfl) (s_br k 1 wi p)) fun t q=>al1 hW (fun q=>s_br k 1 wi q) t q)
 |k+1,1,wi,p=>by
  show Br μ0 ws (fnOf 2 (yq (jv k)) _ _) ((gS ws k 2 wi p).bind _)
  exact BrS.fn (BrS.set (Br.of (v_callX rfl) (s_br k 2 wi p)) fun t q=>al1 hW (fun q=>s_br k 2 wi q) t q)
 |k+1,2,wi,p=>by
  have e:gS ws (k+1) 2 wi p=if(opD Jz Jy (hd ws p)).isSome=true then gS ws k 3 wi p else if isW (hd ws p) lpW=true then gS ws k 4 wi p else if isW (hd ws p) w_len=true then .ok (.tup [.str w_len]) (p+1) else match hd ws p with
   |.int i=>.ok (.tup [.str w_number,.int i]) (p+1)
   |_=>ef p:=rfl
  rw[e]
  show Br μ0 ws (fnOf 1 (Yc (jv k)) _ _) _
  refine BrS.fn (BrS.of (v_set 2 (m_ahead rfl)) ?_)
  have t1:=aE6 (μ0:=μ0) hW (ks:=Jz) (ds:=Jy) (m:=mVar 2) (ρ:=[some (.ref (μ0.length+1)),some (.int (wi:Nat)),some (hd ws p)]) (p:=p) rfl
  have t2:=ah3 (μ0:=μ0) hW (w:=lpW) (by decide) (m:=mVar 2) (ρ:=[some (.ref (μ0.length+1)),some (.int (wi:Nat)),some (hd ws p)]) (p:=p) rfl
  have t3:=ah3 (μ0:=μ0) hW (w:=w_len) (by decide) (m:=mVar 2) (ρ:=[some (.ref (μ0.length+1)),some (.int (wi:Nat)),some (hd ws p)]) (p:=p) rfl
  cases h1:(opD Jz Jy (hd ws p)).isSome with
  |true =>
   rw[h1] at t1
   rw[if_pos rfl]
   exact BrS.take t1 (Br.of (v_callX rfl) (s_br k 3 wi p))
  |false =>
   rw[h1] at t1
   rw[if_neg (by simp)]
   refine BrS.skip t1 ?_
   cases h2:isW (hd ws p) lpW with
   |true =>
    rw[h2] at t2
    rw[if_pos rfl]
    exact BrS.take t2 (Br.of (v_callX rfl) (s_br k 4 wi p))
   |false =>
    rw[h2] at t2
    rw[if_neg (by simp)]
    refine BrS.skip t2 ?_
    cases h3:isW (hd ws p) w_len with
    |true =>
     rw[h3] at t3
     rw[if_pos rfl]
     exact⟨_,v_seqR ((v_iteT t3).trans ((v_seqN (m_over rfl)).trans (v_ret rfl))),rfl⟩
    |false =>
     rw[h3] at t3
     rw[if_neg (by simp)]
     refine BrS.skip t3 ?_
     have hw:=hW p
     cases hq:hd ws p with
     |int i =>
      refine⟨_,(v_skip (cg (k:=true) (Yp (d:=.bl true) rfl rfl))).trans ((v_seqN (m_over rfl)).trans (v_ret rfl)),rfl⟩
     |str x=>exact BrS.refuse rfl (cg (k:=false) (Yp (d:=.bl false) rfl rfl))
     |non=>exact BrS.refuse rfl (cg (k:=false) (Yp (d:=.bl false) rfl rfl))
     |_=>rw[hq] at hw;cases hw
 |k+1,3,wi,p=>by
  have e:gS ws (k+1) 3 wi p=match opD Jz Jy (hd ws p) with
   |some sz=>into wi p fun p=>Y9 ws lbW p fun p=>(gS ws k 0 (wi+1) p).bind fun t q=>Y9 ws rbW q fun q=>.ok (.tup [.str w_load,sz,t]) q
   |none=>.out:=rfl
  rw[e]
  cases ho:opD Jz Jy (hd ws p) with
  |none=>trivial
  |some sz =>
   show Br μ0 ws (fnOf 2 (zq (jv k)) _ _) _
   refine BrS.fn (BrS.of (v_set 2 (get_t hW (m_ahead rfl) ho)) (BrS.into rfl rfl (BrS.exp hW rfl (by decide) (BrS.set (Br.of (v_callX rfl) (s_br k 0 (wi+1) _)) fun t q=>BrS.exp hW rfl (by decide) ⟨_,v_ret rfl,rfl⟩))))
 |k+1,i+4,wi,p=>by
  show Br μ0 ws (fnOf 1 (yp (jv k)) _ _) (into wi p fun p=>(gS ws k 0 (wi+1) p).bind fun t q=>Y9 ws rpW q fun q=>.ok t q)
  exact BrS.fn (BrS.into rfl rfl (BrS.set (Br.of (v_callX rfl) (s_br k 0 (wi+1) _)) fun t q=>BrS.exp hW rfl (by decide) ⟨_,v_ret rfl,rfl⟩))
end
section
variable {μ0:Mu}{ws:List D}
theorem BrS.iteT {t:MB}{a b r:MSt}{ρ:En}{μ:Mu}{x:PR}(ht:t ρ μ=.ok true μ) (h:BrS μ0 ws (a ρ μ) (fun t o=>o=.rt t) x):BrS μ0 ws (j7 (Js t a b) r ρ μ) (fun t o=>o=.rt t) x:=by
 cases x with
 |ok t q=>obtain⟨o,e,rfl⟩:=h;exact⟨_,v_seqR ((v_iteT ht).trans e),rfl⟩
 |er q=>exact Qb ((v_iteT ht).trans h)
 |out=>trivial
theorem tup2 {m3:MX}{φ:Fn}{ms:MAs}{ρ:En}{μ:Mu}{a:D}{ds:List D}(h3:m3 ρ μ=.ok a μ) (hs:ms ρ μ=.ok ds μ):Jo (mCons m3 (mCons (J9 φ ms) mNil)) ρ μ=(φ ds μ).bind fun t μ2=>.ok (.tup [a,t]) μ2:=by
 unfold Jo
 rw[wp,h3,bind_ok,Wj,wp,v_callX hs]
 cases φ ds μ<;>rfl
variable (hW:∀p,WV (hd ws p))
include hW
theorem c_br (wi p:Nat):Br μ0 ws (u8 [.ref (μ0.length+1),.int (wi:Nat)] (sR μ0 ws p)) (aj ws wi p):=by
 refine BrS.fn (BrS.set (Br.of (v_callX rfl) (s_br hW 64 0 wi p)) fun t q=>BrS.of (v_set 3 (m_ahead rfl)) ?_)
 have t1:=aC9 (μ0:=μ0) hW (ks:=Je) (ds:=Jd) (m:=mVar 3) (ρ:=[some (.ref (μ0.length+1)),some (.int (wi:Nat)),some t,some (hd ws q)]) (p:=q) rfl
 cases ho:opD Je Jd (hd ws q) with
 |none =>
  rw[ho] at t1
  exact BrS.refuse rfl t1
 |some c =>
  rw[ho] at t1
  refine BrS.skip t1 (BrS.of (v_seqN (m_over rfl)) (BrS.ret (Br.of (ao3 (a:=c) (b:=t) (v_bin rfl rfl (by rw[(hW q).deref];exact ho)) rfl rfl) ?_)))
  exact Br.map (g:=fun t2=>.tup [c,t,t2]) (s_br hW 64 0 wi (q+1))
theorem al2 {R:Nat->Fn}{j wi:Nat}{w o:List Nat}{f:Nat->PR}{T:D->Option D}(hT:∀d,T d=if isW d w=true then some (.str o) else none) (hw:jp (.str w)=true) (hR:∀q,Br μ0 ws (R j [.ref (μ0.length+1),.int (wi:Nat)] (sR μ0 ws q)) (f q)) (t:D) (p:Nat) :
  BrS μ0 ws (j7 (yu 100 (j8 (j0 gEq (mMe "Reader" "ahead" jx (mVar 0) mNil) (mC (.str w)))) (j7 (Jr (mMe "Reader" "step_over" ju (mVar 0) mNil))
  (jr 2 (Jo (mCons (mC (.str o)) (mCons (mVar 2) (mCons (J9 (R j) cA2) mNil))))))) (jh (mVar 2)) [some (.ref (μ0.length+1)),some (.int (wi:Nat)),some t] (sR μ0 ws p)) (fun t o=>o=.rt t) (lp ws T f 100 t p):=by
 refine BrS.wh (S:=fun t ρ=>ρ=[some (.ref (μ0.length+1)),some (.int (wi:Nat)),some t]) (a49 ?_ ?_ 100 t p _ rfl) ?_
 ·rintro t p _ rfl
  rw[hT]
  have:=ah3 (μ0:=μ0) hW hw (m:=mMe "Reader" "ahead" jx (mVar 0) mNil) (ρ:=[some (.ref (μ0.length+1)),some (.int (wi:Nat)),some t]) (p:=p) (m_ahead rfl)
  rw[this]
  cases isW (hd ws p) w<;>rfl
 ·rintro t p _ o' rfl ho
  rw[hT] at ho
  obtain rfl:o'=.str o:=by
   split at ho
   ·exact(Option.some.inj ho).symm
   ·cases ho
  exact BrS.of (v_seqN (m_over rfl)) (BrS.tset (g:=fun t2=>.tup [.str o,t,t2]) (ao3 rfl rfl rfl) (hR (p+1)) fun t2=>⟨_,rfl,rfl⟩)
 ·rintro t2 q _ rfl
  exact v_ret rfl
theorem f_br:∀(k i wi p:Nat),Br μ0 ws (jw k i [.ref (μ0.length+1),.int (wi:Nat)] (sR μ0 ws p)) (gF ws k i wi p)
 |0,_,_,_=>trivial
 |k+1,0,wi,p=>by
  show Br μ0 ws (fnOf 1 (yb (jw k)) _ _) ((gF ws k 1 wi p).bind _)
  exact BrS.fn (BrS.set (Br.of (v_callX rfl) (f_br k 1 wi p)) fun t q=>al2 hW (fun _=>rfl) (by decide) (fun q=>f_br k 1 wi q) t q)
 |k+1,1,wi,p=>by
  show Br μ0 ws (fnOf 1 (Yd (jw k)) _ _) ((gF ws k 2 wi p).bind _)
  exact BrS.fn (BrS.set (Br.of (v_callX rfl) (f_br k 2 wi p)) fun t q=>al2 hW (fun _=>rfl) (by decide) (fun q=>f_br k 2 wi q) t q)
 |k+1,2,wi,p=>by
  have e:gF ws (k+1) 2 wi p=if isW (hd ws p) Jt=true\/isW (hd ws p) Jw=true then .ok (.tup [.str w_truth,.bl (isW (hd ws p) Jt)]) (p+1) else if isW (hd ws p) w_not=true then into wi p fun p=>(gF ws k 2 (wi+1) p).bind fun t q=>.ok (.tup [.str w_not,t]) q else if isW (hd ws p) Y3=true then gF ws k 3 wi p else aj ws wi p:=rfl
  rw[e]
  show Br μ0 ws (fnOf 1 (zr (jw k)) _ _) _
  refine BrS.fn (BrS.of (v_set 2 (m_ahead rfl)) ?_)
  have eqs:∀{w:List Nat},jp (.str w)=true->j8 (j0 gEq (mVar 2) (mC (.str w))) [some (.ref (μ0.length+1)),some (.int (wi:Nat)),some (hd ws p)] (sR μ0 ws p)=.ok (isW (hd ws p) w) (sR μ0 ws p):=fun hw=>ah3 (μ0:=μ0) hW hw rfl
  have t1:=eqs (w:=Jt) (by decide)
  have t2:=eqs (w:=Jw) (by decide)
  have t3:=eqs (w:=w_not) (by decide)
  have t4:=eqs (w:=Y3) (by decide)
  by_cases h1:isW (hd ws p) Jt=true\/isW (hd ws p) Jw=true
  ·rw[if_pos h1]
   have tt:mOr (j8 (j0 gEq (mVar 2) (mC (.str Jt)))) (j8 (j0 gEq (mVar 2) (mC (.str Jw)))) [some (.ref (μ0.length+1)),some (.int (wi:Nat)),some (hd ws p)] (sR μ0 ws p)=.ok true (sR μ0 ws p):=by
    cases hq:isW (hd ws p) Jt with
    |true=>rw[hq] at t1;exact v_orT t1
    |false =>
     rw[hq] at t1
     rcases h1 with z|z
     ·rw[hq] at z;cases z
     ·rw[z] at t2;exact(v_orF t1).trans t2
   refine BrS.iteT tt (BrS.of (v_seqN (m_over rfl)) ⟨_,v_ret (v_tup (v_cons rfl (v_cons (v_bin rfl rfl ?_) v_nil))),rfl⟩)
   rw[(hW p).deref]
   exact(hW p).eq (by decide)
  ·rw[if_neg h1]
   have f1:isW (hd ws p) Jt=false:=by
    cases hq:isW (hd ws p) Jt with
    |true=>exact absurd (.inl hq) h1
    |false=>rfl
   have f2:isW (hd ws p) Jw=false:=by
    cases hq:isW (hd ws p) Jw with
    |true=>exact absurd (.inr hq) h1
    |false=>rfl
   rw[f1] at t1
   rw[f2] at t2
   refine BrS.skip ((v_orF t1).trans t2) ?_
   cases h3:isW (hd ws p) w_not with
   |true =>
    rw[h3] at t3
    rw[if_pos rfl]
    refine BrS.iteT t3 (BrS.into rfl rfl (BrS.ret (Br.of (tup2 (a:=.str w_not) rfl rfl) ?_)))
    exact Br.map (g:=fun t=>.tup [.str w_not,t]) (f_br k 2 (wi+1) (p+1))
   |false =>
    rw[h3] at t3
    rw[if_neg (by simp)]
    refine BrS.skip t3 ?_
    cases h4:isW (hd ws p) Y3 with
    |true =>
     rw[h4] at t4
     rw[if_pos rfl]
     exact BrS.take t4 (Br.of (v_callX rfl) (f_br k 3 wi p))
    |false =>
     rw[h4] at t4
     rw[if_neg (by simp)]
     exact BrS.skip t4 (BrS.ret (Br.of (v_callX rfl) (c_br hW wi p)))
 |k+1,i+3,wi,p=>by
  show Br μ0 ws (fnOf 1 (qr (jw k)) _ _) (into wi p fun p=>Y9 ws lpW p fun p=>(gF ws k 0 (wi+1) p).bind fun t q=>Y9 ws rpW q fun q=>.ok t q)
  exact BrS.fn (BrS.into rfl rfl (BrS.exp hW rfl (by decide) (BrS.set (Br.of (v_callX rfl) (f_br k 0 (wi+1) _)) fun t q=>BrS.exp hW rfl (by decide) ⟨_,v_ret rfl,rfl⟩)))
end
theorem new_eq {x:List Nat}(hx:Tx0 x) {ws:List D}(h:Lx x ws) (μ0:Mu) {ρ:En}(hρ:ρ[0]? =some (some (.str x))):af9 "Reader" um (mCons (j9 y9 (mCons (mVar 0) mNil)) mNil) ρ μ0=.ok (.ref (μ0.length+1)) (sR μ0 ws 0):=by
 have e1:mCons (j9 y9 (mCons (mVar 0) mNil)) mNil ρ μ0=.ok [.ref μ0.length] (μ0++[.lst ws]):=v_cons (v_call (v_cons (v_var 0 hρ) v_nil) (A5 hx h μ0)) v_nil
 have hl:(μ0++[Cell.lst ws]).length=μ0.length+1:=by simp
 have at1:∀{c:Cell},(μ0++[Cell.lst ws]++[c])[μ0.length+1]? =some c:=fun{c}=>by
  rw[List.getElem?_append_right (by simp)]
  simp
 have st1:∀{c d:Cell},(μ0++[Cell.lst ws]++[c]).set (μ0.length+1) d=μ0++[Cell.lst ws]++[d]:=fun{c d}=>by
  rw[List.set_append_right _ _ (by simp)]
  simp
 have od:∀{ns:List Str}{ds:List D},Wx oC_Reader (.ref (μ0.length+1)) (μ0++[.lst ws]++[.obj "Reader" ns ds])=some (μ0.length+1,("Reader":Str),ns,ds):=fun{ns ds}=>by
  unfold Wx
  dsimp only
  rw[at1]
  exact if_pos (by decide +kernel)
 have ei:um [.ref (μ0.length+1),.ref μ0.length] (μ0++[.lst ws]++[.obj "Reader" [] []])=.ok .non (sR μ0 ws 0):=by
  refine Ft 0 ((v_seqN (ρ1:=[some (.ref (μ0.length+1)),some (.ref μ0.length)]) (μ1:=μ0++[.lst ws]++[.obj "Reader" ["words"] [.ref μ0.length]]) ?_).trans (?_:_=Res.ok (Out.nx [some (.ref (μ0.length+1)),some (.ref μ0.length)]) (sR μ0 ws 0)))
  ·show vz oC_Reader "words" [some (.ref (μ0.length+1)),some (.ref μ0.length)] (.ref (μ0.length+1)) (.ref μ0.length) (μ0++[.lst ws]++[.obj "Reader" [] []])=_
   unfold vz
   rw[od]
   dsimp only
   rw[if_pos (by decide),st1]
   rfl
  ·show vz oC_Reader "place" [some (.ref (μ0.length+1)),some (.ref μ0.length)] (.ref (μ0.length+1)) (.int 0) (μ0++[.lst ws]++[.obj "Reader" ["words"] [.ref μ0.length]])=_
   unfold vz
   rw[od]
   dsimp only
   rw[if_pos (by decide)]
   have:putN "place" (.int 0) ["words"] [.ref μ0.length]=((["words","place"]:List Str),([.ref μ0.length,.int 0]:List D)):=by
    unfold putN
    rw[if_neg (by decide +kernel)]
    rfl
   rw[this,st1]
   rfl
 unfold af9
 rw[e1,bind_ok]
 unfold ae1
 rw[hl,ei]
 rfl
theorem aa7 {x:List Nat}(hx:Tx0 x) {ws:List D}(h:Lx x ws) (hW:∀p,WV (hd ws p)) (μ0:Mu):Br μ0 ws (U9 [.str x] μ0) (rdP ws):=by
 refine BrS.fn (BrS.of (v_set 1 (new_eq hx h μ0 rfl)) (BrS.set (Br.of (v_callX rfl) (f_br hW 64 0 0 0)) fun t q=>?_))
 have t1:=aD2 (μ0:=μ0) (ws:=ws) (p:=q) (ρ:=[some (.ref (μ0.length+1))]) rfl
 have em:yf "Reader" "expect_end" Jb (mVar 1) mNil [some (.str x),some (.ref (μ0.length+1)),some t] (sR μ0 ws q)=Jb [.ref (μ0.length+1)] (sR μ0 ws q):=by
  unfold yf
  rw[v_var 1 rfl,bind_ok,if_pos (a27 (by decide +kernel))]
  rfl
 by_cases hq:q<ws.length
 ·rw[if_pos hq]
  rw[decide_eq_true hq] at t1
  unfold ef
  split
  ·rename_i hp
   exact Qb (g8 (em.trans (A2 0 ((v_iteT t1).trans (xk rfl (by omega))))))
  ·trivial
 ·rw[if_neg hq]
  rw[decide_eq_false hq] at t1
  exact⟨_,(v_seqN (gp (em.trans (Ft 0 (v_iteF t1))))).trans (v_ret rfl),rfl⟩
noncomputable def cell (ns:List Int) (k:Nat):Int:=if ns=[] then 0 else ns.getD (k % ns.length) 0
noncomputable def sc (ns:List Int):D:=.lst (ns.map .int)
theorem ai0 (ns:List Int) (k:Nat) (μ:Mu):c6 [sc ns,.int k] μ=.ok (.int (cell ns k)) μ:=by
 cases ns with
 |nil=>rfl
 |cons n r =>
  refine u3 0 (v_take rfl (v_bin rfl (v_bin rfl (v_callB (d:=.int (List.map D.int (n::r)).length) rfl rfl) (W5 _ _ ?_)) ?_))
  ·rw[List.length_map,List.length_cons];omega
  ·show atI ((n::r).map D.int) ((k:Int) % ((List.map D.int (n::r)).length:Nat))=_
   rw[Yy (Int.emod_nonneg _ (by rw[List.length_map,List.length_cons];omega))]
   have e2:((k:Int) % ((List.map D.int (n::r)).length:Nat)).toNat=k % (n::r).length:=by
    rw[List.length_map]
    omega
   have hk:k % (n::r).length<(n::r).length:=Nat.mod_lt _ (by simp)
   rw[e2,List.getElem?_map,List.getElem?_eq_getElem hk]
   simp only[cell,reduceCtorEq,if_false,Option.map_some]
   rw[List.getD_eq_getElem?_getD,List.getElem?_eq_getElem hk]
   rfl
noncomputable def eh (c:Int) (k:Nat):Int:=(c+104729*((k:Int)+1)) % 4294967291*48271 % 4294967279
noncomputable def mix (ns:List Int) (k:Nat):Int:=(eh (cell ns k) k / 64*69621+eh (cell ns k) k) % 4294967231
theorem at6 (ns:List Int) (k:Nat) (μ:Mu):u6 [sc ns,.int k] μ=.ok (.int (mix ns k)) μ:=by
 refine u3 1 ((v_set 2 (d:=.int ((cell ns k+104729*((k:Int)+1)) % 4294967291)) (v_bin (v_bin (v_call rfl (ai0 ns k μ)) (v_bin rfl (v_bin rfl rfl rfl) (Da _ _ (by decide) (by decide))) rfl) rfl (W5 _ _ (by decide)))).trans
  ((v_set 2 (d:=.int (eh (cell ns k) k)) (v_bin (v_bin rfl rfl (a65 _ _ (by decide) (by decide))) rfl (W5 _ _ (by decide)))).trans (v_ret ?_)))
 exact v_bin (x:=.int (eh (cell ns k) k / 64*69621+eh (cell ns k) k)) (v_bin (x:=.int (eh (cell ns k) k / 64*69621)) (v_bin (x:=.int (eh (cell ns k) k / 64)) (v_bin (x:=.int (eh (cell ns k) k)) rfl rfl (al6 _ _ (by decide) (by decide))) rfl (a65 _ _ (by decide) (by decide))) rfl rfl) rfl (W5 _ _ (by decide))
theorem Dj (ns:List Int) (k:Nat):0<=mix ns k:=Int.emod_nonneg _ (by decide)
noncomputable def iL (L:List Nat):List D:=L.map fun(g:Nat)=>D.int g
theorem gu {m:MX}{ρ:En}{μ:Mu}{n:Nat}(h:m ρ μ=.ok (.int n) μ) (hn:n<1000000):Y8 m ρ μ=.ok (iL (List.range' 0 n)) μ:=by
 rw[a76,h,bind_ok,ar]
 unfold Xr
 dsimp only
 rw[if_pos (by constructor<;>omega),Int.toNat_natCast,ofO_some]
 unfold Xg
 rw[List.range_eq_range']
 rfl
theorem fq (p m:Nat):iL (List.range' p (m+1))=D.int p::iL (List.range' (p+1) m):=by rw[List.range'_succ];rfl
theorem Au {tg:MG}{m:MX}{d x:D}{ds acc:List D}{ρ ρ1:En}{μ:Mu}(ht:tg d ρ=some ρ1) (hm:m ρ1 μ=.ok x μ):J6 tg mTT m (d::ds) ρ μ acc=J6 tg mTT m ds ρ1 μ (acc++[x]):=by
 rw[J6,ht]
 show(noX (m ρ1 μ)).bind _=_
 rw[hm]
 rfl
theorem Ck {ns:List Int}{k n:Nat}(h:0<n):∃a:Nat,a<n/\mix ns k % (n:Int)=(a:Int):=by
 have a1:=Int.emod_nonneg (mix ns k) (b:=(n:Int)) (by omega)
 have a2:=Int.emod_lt_of_pos (mix ns k) (b:=(n:Int)) (by omega)
 exact⟨(mix ns k % (n:Int)).toNat,by omega,by omega⟩
noncomputable def opL:List (List Nat):=[Uh,ue,ug,Ug,Ju,Jk,U0,Ya,Ue,uf]
noncomputable def opw (n:Int):List Nat:=opL.getD (n % 10).toNat []
theorem ac8 (n:Int):opw n∈opL:=by
 unfold opw
 have hk:(n % 10).toNat<opL.length:=by show _<10;omega
 rw[List.getD_eq_getElem?_getD,List.getElem?_eq_getElem hk]
 exact List.getElem_mem hk
theorem aC4 (n:Int) (μ:Mu):av9 [.int n] μ=.ok (.str (opw n)) μ:=by
 have hk:(n % 10).toNat<opL.length:=by show _<10;omega
 refine u3 0 (v_ret (v_bin (x:=.lst (opL.map .str)) rfl (v_bin rfl rfl (W5 _ _ (by decide))) ?_))
 show atI (opL.map D.str) (n % 10)=_
 unfold opw
 rw[Yy (by omega),List.getElem?_map,List.getElem?_eq_getElem hk,List.getD_eq_getElem?_getD,List.getElem?_eq_getElem hk]
 rfl
theorem Dv {P:List Nat->Prop}(h:P Uh/\P ue/\P ug/\P Ug/\P Ju/\P Jk/\P U0/\P Ya/\P Ue/\P uf):∀x∈opL,P x:=by
 intro x hx
 simp only[opL,List.mem_cons,List.not_mem_nil,or_false] at hx
 obtain⟨h1,h2,h3,h4,h5,h6,h7,h8,h9,h10⟩:=h
 rcases hx with rfl|rfl|rfl|rfl|rfl|rfl|rfl|rfl|rfl|rfl<;>assumption
theorem Wh {ds:List D}{p:Nat}{d:D}(h:ds[p]? =some d):je (.lst ds) (.int p)=some d:=by
 show atI ds (p:Int)=_
 rw[Yy (by omega),Int.toNat_natCast,h]
theorem mix_at (ns:List Int) (k:Nat) {i:Int}(h:i=k) (μ:Mu):u6 [sc ns,.int i] μ=.ok (.int (mix ns k)) μ:=by rw[h];exact at6 ns k μ
theorem v_div {x:Nat}{n j:Int}{μ:Mu}(h:ρ[x]? =some (some (.int n))) (h1:0<j) (h2:j<18446744073709551616):j0 Zy (mVar x) (mC (.int j)) ρ μ=.ok (.int (n / j)) μ:=v_bin (v_var x h) rfl (al6 _ _ h1 h2)
theorem v_mod {i j:Int}{μ:Mu}(h:m ρ μ=.ok (.int i) μ) (h1:0<j):j0 Jl m (mC (.int j)) ρ μ=.ok (.int (i % j)) μ:=v_bin h rfl (W5 _ _ h1)
inductive N|num (k:Int)|len|load (s:Int) (a:N)|op (x:List Nat) (a b:N)
inductive B|tru (b:Bool)|nt (a:B)|both (a b:B)|eith (a b:B)|cmp (x:List Nat) (a b:N)
noncomputable def N.d:N->D
 |.num k=>.tup [.str w_number,.int k]
 |.len=>.tup [.str w_len]
 |.load s a=>.tup [.str w_load,.int s,a.d]
 |.op x a b=>.tup [.str x,a.d,b.d]
noncomputable def B.d:B->D
 |.tru b=>.tup [.str w_truth,.bl b]
 |.nt a=>.tup [.str w_not,a.d]
 |.both a b=>.tup [.str w_both,a.d,b.d]
 |.eith a b=>.tup [.str w_either,a.d,b.d]
 |.cmp x a b=>.tup [.str x,a.d,b.d]
noncomputable def cpL:List (List Nat):=[Ui,u4,uc,ub,Uf,ud]
theorem cx {P:List Nat->Prop}(h:P Ui/\P u4/\P uc/\P ub/\P Uf/\P ud):∀x∈cpL,P x:=by
 intro x hx
 simp only[cpL,List.mem_cons,List.not_mem_nil,or_false] at hx
 obtain⟨h1,h2,h3,h4,h5,h6⟩:=h
 rcases hx with rfl|rfl|rfl|rfl|rfl|rfl<;>assumption
noncomputable def N.ok:N->Prop
 |.num k=>0<=k/\k<4294967296
 |.len=>True
 |.load s a=>(s=1\/s=2\/s=4)/\a.ok
 |.op x a b=>x∈opL/\a.ok/\b.ok
noncomputable def B.ok:B->Prop
 |.tru _=>True
 |.nt a=>a.ok
 |.both a b=>a.ok/\b.ok
 |.eith a b=>a.ok/\b.ok
 |.cmp x a b=>x∈cpL/\a.ok/\b.ok
noncomputable def N.c:N->Nat
 |.num _=>1
 |.len=>1
 |.load _ a=>a.c+2
 |.op _ a b=>a.c+b.c+2
noncomputable def B.c:B->Nat
 |.tru _=>1
 |.nt a=>a.c+2
 |.both a b=>a.c+b.c+2
 |.eith a b=>a.c+b.c+2
 |.cmp _ a b=>a.c+b.c+2
noncomputable def N.dp:N->Nat
 |.num _=>1
 |.len=>1
 |.load _ a=>a.dp+1
 |.op _ a b=>max a.dp b.dp+1
noncomputable def B.dp:B->Nat
 |.tru _=>1
 |.nt a=>a.dp+1
 |.both a b=>max a.dp b.dp+1
 |.eith a b=>max a.dp b.dp+1
 |.cmp _ a b=>1
noncomputable def B.nd:B->Prop
 |.tru _=>True
 |.nt a=>a.nd
 |.both a b=>a.nd/\b.nd
 |.eith a b=>a.nd/\b.nd
 |.cmp _ a b=>a.dp<=3/\b.dp<=2
theorem aA6 (k:Nat):yv (k+1) 0=fnOf 3 (Va (yv k)):=rfl
theorem rc_t (k:Nat):U6 (k+1) 0=fnOf 3 (Xu (U6 k)):=rfl
noncomputable def ncN:Nat->Nat
 |0=>1
 |d+1=>2*ncN d+2
noncomputable def ncB:Nat->Nat
 |0=>16
 |d+1=>2*ncB d+2
theorem ae2:∀d,1<=ncN d
 |0=>Nat.le_refl _
 |d+1=>by simp only[ncN];omega
theorem a85:∀d,16<=ncB d
 |0=>Nat.le_refl _
 |d+1=>by have:=a85 d;simp only[ncB];omega
section
variable {ns:List Int}{μ:Mu}
theorem v_lin {ρ:En}{x b:Nat}(h:ρ[x]? =some (some (.int b))) (p q:Nat) (hp:p<100):j0 jo (j0 zj (mC (.int p)) (mVar x)) (mC (.int q)) ρ μ=.ok (.int ((p*b+q:Nat):Int)) μ:=by
 refine v_bin (x:=.int (p*b)) (y:=.int q) (v_bin rfl (v_var x h) (Da _ _ (by omega) (by omega))) rfl ?_
 show some (D.int ((p:Int)*b+q))=_
 congr 2
theorem v_dec {ρ:En}{x d:Nat}(h:ρ[x]? =some (some (.int ((d+1:Nat):Int)))):j0 wu (mVar x) (mC (.int 1)) ρ μ=.ok (.int d) μ:=by
 refine v_bin (v_var x h) rfl ?_
 show some (D.int (((d+1:Nat):Int)-1))=_
 congr 2
 omega
theorem aA3 {d:D}(h:d∈[D.int 1,.int 2,.int 4]):∃s,d=.int s/\(s=1\/s=2\/s=4):=by
 simp only[List.mem_cons,List.not_mem_nil,or_false] at h
 rcases h with rfl|rfl|rfl
 ·exact⟨1,rfl,.inl rfl⟩
 ·exact⟨2,rfl,.inr (.inl rfl)⟩
 ·exact⟨4,rfl,.inr (.inr rfl)⟩
theorem aD3 {n:Int}{d:D}(h0:0<=n) (h:d∈[D.int 0,.int 1,.int 2,.int 7,.int 12,.int 20,.int 33,.int 255,.int 4294967295,.int (n % 4294967296)]):∃i,d=.int i/\0<=i/\i<4294967296:=by
 simp only[List.mem_cons,List.not_mem_nil,or_false] at h
 rcases h with rfl|rfl|rfl|rfl|rfl|rfl|rfl|rfl|rfl|rfl
 all_goals first|exact⟨_,rfl,by decide,by decide⟩|exact⟨_,rfl,by omega,by omega⟩
theorem Cc {r:MSt}{b:Nat}{dp:D}:∃a:N,(j7 (jr 4 (j0 je (jj (mCons (mC (.int 0)) (mCons (mC (.int 1)) (mCons (mC (.int 2)) (mCons (mC (.int 7)) (mCons (mC (.int 12)) (mCons (mC (.int 20)) (mCons (mC (.int 33)) (mCons (mC (.int 255)) (mCons (mC (.int 4294967295)) (mCons (j0 Jl (mVar 3) (mC (.int 4294967296))) mNil))))))))))) (j0 Jl (j0 Zy (mVar 3) (mC (.int 5))) (mC (.int 10)))))
  (jh (j0 je (jj (mCons (Jo (mCons (mC (.str w_len)) mNil)) (mCons (Jo (mCons (mC (.str w_number)) (mCons (mVar 4) mNil))) (mCons (Jo (mCons (mC (.str w_number)) (mCons (mVar 4) mNil))) mNil)))) (j0 Jl (j0 Zy (mVar 3) (mC (.int 50))) (mC (.int 3)))))) [some (sc ns),some (.int b),some dp,some (.int (mix ns b)),none,none] μ=.ok (.rt a.d) μ/\a.ok/\a.c<=1/\a.dp<=1:=by
 have h0:=Dj ns b
 obtain⟨d,hd,e⟩:=gr (ρ:=[some (sc ns),some (.int b),some dp,some (.int (mix ns b)),none,none]) (μ:=μ) (m:=j0 Zy (mVar 3) (mC (.int 5))) (L:=[.int 0,.int 1,.int 2,.int 7,.int 12,.int 20,.int 33,.int 255,.int 4294967295,.int (mix ns b % 4294967296)]) (n:=10)
  (ms:=mCons (mC (.int 0)) (mCons (mC (.int 1)) (mCons (mC (.int 2)) (mCons (mC (.int 7)) (mCons (mC (.int 12)) (mCons (mC (.int 20)) (mCons (mC (.int 33)) (mCons (mC (.int 255)) (mCons (mC (.int 4294967295)) (mCons (j0 Jl (mVar 3) (mC (.int 4294967296))) mNil))))))))))
  (v_cons rfl (v_cons rfl (v_cons rfl (v_cons rfl (v_cons rfl (v_cons rfl (v_cons rfl (v_cons rfl (v_cons rfl (v_cons (v_mod rfl (by decide)) v_nil)))))))))) (v_div (x:=3) rfl (by decide) (by decide)) rfl (by decide)
 obtain⟨i,rfl,i0,i1⟩:=aD3 h0 hd
 obtain⟨d2,hd2,e2⟩:=gr (ρ:=[some (sc ns),some (.int b),some dp,some (.int (mix ns b)),some (.int i),none]) (μ:=μ) (m:=j0 Zy (mVar 3) (mC (.int 50))) (L:=[.tup [.str w_len],.tup [.str w_number,.int i],.tup [.str w_number,.int i]]) (n:=3)
  (ms:=mCons (Jo (mCons (mC (.str w_len)) mNil)) (mCons (Jo (mCons (mC (.str w_number)) (mCons (mVar 4) mNil))) (mCons (Jo (mCons (mC (.str w_number)) (mCons (mVar 4) mNil))) mNil))) rfl (v_div (x:=3) rfl (by decide) (by decide)) rfl (by decide)
 simp only[List.mem_cons,List.not_mem_nil,or_false] at hd2
 rcases hd2 with rfl|rfl|rfl
 ·exact⟨.len,(v_set 4 e).trans (v_ret e2),trivial,Nat.le_refl _,Nat.le_refl _⟩
 ·exact⟨.num i,(v_set 4 e).trans (v_ret e2),⟨i0,i1⟩,Nat.le_refl _,Nat.le_refl _⟩
 ·exact⟨.num i,(v_set 4 e).trans (v_ret e2),⟨i0,i1⟩,Nat.le_refl _,Nat.le_refl _⟩
theorem qh (ns:List Int) (μ:Mu):∀(k d b:Nat),d<k->∃a:N,yv k 0 [sc ns,.int b,.int d] μ=.ok a.d μ/\a.ok/\a.c<=ncN d/\a.dp<=d+1
 |0,d,b,h=>absurd h (by omega)
 |k+1,0,b,h=>by
  rw[aA6]
  obtain⟨a,e,h1,h2,h3⟩:=Cc (ns:=ns) (μ:=μ) (r:=jf) (b:=b) (dp:=.int ((0:Nat):Int))
  exact⟨a,u3 3 ((v_set 3 (v_call rfl (mix_at ns b rfl μ))).trans (v_seqR ((v_iteT (v_orT rfl)).trans e))),h1,h2,h3⟩
 |k+1,d+1,b,h=>by
  rw[aA6]
  have h0:=Dj ns b
  have tz:j8 (j0 gEq (mVar 2) (mC (.int 0))) [some (sc ns),some (.int b),some (.int ((d+1:Nat):Int)),some (.int (mix ns b)),none,none] μ=.ok false μ:=by
   refine v_test (v_bin rfl rfl ?_)
   rw[deref_int,deref_int,Kn,show(((d+1:Nat):Int)==0)=false by rw[beq_eq_false_iff_ne];omega]
  have t5:j8 (j0 gLt (j0 Jl (mVar 3) (mC (.int 5))) (mC (.int 2))) [some (sc ns),some (.int b),some (.int ((d+1:Nat):Int)),some (.int (mix ns b)),none,none] μ=.ok (decide (mix ns b % 5<2)) μ:=v_test (v_bin (v_mod rfl (by decide)) rfl (aF1 _ _))
  have t2:j8 (j0 gEq (j0 Jl (mVar 3) (mC (.int 5))) (mC (.int 2))) [some (sc ns),some (.int b),some (.int ((d+1:Nat):Int)),some (.int (mix ns b)),none,none] μ=.ok (mix ns b % 5==2) μ:=v_test (v_bin (v_mod rfl (by decide)) rfl (Kn _ _))
  obtain⟨a1,ea,oka,ca,da⟩:=qh ns μ k d (3*b+1) (by omega)
  obtain⟨a2,eb,okb,cb,db⟩:=qh ns μ k d (3*b+2) (by omega)
  by_cases h5:mix ns b % 5<2
  ·rw[decide_eq_true h5] at t5
   obtain⟨a,e,h1,h2,h3⟩:=Cc (ns:=ns) (μ:=μ) (r:=jf) (b:=b) (dp:=.int ((d+1:Nat):Int))
   exact⟨a,u3 3 ((v_set 3 (v_call rfl (mix_at ns b rfl μ))).trans (v_seqR ((v_iteT ((v_orF tz).trans t5)).trans e))),h1,by have:=ae2 (d+1);omega,by omega⟩
  ·rw[decide_eq_false h5] at t5
   by_cases h2:(mix ns b % 5==2)=true
   ·rw[h2] at t2
    obtain⟨s,hs,es⟩:=gr (ρ:=[some (sc ns),some (.int b),some (.int ((d+1:Nat):Int)),some (.int (mix ns b)),none,none]) (μ:=μ) (m:=j0 Zy (mVar 3) (mC (.int 5))) (L:=[.int 1,.int 2,.int 4]) (n:=3) (ms:=mCons (mC (.int 1)) (mCons (mC (.int 2)) (mCons (mC (.int 4)) mNil))) rfl (v_div (x:=3) rfl (by decide) (by decide)) rfl (by decide)
    obtain⟨s,rfl,hs3⟩:=aA3 hs
    exact⟨.load s a1,u3 3 ((v_set 3 (v_call rfl (mix_at ns b rfl μ))).trans ((v_skip ((v_orF tz).trans t5)).trans (v_take t2 (v_tup (v_cons rfl (v_cons es (v_cons (v_call (v_cons rfl (v_cons (v_lin rfl 3 1 (by decide)) (v_cons (v_dec rfl) v_nil))) ea) v_nil))))))),⟨hs3,oka⟩,by simp only[N.c,ncN];omega,by simp only[N.dp];omega⟩
   ·rw[Bool.not_eq_true] at h2
    rw[h2] at t2
    have eo:=aC4 (mix ns b / 5) μ
    exact⟨.op (opw (mix ns b / 5)) a1 a2,u3 3 ((v_set 3 (v_call rfl (mix_at ns b rfl μ))).trans ((v_skip ((v_orF tz).trans t5)).trans ((v_skip t2).trans ((v_set 5 (v_call (v_cons rfl (v_cons (v_lin rfl 3 1 (by decide)) (v_cons (v_dec rfl) v_nil))) ea)).trans (v_ret (v_tup (v_cons (v_call (v_cons (v_div (x:=3) rfl (by decide) (by decide)) v_nil) eo) (v_cons rfl (v_cons (v_call (v_cons rfl (v_cons (v_lin rfl 3 2 (by decide)) (v_cons (v_dec rfl) v_nil))) eb) v_nil))))))))),⟨ac8 _,oka,okb⟩,by simp only[N.c,ncN];omega,by simp only[N.dp];omega⟩
theorem v7 (ns:List Int) (μ:Mu):∀(k d b:Nat),d<k->∃a:B,U6 k 0 [sc ns,.int b,.int d] μ=.ok a.d μ/\a.ok/\a.nd/\a.c<=ncB d/\a.dp<=d+1
 |0,d,b,h=>absurd h (by omega)
 |k+1,d,b,h=>by
  rw[rc_t]
  have h0:=Dj ns b
  have t0:j8 (j0 gGt (mVar 2) (mC (.int 0))) [some (sc ns),some (.int b),some (.int d),some (.int (mix ns b)),none,none] μ=.ok (decide ((d:Int)>0)) μ:=v_test (v_bin rfl rfl (aF2 _ _))
  have t3:j8 (j0 gLt (j0 Jl (mVar 3) (mC (.int 5))) (mC (.int 3))) [some (sc ns),some (.int b),some (.int d),some (.int (mix ns b)),none,none] μ=.ok (decide (mix ns b % 5<3)) μ:=v_test (v_bin (v_mod rfl (by decide)) rfl (aF1 _ _))
  have leaf:Yk (j8 (j0 gGt (mVar 2) (mC (.int 0)))) (j8 (j0 gLt (j0 Jl (mVar 3) (mC (.int 5))) (mC (.int 3)))) [some (sc ns),some (.int b),some (.int d),some (.int (mix ns b)),none,none] μ=.ok false μ->∃a:B,fnOf 3 (Xu (U6 k)) [sc ns,.int b,.int d] μ=.ok a.d μ/\a.ok/\a.nd/\a.c<=ncB d/\a.dp<=d+1:=fun hf=>by
   have t7:j8 (j0 gEq (j0 Jl (j0 Zy (mVar 3) (mC (.int 5))) (mC (.int 7))) (mC (.int 0))) [some (sc ns),some (.int b),some (.int d),some (.int (mix ns b)),none,none] μ=.ok (mix ns b / 5 % 7==0) μ:=v_test (v_bin (v_mod (v_div (x:=3) rfl (by decide) (by decide)) (by decide)) rfl (Kn _ _))
   have hcb:=a85 d
   by_cases h7:(mix ns b / 5 % 7==0)=true
   ·rw[h7] at t7
    exact⟨.tru (mix ns b / 35 % 2==0),u3 3 ((v_set 3 (v_call rfl (mix_at ns b rfl μ))).trans ((v_skip hf).trans (v_take t7 (v_tup (v_cons rfl (v_cons (v_bin (v_mod (v_div (x:=3) rfl (by decide) (by decide)) (by decide)) rfl (Kn _ _)) v_nil)))))),trivial,trivial,by simp only[B.c];omega,by simp only[B.dp];omega⟩
   ·rw[Bool.not_eq_true] at h7
    rw[h7] at t7
    obtain⟨s,hs,es⟩:=gr (ρ:=[some (sc ns),some (.int b),some (.int d),some (.int (mix ns b)),none,none]) (μ:=μ) (m:=j0 Zy (mVar 3) (mC (.int 35))) (L:=[.str Ui,.str u4,.str uc,.str ub,.str Uf,.str ud]) (n:=6) (ms:=mCons (mC (.str Ui)) (mCons (mC (.str u4)) (mCons (mC (.str uc)) (mCons (mC (.str ub)) (mCons (mC (.str Uf)) (mCons (mC (.str ud)) mNil)))))) rfl (v_div (x:=3) rfl (by decide) (by decide)) rfl (by decide)
    obtain⟨x,rfl,hx⟩:∃x,s=.str x/\x∈cpL:=by
     simp only[List.mem_cons,List.not_mem_nil,or_false] at hs
     rcases hs with rfl|rfl|rfl|rfl|rfl|rfl<;>exact⟨_,rfl,by simp[cpL]⟩
    obtain⟨a1,ea,oka,ca,da⟩:=qh ns μ 6 2 (5*b+3) (by decide)
    obtain⟨a2,eb,okb,cb,db⟩:=qh ns μ 6 1 (5*b+4) (by decide)
    have c2:ncN 2=10:=rfl
    have c1:ncN 1=4:=rfl
    exact⟨.cmp x a1 a2,u3 3 ((v_set 3 (v_call rfl (mix_at ns b rfl μ))).trans ((v_skip hf).trans ((v_skip t7).trans ((v_set 5 es).trans (v_ret (v_tup (v_cons rfl (v_cons (v_call (v_cons rfl (v_cons (v_lin rfl 5 3 (by decide)) (v_cons rfl v_nil))) ea) (v_cons (v_call (v_cons rfl (v_cons (v_lin rfl 5 4 (by decide)) (v_cons rfl v_nil))) eb) v_nil))))))))),⟨hx,oka,okb⟩,⟨by omega,by omega⟩,by simp only[B.c];omega,by simp only[B.dp];omega⟩
  cases d with
  |zero=>exact leaf (v_andF t0)
  |succ d =>
   rw[decide_eq_true (show((d+1:Nat):Int)>0 by omega)] at t0
   by_cases h3:mix ns b % 5<3
   ·rw[decide_eq_true h3] at t3
    obtain⟨a1,ea,oka,na,ca,da⟩:=v7 ns μ k d (2*b+1) (by omega)
    obtain⟨a2,eb,okb,nb,cb,db⟩:=v7 ns μ k d (2*b+2) (by omega)
    have tn:j8 (j0 gEq (j0 Jl (mVar 3) (mC (.int 5))) (mC (.int 0))) [some (sc ns),some (.int b),some (.int ((d+1:Nat):Int)),some (.int (mix ns b)),some a1.d,none] μ=.ok (mix ns b % 5==0) μ:=v_test (v_bin (v_mod rfl (by decide)) rfl (Kn _ _))
    have hd:∀{r:MSt}{x:D},(j7 (Js (j8 (j0 gEq (j0 Jl (mVar 3) (mC (.int 5))) (mC (.int 0)))) (jh (Jo (mCons (mC (.str w_not)) (mCons (mVar 4) mNil)))) jf) (jh (Jo (mCons (j0 je (jj (mCons (mC (.str w_both)) (mCons (mC (.str w_either)) mNil))) (j0 wu (j0 Jl (mVar 3) (mC (.int 5))) (mC (.int 1)))) (mCons (mVar 4) (mCons (j9 (U6 k 0) (mCons (mVar 0) (mCons (j0 jo (j0 zj (mC (.int 2)) (mVar 1)) (mC (.int 2))) (mCons (j0 wu (mVar 2) (mC (.int 1))) mNil)))) mNil)))))) [some (sc ns),some (.int b),some (.int ((d+1:Nat):Int)),some (.int (mix ns b)),some a1.d,none] μ=.ok (.rt x) μ->fnOf 3 (Xu (U6 k)) [sc ns,.int b,.int ((d+1:Nat):Int)] μ=.ok x μ:=fun{r x} e =>
     u3 3 ((v_set 3 (v_call rfl (mix_at ns b rfl μ))).trans (v_seqR ((v_iteT ((v_andT t0).trans t3)).trans ((v_set 4 (v_call (v_cons rfl (v_cons (v_lin rfl 2 1 (by decide)) (v_cons (v_dec rfl) v_nil))) ea)).trans e))))
    have jn:∀(y:List Nat) (i:Nat),mix ns b % 5=((i+1:Nat):Int)->[D.str w_both,.str w_either][i]? =some (.str y)->(j7 (Js (j8 (j0 gEq (j0 Jl (mVar 3) (mC (.int 5))) (mC (.int 0)))) (jh (Jo (mCons (mC (.str w_not)) (mCons (mVar 4) mNil)))) jf) (jh (Jo (mCons (j0 je (jj (mCons (mC (.str w_both)) (mCons (mC (.str w_either)) mNil))) (j0 wu (j0 Jl (mVar 3) (mC (.int 5))) (mC (.int 1)))) (mCons (mVar 4) (mCons (j9 (U6 k 0) (mCons (mVar 0) (mCons (j0 jo (j0 zj (mC (.int 2)) (mVar 1)) (mC (.int 2))) (mCons (j0 wu (mVar 2) (mC (.int 1))) mNil)))) mNil)))))) [some (sc ns),some (.int b),some (.int ((d+1:Nat):Int)),some (.int (mix ns b)),some a1.d,none] μ=.ok (.rt (.tup [.str y,a1.d,a2.d])) μ:=fun y i hi hy=>by
     have hn:(mix ns b % 5==0)=false:=by rw[beq_eq_false_iff_ne];omega
     rw[hn] at tn
     refine(v_skip tn).trans (v_ret (v_tup (v_cons (v_bin (x:=.lst [.str w_both,.str w_either]) (y:=.int i) rfl (v_bin (v_mod rfl (by decide)) rfl ?_) (Wh hy)) (v_cons rfl (v_cons (v_call (v_cons rfl (v_cons (v_lin rfl 2 2 (by decide)) (v_cons (v_dec rfl) v_nil))) eb) v_nil)))))
     show some (D.int (mix ns b % 5-1))=_
     congr 2
     omega
    have h3':mix ns b % 5=0\/mix ns b % 5=1\/mix ns b % 5=2:=by omega
    rcases h3' with e|e|e
    ·rw[e] at tn
     exact⟨.nt a1,hd (r:=jf) (v_take tn rfl),oka,na,by simp only[B.c,ncB];omega,by simp only[B.dp];omega⟩
    ·exact⟨.both a1 a2,hd (r:=jf) (jn w_both 0 (by omega) rfl),⟨oka,okb⟩,⟨na,nb⟩,by simp only[B.c,ncB];omega,by simp only[B.dp];omega⟩
    ·exact⟨.eith a1 a2,hd (r:=jf) (jn w_either 1 (by omega) rfl),⟨oka,okb⟩,⟨na,nb⟩,by simp only[B.c,ncB];omega,by simp only[B.dp];omega⟩
   ·rw[decide_eq_false h3] at t3
    exact leaf ((v_andT t0).trans t3)
end
noncomputable def dgt (n:Nat):List Nat:=(Nat.toDigits 10 n).map Char.toNat
theorem c9 {n:Nat}(h:n<10):dgt n=[(Nat.digitChar n).toNat]:=by unfold dgt;rw[Nat.toDigits_of_lt_base h];rfl
theorem Em {v d:Nat}(hv:0<v) (hd:d<10):dgt (10*v+d)=dgt v++dgt d:=by
 unfold dgt
 rw[←Nat.toDigits_append_toDigits (by decide) hv hd,List.map_append]
theorem dig1:∀d<10,(Nat.digitChar d).toNat=d+48:=by decide
theorem bi (n:Nat):∀c∈dgt n,48<=c/\c<=57:=by
 intro c hc
 obtain⟨ch,hch,e⟩:=List.mem_map.mp hc
 have r:=digit_range (Nat.isDigit_of_mem_toDigits (by decide) (by decide) hch)
 rw[←e]
 exact r
theorem El (n:Nat):∃c r,dgt n=c::r/\(c=48->n=0):=by
 induction n using Nat.strongRecOn with
 |_ n ih =>
  by_cases h:n<10
  ·refine⟨_,_,c9 h,fun e=>?_⟩
   have:=dig1 n h
   omega
  ·obtain⟨c,r,e1,e2⟩:=ih (n / 10) (by omega)
   have:=Em (v:=n / 10) (d:=n % 10) (by omega) (by omega)
   rw[Nat.div_add_mod,e1] at this
   exact⟨c,_,this,fun e=>by have:=e2 e;omega⟩
theorem ah6 (n:Nat):digitsVal (dgt n)=n:=PySem.W.KIN.val_back n
theorem bj:∀(k n:Nat),0<k->n<10 ^ k->(dgt n).length<=k
 |0,_,h,_=>absurd h (by decide)
 |k+1,n,_,h=>by
  by_cases h10:n<10
  ·rw[c9 h10];simp
  ·have hk:0<k:=by
    rcases Nat.eq_zero_or_pos k with z|z
    ·subst z;omega
    ·exact z
   have:=bj k (n / 10) hk (by rw[Nat.pow_succ] at h;omega)
   have e:=Em (v:=n / 10) (d:=n % 10) (by omega) (by omega)
   rw[Nat.div_add_mod,c9 (by omega:n % 10<10)] at e
   rw[e,List.length_append]
   simp only[List.length_singleton]
   omega
theorem a78 {n:Nat}(h:n<4294967296):(dgt n).length<=10:=bj 10 n (by decide) (by omega)
theorem aw6 (n:Nat):dgt n≠[]:=by
 obtain⟨c,r,e,_⟩:=El n
 rw[e];simp
theorem g_strn {i:Int}(h0:0<=i) (h1:i<4294967296):bw [.int i]=some (.str (dgt i.toNat)):=by
 obtain⟨n,rfl⟩:=Int.eq_ofNat_of_zero_le h0
 show(if((n:Nat):Int).natAbs.log2<1920 then some (D.str (Str.ofString (toString ((n:Nat):Int))).cps.toList) else none)=_
 have:((n:Nat):Int).natAbs.log2<1920:=by
  rw[Int.natAbs_natCast]
  have hn2:n<4294967296:=by omega
  by_cases z:n=0
  ·subst z;decide
  ·exact Nat.lt_of_lt_of_le ((Nat.log2_lt z).mpr (show n<2 ^ 32 by omega)) (by decide)
 rw[if_pos this,PySem.W.KIN.signs_num]
 rfl
noncomputable def tgt:List (List Nat):=[ug,Ug,Ju,Jk,Ue,uf]
noncomputable def lsL:List (List Nat):=[Uh,ue,U0,Ya]
noncomputable def sgT:List (List Nat×List Nat):=[(Ui,w14),(u4,w33),(uc,w34),(ub,w35),(Uf,w31),(ud,w32),(Uh,w17),(ue,w36),(ug,w20),(Ug,w37),(Ju,Ju),(Jk,w38),(U0,w39),(Ya,w40),(Ue,w29),(uf,w30)]
noncomputable def sg (x:List Nat):List Nat:=(sgT.lookup x).getD []
noncomputable def N.hd:N->List Nat
 |.num _=>w_number
 |.len=>w_len
 |.load _ _=>w_load
 |.op x _ _=>x
noncomputable def B.hd:B->List Nat
 |.tru _=>w_truth
 |.nt _=>w_not
 |.both _ _=>w_both
 |.eith _ _=>w_either
 |.cmp x _ _=>x
noncomputable def inn (h:List Nat) (ks L:List (List Nat)):List (List Nat):=if h∈ks then(if h∈[w_both,w_either] then[Y3,w10] else[w10])++L++[w12] else L
noncomputable def ldW (s:Int):List Nat:=if s=1 then ut else if s=2 then U3 else U2
noncomputable def tolN:N->List (List Nat)
 |.num k=>[dgt k.toNat]
 |.len=>[w_len]
 |.load s a=>[ldW s,w24]++tolN a++[w25]
 |.op x a b=>if x∈tgt then inn a.hd lsL (tolN a)++[sg x]++inn b.hd (lsL++tgt) (tolN b) else inn a.hd [] (tolN a)++[sg x]++inn b.hd lsL (tolN b)
noncomputable def tolB:B->List (List Nat)
 |.tru b=>[if b then Jt else Jw]
 |.nt a=>[w_not]++inn a.hd [w_both,w_either] (tolB a)
 |.both a b=>inn a.hd [w_either] (tolB a)++[Jk]++inn b.hd [w_either,w_both] (tolB b)
 |.eith a b=>inn a.hd [] (tolB a)++[U0]++inn b.hd [w_either] (tolB b)
 |.cmp x a b=>tolN a++[sg x]++tolN b
theorem ua (h:List Nat) (ks L:List (List Nat)):L.length<=(inn h ks L).length/\(inn h ks L).length<=L.length+3:=by
 unfold inn
 split
 ·split<;>simp only[List.length_append,List.length_cons,List.length_nil]<;>omega
 ·exact⟨Nat.le_refl _,by omega⟩
noncomputable abbrev sL (L:List (List Nat)):D:=.lst (L.map .str)
theorem yx {A B:List (List Nat)}(h:A.length+B.length<=1000):jo (sL A) (sL B)=some (sL (A++B)):=by
 show(if(A.map D.str).length+(B.map D.str).length<=16777216 then some (D.lst (A.map D.str++B.map D.str)) else none)=_
 rw[if_pos (by simp;omega),←List.map_append]
theorem G6:∀{ws:List (List Nat)},(∀w∈ws,∀c∈w,c<128)->plainDs (ws.map .str)=true
 |[],_=>rfl
 |w::ws,h=>by
  obtain⟨h1,h2⟩:=List.forall_mem_cons.mp h
  show(jp (.str w)&&plainDs (ws.map .str))=true
  rw[Um h1,G6 h2]
  rfl
theorem as7 {w:List Nat}(hw:∀c∈w,c<128) {ws:List (List Nat)}(hs:∀v∈ws,∀c∈v,c<128):fk (.str w) (.tup (ws.map .str))=some (.bl (!decide (w∈ws))):=by
 show(if Vu (.str w) (ws.map .str)=true then some (D.bl (!inD (.str w) (ws.map .str))) else none)=_
 have h1:Vu (.str w) (ws.map .str)=true:=by
  unfold Vu
  rw[Um hw,G6 hs]
  rfl
 rw[if_pos h1]
 congr 3
 unfold inD
 rw[List.any_map,Bool.eq_iff_iff,List.any_eq_true,decide_eq_true_eq]
 exact⟨fun⟨y,hy,e⟩=>by have e:(y==w)=true:=e;rw[←eq_of_beq e];exact hy,fun h=>⟨w,h,by show(w==w)=true;exact beq_self_eq_true w⟩⟩
section
variable {μ:Mu}
theorem Fi (k:Nat):J4 (k+1) 0=fnOf 6 (cu (J4 k)):=rfl
theorem rc_i (k:Nat):J4 (k+1) 1=fnOf 0 (Fx (J4 k)):=rfl
theorem aE7 (d:D) (r:List D):je (.tup (d::r)) (.int 0)=some d:=by
 show atI (d::r) 0=_
 rw[Yy (by omega)]
 rfl
theorem Y4 {k:Nat}{h:List Nat}{r:List D}{L ks:List (List Nat)}(hh:∀c∈h,c<128) (hk:∀v∈ks,∀c∈v,c<128) (ht:J4 k 0 [.tup (.str h::r)] μ=.ok (sL L) μ) (hl:L.length<=900):J4 (k+1) 1 [.tup (.str h::r),.tup (ks.map .str)] μ=.ok (sL (inn h ks L)) μ:=by
 rw[rc_i]
 have t1:j8 (j0 fk (j0 je (mVar 0) (mC (.int 0))) (mVar 1)) [some (.tup (.str h::r)),some (.tup (ks.map .str))] μ=.ok (!decide (h∈ks)) μ:=v_test (v_bin (x:=.str h) (v_bin rfl rfl (aE7 _ _)) rfl (as7 hh hk))
 have t2:j8 (j0 gIn (j0 je (mVar 0) (mC (.int 0))) (Jo (mCons (mC (.str w_both)) (mCons (mC (.str w_either)) mNil)))) [some (.tup (.str h::r)),some (.tup (ks.map .str))] μ=.ok (decide (h∈[w_both,w_either])) μ:=v_test (v_bin (x:=.str h) (y:=.tup [.str w_both,.str w_either]) (v_bin rfl rfl (aE7 _ _)) rfl (a8 hh (L:=[w_both,w_either]) (by decide)))
 unfold inn
 by_cases h1:h∈ks
 ·rw[decide_eq_true h1] at t1
  rw[if_pos h1]
  by_cases h2:h∈[w_both,w_either]
  ·rw[decide_eq_true h2] at t2
   rw[if_pos h2]
   exact u3 0 ((v_skip t1).trans (v_take t2 (v_bin (x:=sL ([Y3,w10]++L)) (y:=sL [w12]) (v_bin (x:=sL [Y3,w10]) rfl (v_call rfl ht) (yx (by simp;omega))) rfl (yx (by simp;omega)))))
  ·rw[decide_eq_false h2] at t2
   rw[if_neg h2]
   exact u3 0 ((v_skip t1).trans ((v_skip t2).trans (v_ret (v_bin (x:=sL ([w10]++L)) (y:=sL [w12]) (v_bin (x:=sL [w10]) rfl (v_call rfl ht) (yx (by simp;omega))) rfl (yx (by simp;omega))))))
 ·rw[decide_eq_false h1] at t1
  rw[if_neg h1]
  exact u3 0 (v_take t1 (v_call rfl ht))
theorem Ai {x:List Nat}(h:x∈opL\/x∈cpL) (μ:Mu):zw [.str x] μ=.ok (.str (sg x)) μ:=by
 rcases h with h|h
 ·revert h
  exact Dv (P:=fun x=>zw [.str x] μ=.ok (.str (sg x)) μ) ⟨rfl,rfl,rfl,rfl,rfl,rfl,rfl,rfl,rfl,rfl⟩ x
 ·revert h
  exact cx (P:=fun x=>zw [.str x] μ=.ok (.str (sg x)) μ) ⟨rfl,rfl,rfl,rfl,rfl,rfl⟩ x
theorem ao4 {x:List Nat}(h:x∈tgt):x∈opL:=by
 have:∀x∈tgt,x∈opL:=by decide
 exact this x h
theorem au5 {x:List Nat}(h:x∈lsL):x∈opL:=by
 have:∀x∈lsL,x∈opL:=by decide
 exact this x h
theorem a95 {k:Nat}{x:List Nat}{a b:D}{La Lb:List (List Nat)}(hx:x∈tgt) (ha:J4 k 1 [a,.tup (lsL.map .str)] μ=.ok (sL La) μ) (hb:J4 k 1 [b,.tup ((lsL++tgt).map .str)] μ=.ok (sL Lb) μ) (hl:La.length+Lb.length<=900):J4 (k+1) 0 [.tup [.str x,a,b]] μ=.ok (sL (La++[sg x]++Lb)) μ:=by
 rw[Fi]
 have hs:=Ai (.inl (ao4 hx)) μ
 have hg:jj (mCons (j9 zw (mCons (mVar 1) mNil)) mNil) [some (.tup [.str x,a,b]),some (.str x),none,none,some (sL Lb),some (.tup (lsL.map .str)),some (.tup (tgt.map .str))] μ=.ok (sL [sg x]) μ:=v_lst (v_cons (v_call rfl hs) v_nil)
 have h1:jo (sL La) (sL [sg x])=some (sL (La++[sg x])):=yx (by simp;omega)
 have h2:jo (sL (La++[sg x])) (sL Lb)=some (sL (La++[sg x]++Lb)):=yx (by simp;omega)
 simp only[tgt,List.mem_cons,List.not_mem_nil,or_false] at hx
 rcases hx with rfl|rfl|rfl|rfl|rfl|rfl <;>
 exact u3 6 ((v_set 1 rfl).trans ((v_skip rfl).trans ((v_skip rfl).trans ((v_skip rfl).trans ((v_skip rfl).trans ((v_skip rfl).trans ((v_skip rfl).trans ((v_set 5 rfl).trans ((v_set 6 rfl).trans (v_seqR ((v_iteT rfl).trans ((v_set 4 (v_call rfl hb)).trans (v_ret (v_bin (v_bin (v_call rfl ha) hg h1) rfl h2))))))))))))))
theorem a96 {k:Nat}{x:List Nat}{a b:D}{La Lb:List (List Nat)}(hx:x∈lsL) (ha:J4 k 1 [a,.tup (([]:List (List Nat)).map .str)] μ=.ok (sL La) μ) (hb:J4 k 1 [b,.tup (lsL.map .str)] μ=.ok (sL Lb) μ) (hl:La.length+Lb.length<=900):J4 (k+1) 0 [.tup [.str x,a,b]] μ=.ok (sL (La++[sg x]++Lb)) μ:=by
 rw[Fi]
 have hs:=Ai (.inl (au5 hx)) μ
 have hg:jj (mCons (j9 zw (mCons (mVar 1) mNil)) mNil) [some (.tup [.str x,a,b]),some (.str x),none,none,none,some (.tup (lsL.map .str)),some (.tup (tgt.map .str))] μ=.ok (sL [sg x]) μ:=v_lst (v_cons (v_call rfl hs) v_nil)
 have h1:jo (sL La) (sL [sg x])=some (sL (La++[sg x])):=yx (by simp;omega)
 have h2:jo (sL (La++[sg x])) (sL Lb)=some (sL (La++[sg x]++Lb)):=yx (by simp;omega)
 simp only[lsL,List.mem_cons,List.not_mem_nil,or_false] at hx
 rcases hx with rfl|rfl|rfl|rfl <;>
 exact u3 6 ((v_set 1 rfl).trans ((v_skip rfl).trans ((v_skip rfl).trans ((v_skip rfl).trans ((v_skip rfl).trans ((v_skip rfl).trans ((v_skip rfl).trans ((v_set 5 rfl).trans ((v_set 6 rfl).trans ((v_skip rfl).trans (v_take rfl (v_bin (v_bin (v_call rfl ha) hg h1) (v_call rfl hb) h2))))))))))))
theorem az1 {k:Nat}{x:List Nat}{a b:D}{La Lb:List (List Nat)}(hx:x∈cpL) (ha:J4 k 0 [a] μ=.ok (sL La) μ) (hb:J4 k 0 [b] μ=.ok (sL Lb) μ) (hl:La.length+Lb.length<=900):J4 (k+1) 0 [.tup [.str x,a,b]] μ=.ok (sL (La++[sg x]++Lb)) μ:=by
 rw[Fi]
 have hs:=Ai (.inr hx) μ
 have hg:jj (mCons (j9 zw (mCons (mVar 1) mNil)) mNil) [some (.tup [.str x,a,b]),some (.str x),none,none,none,some (.tup (lsL.map .str)),some (.tup (tgt.map .str))] μ=.ok (sL [sg x]) μ:=v_lst (v_cons (v_call rfl hs) v_nil)
 have h1:jo (sL La) (sL [sg x])=some (sL (La++[sg x])):=yx (by simp;omega)
 have h2:jo (sL (La++[sg x])) (sL Lb)=some (sL (La++[sg x]++Lb)):=yx (by simp;omega)
 simp only[cpL,List.mem_cons,List.not_mem_nil,or_false] at hx
 rcases hx with rfl|rfl|rfl|rfl|rfl|rfl <;>
 exact u3 6 ((v_set 1 rfl).trans ((v_skip rfl).trans ((v_skip rfl).trans ((v_skip rfl).trans ((v_skip rfl).trans ((v_skip rfl).trans ((v_skip rfl).trans ((v_set 5 rfl).trans ((v_set 6 rfl).trans ((v_skip rfl).trans ((v_skip rfl).trans (v_ret (v_bin (v_bin (v_call rfl ha) hg h1) (v_call rfl hb) h2)))))))))))))
theorem N.d_hd:∀a:N,∃r,a.d=.tup (.str a.hd::r)
 |.num _=>⟨_,rfl⟩
 |.len=>⟨_,rfl⟩
 |.load _ _=>⟨_,rfl⟩
 |.op _ _ _=>⟨_,rfl⟩
theorem B.d_hd:∀a:B,∃r,a.d=.tup (.str a.hd::r)
 |.tru _=>⟨_,rfl⟩
 |.nt _=>⟨_,rfl⟩
 |.both _ _=>⟨_,rfl⟩
 |.eith _ _=>⟨_,rfl⟩
 |.cmp _ _ _=>⟨_,rfl⟩
theorem N.asc {a:N}(h:a.ok):∀c∈a.hd,c<128:=by
 cases a with
 |num _=>show ∀c∈w_number,c<128;decide
 |len=>show ∀c∈w_len,c<128;decide
 |load _ _=>show ∀c∈w_load,c<128;decide
 |op x _ _ =>
  have:∀x∈opL,∀c∈x,c<128:=by decide
  exact this x h.1
theorem B.asc {a:B}(h:a.ok):∀c∈a.hd,c<128:=by
 cases a with
 |cmp x _ _ =>
  have:∀x∈cpL,∀c∈x,c<128:=by decide
  exact this x h.1
 |tru _=>show ∀c∈w_truth,c<128;decide
 |nt _=>show ∀c∈w_not,c<128;decide
 |both _ _=>show ∀c∈w_both,c<128;decide
 |eith _ _=>show ∀c∈w_either,c<128;decide
theorem ar6 {x:List Nat}(h:x∈opL) (h2:x∉tgt):x∈lsL:=by
 have:∀x∈opL,x∈tgt\/x∈lsL:=by decide
 exact(this x h).resolve_left h2
theorem N.dp_pos (a:N):1<=a.dp:=by cases a<;>simp[N.dp]
theorem B.dp_pos (a:B):1<=a.dp:=by cases a<;>simp[B.dp]
theorem Z2:∀(a:N) (k:Nat),a.ok->(tolN a).length<=800->2*a.dp<=k->J4 k 0 [a.d] μ=.ok (sL (tolN a)) μ
 |.num i,k,h,_,hk=>by
  obtain⟨k,rfl⟩:∃j,k=j+1:=⟨k-1,by simp only[N.dp] at hk;omega⟩
  rw[Fi]
  exact u3 6 ((v_set 1 rfl).trans (v_take rfl (v_lst (v_cons (v_callB (v_cons rfl v_nil) (g_strn h.1 h.2)) v_nil))))
 |.len,k,h,_,hk=>by
  obtain⟨k,rfl⟩:∃j,k=j+1:=⟨k-1,by simp only[N.dp] at hk;omega⟩
  rfl
 |.load s a,k,h,hl,hk=>by
  obtain⟨k,rfl⟩:∃j,k=j+1:=⟨k-1,by simp only[N.dp] at hk;omega⟩
  have hl':(tolN a).length+3<=800:=by simpa[tolN] using hl
  have ih:=Z2 a k h.2 (by omega) (by simp only[N.dp] at hk;omega)
  rw[Fi]
  have h1:jo (sL [ldW s,w24]) (sL (tolN a))=some (sL ([ldW s,w24]++tolN a)):=yx (by simp;omega)
  have h2:jo (sL ([ldW s,w24]++tolN a)) (sL [w25])=some (sL ([ldW s,w24]++tolN a++[w25])):=yx (by simp;omega)
  rcases h.1 with rfl|rfl|rfl <;>
  exact u3 6 ((v_set 1 rfl).trans ((v_skip rfl).trans ((v_skip rfl).trans ((v_skip rfl).trans (v_take rfl (v_bin (v_bin rfl (v_call rfl ih) h1) rfl h2))))))
 |.op x a b,k,h,hl,hk=>by
  simp only[N.dp] at hk
  obtain⟨k,rfl⟩:∃j,k=j+2:=⟨k-2,by omega⟩
  obtain⟨ra,ea⟩:=a.d_hd
  obtain⟨rb,eb⟩:=b.d_hd
  show J4 (k+2) 0 [.tup [.str x,a.d,b.d]] μ=_
  have alsL:∀v∈lsL,∀c∈v,c<128:=by decide
  have atgt:∀v∈lsL++tgt,∀c∈v,c<128:=by decide
  by_cases hx:x∈tgt
  ·have e:tolN (.op x a b)=inn a.hd lsL (tolN a)++[sg x]++inn b.hd (lsL++tgt) (tolN b):=if_pos hx
   rw[e] at hl ⊢
   have l1:=ua a.hd lsL (tolN a)
   have l2:=ua b.hd (lsL++tgt) (tolN b)
   simp only[List.length_append,List.length_singleton] at hl
   have ia:=Z2 a k h.2.1 (by omega) (by omega)
   have ib:=Z2 b k h.2.2 (by omega) (by omega)
   rw[ea] at ia ⊢
   rw[eb] at ib ⊢
   exact a95 hx (Y4 (N.asc h.2.1) alsL ia (by omega)) (Y4 (N.asc h.2.2) atgt ib (by omega)) (by omega)
  ·have e:tolN (.op x a b)=inn a.hd [] (tolN a)++[sg x]++inn b.hd lsL (tolN b):=if_neg hx
   rw[e] at hl ⊢
   have l1:=ua a.hd [] (tolN a)
   have l2:=ua b.hd lsL (tolN b)
   simp only[List.length_append,List.length_singleton] at hl
   have ia:=Z2 a k h.2.1 (by omega) (by omega)
   have ib:=Z2 b k h.2.2 (by omega) (by omega)
   rw[ea] at ia ⊢
   rw[eb] at ib ⊢
   exact a96 (ar6 h.1 hx) (Y4 (N.asc h.2.1) (by decide) ia (by omega)) (Y4 (N.asc h.2.2) alsL ib (by omega)) (by omega)
noncomputable def B.fd:B->Nat
 |.tru _=>1
 |.nt a=>a.fd+2
 |.both a b=>max a.fd b.fd+2
 |.eith a b=>max a.fd b.fd+2
 |.cmp _ a b=>2*max a.dp b.dp+1
theorem qk:∀(a:B) (k:Nat),a.ok->(tolB a).length<=800->a.fd<=k->J4 k 0 [a.d] μ=.ok (sL (tolB a)) μ
 |.tru b,k,h,_,hk=>by
  obtain⟨k,rfl⟩:∃j,k=j+1:=⟨k-1,by simp only[B.fd] at hk;omega⟩
  cases b<;>rfl
 |.nt a,k,h,hl,hk=>by
  simp only[B.fd] at hk
  obtain⟨k,rfl⟩:∃j,k=j+2:=⟨k-2,by omega⟩
  obtain⟨ra,ea⟩:=a.d_hd
  have l1:=ua a.hd [w_both,w_either] (tolB a)
  have hl':(inn a.hd [w_both,w_either] (tolB a)).length+1<=800:=by simpa[tolB] using hl
  have ia:=qk a k h (by omega) (by omega)
  show J4 (k+1+1) 0 [.tup [.str w_not,a.d]] μ=.ok (sL ([w_not]++inn a.hd [w_both,w_either] (tolB a))) μ
  rw[ea] at ia ⊢
  have ia:=Y4 (ks:=[w_both,w_either]) (B.asc (a:=a) h) (by decide) ia (by omega)
  rw[Fi]
  exact u3 6 ((v_set 1 rfl).trans ((v_skip rfl).trans ((v_skip rfl).trans ((v_skip rfl).trans ((v_skip rfl).trans (v_take rfl (v_bin (x:=sL [w_not]) rfl (v_call rfl ia) (yx (by simp;omega)))))))))
 |.both a b,k,h,hl,hk=>by
  simp only[B.fd] at hk
  obtain⟨k,rfl⟩:∃j,k=j+2:=⟨k-2,by omega⟩
  obtain⟨ra,ea⟩:=a.d_hd
  obtain⟨rb,eb⟩:=b.d_hd
  have l1:=ua a.hd [w_either] (tolB a)
  have l2:=ua b.hd [w_either,w_both] (tolB b)
  have hl':(inn a.hd [w_either] (tolB a)).length+1+(inn b.hd [w_either,w_both] (tolB b)).length<=800:=by simpa[tolB,Nat.add_assoc,Nat.add_comm,Nat.add_left_comm] using hl
  have ia:=qk a k h.1 (by omega) (by omega)
  have ib:=qk b k h.2 (by omega) (by omega)
  show J4 (k+1+1) 0 [.tup [.str w_both,a.d,b.d]] μ=.ok (sL (inn a.hd [w_either] (tolB a)++[Jk]++inn b.hd [w_either,w_both] (tolB b))) μ
  rw[ea] at ia ⊢
  rw[eb] at ib ⊢
  have ia:=Y4 (ks:=[w_either]) (B.asc h.1) (by decide) ia (by omega)
  have ib:=Y4 (ks:=[w_either,w_both]) (B.asc h.2) (by decide) ib (by omega)
  rw[Fi]
  exact u3 6 ((v_set 1 rfl).trans ((v_skip rfl).trans ((v_skip rfl).trans ((v_skip rfl).trans ((v_skip rfl).trans ((v_skip rfl).trans (v_seqR ((v_iteT rfl).trans ((v_set 2 rfl).trans ((v_set 3 rfl).trans ((v_set 4 (v_call rfl ib)).trans (v_ret (v_bin (v_bin (v_call rfl ia) (v_var 3 (d:=sL [Jk]) rfl) (yx (by simp;omega))) (v_var 4 rfl) (yx (by simp;omega)))))))))))))))
 |.eith a b,k,h,hl,hk=>by
  simp only[B.fd] at hk
  obtain⟨k,rfl⟩:∃j,k=j+2:=⟨k-2,by omega⟩
  obtain⟨ra,ea⟩:=a.d_hd
  obtain⟨rb,eb⟩:=b.d_hd
  have l1:=ua a.hd [] (tolB a)
  have l2:=ua b.hd [w_either] (tolB b)
  have hl':(inn a.hd [] (tolB a)).length+1+(inn b.hd [w_either] (tolB b)).length<=800:=by simpa[tolB,Nat.add_assoc,Nat.add_comm,Nat.add_left_comm] using hl
  have ia:=qk a k h.1 (by omega) (by omega)
  have ib:=qk b k h.2 (by omega) (by omega)
  show J4 (k+1+1) 0 [.tup [.str w_either,a.d,b.d]] μ=.ok (sL (inn a.hd [] (tolB a)++[U0]++inn b.hd [w_either] (tolB b))) μ
  rw[ea] at ia ⊢
  rw[eb] at ib ⊢
  have ia:=Y4 (ks:=[]) (B.asc h.1) (by decide) ia (by omega)
  have ib:=Y4 (ks:=[w_either]) (B.asc h.2) (by decide) ib (by omega)
  rw[Fi]
  exact u3 6 ((v_set 1 rfl).trans ((v_skip rfl).trans ((v_skip rfl).trans ((v_skip rfl).trans ((v_skip rfl).trans ((v_skip rfl).trans (v_seqR ((v_iteT rfl).trans ((v_set 2 rfl).trans ((v_set 3 rfl).trans ((v_set 4 (v_call rfl ib)).trans (v_ret (v_bin (v_bin (v_call rfl ia) (v_var 3 (d:=sL [U0]) rfl) (yx (by simp;omega))) (v_var 4 rfl) (yx (by simp;omega)))))))))))))))
 |.cmp x a b,k,h,hl,hk=>by
  simp only[B.fd] at hk
  obtain⟨k,rfl⟩:∃j,k=j+1:=⟨k-1,by omega⟩
  have hl':(tolN a).length+1+(tolN b).length<=800:=by simpa[tolB,Nat.add_assoc,Nat.add_comm,Nat.add_left_comm] using hl
  exact az1 h.1 (Z2 a k h.2.1 (by omega) (by omega)) (Z2 b k h.2.2 (by omega) (by omega)) (by omega)
end
noncomputable def nbN:Nat->Nat
 |0=>1
 |d+1=>2*nbN d+5
noncomputable def nbB:Nat->Nat
 |0=>27
 |d+1=>2*nbB d+7
theorem Cp:∀d,1<=nbN d
 |0=>Nat.le_refl _
 |d+1=>by simp only[nbN];omega
theorem Gn:∀d,27<=nbB d
 |0=>Nat.le_refl _
 |d+1=>by have:=Gn d;simp only[nbB];omega
theorem X1 {a:N}(h:a.ok) (ks:List (List Nat)):(inn a.hd ks (tolN a)).length<=(tolN a).length+2:=by
 unfold inn
 split
 ·rw[if_neg]
  ·simp
  ·cases a with
   |num _=>show ¬w_number∈[w_both,w_either];decide
   |len=>show ¬w_len∈[w_both,w_either];decide
   |load _ _=>show ¬w_load∈[w_both,w_either];decide
   |op x _ _ =>
    have:∀x∈opL,x∉[w_both,w_either]:=by decide
    exact this x h.1
 ·omega
theorem Ze:∀(a:N) (d:Nat),a.ok->a.dp<=d+1->(tolN a).length<=nbN d
 |.num _,d,_,_=>Cp d
 |.len,d,_,_=>Cp d
 |.load s a,d,h,hd=>by
  simp only[N.dp] at hd
  obtain⟨d,rfl⟩:∃j,d=j+1:=⟨d-1,by have:=a.dp_pos;omega⟩
  have:=Ze a d h.2 (by omega)
  simp only[tolN,nbN,List.length_append,List.length_cons,List.length_nil]
  omega
 |.op x a b,d,h,hd=>by
  simp only[N.dp] at hd
  obtain⟨d,rfl⟩:∃j,d=j+1:=⟨d-1,by have:=a.dp_pos;omega⟩
  have i1:=Ze a d h.2.1 (by omega)
  have i2:=Ze b d h.2.2 (by omega)
  have l1:=X1 h.2.1 lsL
  have l2:=X1 h.2.2 (lsL++tgt)
  have l3:=X1 h.2.1 []
  have l4:=X1 h.2.2 lsL
  unfold tolN
  split<;>simp only[nbN,List.length_append,List.length_cons,List.length_nil]<;>omega
theorem zn:∀(a:B) (d:Nat),a.ok->a.nd->a.dp<=d+1->(tolB a).length<=nbB d
 |.tru _,d,_,_,_=>by have:=Gn d;simp only[tolB,List.length_singleton];omega
 |.nt a,d,h,n,hd=>by
  simp only[B.dp] at hd
  obtain⟨d,rfl⟩:∃j,d=j+1:=⟨d-1,by have:=a.dp_pos;omega⟩
  have:=zn a d h n (by omega)
  have l1:=ua a.hd [w_both,w_either] (tolB a)
  simp only[tolB,nbB,List.length_append,List.length_cons,List.length_nil]
  omega
 |.both a b,d,h,n,hd=>by
  simp only[B.dp] at hd
  obtain⟨d,rfl⟩:∃j,d=j+1:=⟨d-1,by have:=a.dp_pos;omega⟩
  have i1:=zn a d h.1 n.1 (by omega)
  have i2:=zn b d h.2 n.2 (by omega)
  have l1:=ua a.hd [w_either] (tolB a)
  have l2:=ua b.hd [w_either,w_both] (tolB b)
  simp only[tolB,nbB,List.length_append,List.length_cons,List.length_nil]
  omega
 |.eith a b,d,h,n,hd=>by
  simp only[B.dp] at hd
  obtain⟨d,rfl⟩:∃j,d=j+1:=⟨d-1,by have:=a.dp_pos;omega⟩
  have i1:=zn a d h.1 n.1 (by omega)
  have i2:=zn b d h.2 n.2 (by omega)
  have l1:=ua a.hd [] (tolB a)
  have l2:=ua b.hd [w_either] (tolB b)
  simp only[tolB,nbB,List.length_append,List.length_cons,List.length_nil]
  omega
 |.cmp x a b,d,h,n,hd=>by
  have i1:=Ze a 2 h.2.1 n.1
  have i2:=Ze b 1 h.2.2 n.2
  have:=Gn d
  have e2:nbN 2=19:=rfl
  have e1:nbN 1=7:=rfl
  simp only[tolB,List.length_append,List.length_cons,List.length_nil]
  omega
theorem B.fd_le:∀a:B,a.nd->a.fd<=2*a.dp+5
 |.tru _,_=>by simp only[B.fd,B.dp];omega
 |.nt a,n=>by have:=B.fd_le a n;simp only[B.fd,B.dp];omega
 |.both a b,n=>by have:=B.fd_le a n.1;have:=B.fd_le b n.2;simp only[B.fd,B.dp];omega
 |.eith a b,n=>by have:=B.fd_le a n.1;have:=B.fd_le b n.2;simp only[B.fd,B.dp];omega
 |.cmp _ a b,n=>by obtain⟨h1,h2⟩:=n;simp only[B.fd,B.dp];omega
inductive G|F|F2|B|B2|T|S|S2|P|P2|N|or|and|tru|fls|not|so|lp|rp|eq|add|mul|n|len|byte|lb|rb
 deriving DecidableEq
noncomputable def G.s:G->List Nat
 |.F=>w_F|.F2=>k9|.B=>w_B|.B2=>kz|.T=>w_T|.S=>w_S|.S2=>k7|.P=>w_P|.P2=>k8|.N=>w_N
 |.or=>U0|.and=>Jk|.tru=>Jt|.fls=>Jw|.not=>w_not|.so=>Y3|.lp=>w10|.rp=>w12|.eq=>w14|.add=>w17|.mul=>w20|.n=>w_n|.len=>w_len|.byte=>ut|.lb=>w24|.rb=>w25
noncomputable def G.ws:G->Option (List (List G))
 |.F=>some [[.B,.F2]]|.F2=>some [[.or,.B,.F2],[]]|.B=>some [[.T,.B2]]|.B2=>some [[.and,.T,.B2],[]]
 |.T=>some [[.tru],[.fls],[.not,.T],[.so,.lp,.F,.rp],[.S,.eq,.S]]
 |.S=>some [[.P,.S2]]|.S2=>some [[.add,.P,.S2],[]]|.P=>some [[.N,.P2]]|.P2=>some [[.mul,.N,.P2],[]]
 |.N=>some [[.n],[.len],[.byte,.lb,.S,.rb],[.lp,.S,.rp]]
 |_=>none
noncomputable def gL (L:List G):D:=.lst ((L.map G.s).map .str)
noncomputable def wsD (g:G):D:=.lst ((g.ws.getD []).map gL)
noncomputable def tb:D:=.dic [.inr w_F,.inr k9,.inr w_B,.inr kz,.inr w_T,.inr w_S,.inr k7,.inr w_P,.inr k8,.inr w_N] [wsD .F,wsD .F2,wsD .B,wsD .B2,wsD .T,wsD .S,wsD .S2,wsD .P,wsD .P2,wsD .N]
theorem gram_eq (μ:Mu):qf [] μ=.ok tb μ:=rfl
theorem ay9 (g:G):X8 true (.str g.s) tb=some (.bl g.ws.isNone):=by cases g<;>rfl
theorem An (g:G):X8 false (.str g.s) tb=some (.bl g.ws.isSome):=by cases g<;>rfl
theorem Am {g:G}{W:List (List G)}(h:g.ws=some W):y7 tb (.str g.s)=some (.lst (W.map gL)):=by
 cases g<;>first|(cases h;rfl)|cases h
theorem a00 (g:G):∀c∈g.s,c<128:=by cases g<;>decide
theorem ag9 (L:List G):plainDs ((L.map G.s).map .str)=true:=G6 (by
 intro w hw
 obtain⟨g,_,rfl⟩:=List.mem_map.mp hw
 exact a00 g)
theorem Ev (L:List G):jp (gL L)=true:=ag9 L
theorem as8 (x:G) (r:List G):gNe (gL (x::r)) (.lst [])=some (.bl true):=by
 unfold gNe Y2
 rw[Ev,decide_eq_true (show min (dpt (gL (x::r))) (dpt (.lst []))<=100 by show min _ 1<=100;omega)]
 rfl
theorem aw2 (L:List G):gEq (gL L) (.lst [])=some (.bl L.isEmpty):=by
 unfold gEq Y2
 rw[Ev,decide_eq_true (show min (dpt (gL L)) (dpt (.lst []))<=100 by show min _ 1<=100;omega)]
 cases L<;>rfl
theorem Ko (x:G) (r:List G):je (gL (x::r)) (.int 0)=some (.str x.s):=Wh (p:=0) rfl
noncomputable def hb (b:G->Bool):List G->Bool
 |[]=>false
 |x::_=>b x
noncomputable def beg:Nat->G->List Nat->Bool
 |0,_,_=>false
 |j+1,g,k=>match g.ws with
  |none=>g.s==k
  |some W=>W.any (hb fun x=>beg j x k)
noncomputable def ht:G->Nat
 |.F=>7|.B=>6|.T=>5|.S=>4|.P=>3|.N=>2|.F2=>2|.B2=>2|.S2=>2|.P2=>2|_=>1
theorem aF0:∀{g:G}{W:List (List G)},g.ws=some W->∀w∈W,∀x r,w=x::r->ht x<ht g:=by
 intro g W h w hw x r e
 subst e
 have key:((g.ws.getD []).all fun w=>match w with|[]=>true|x::_=>decide (ht x<ht g))=true:=by cases g<;>decide
 rw[h] at key
 exact of_decide_eq_true (List.all_eq_true.mp key _ hw)
noncomputable def okK (k:List Nat):Prop:=∀c∈k,c<128
theorem aF6 {g:G}{k:List Nat}(hk:okK k):gEq (.str g.s) (.str k)=some (.bl (g.s==k)):=(WV.str (a00 g)).eq (Um hk)
noncomputable abbrev bE (R:Nat->Fn):MX:=Zs (j0 gNe (mVar 0) (jj mNil)) (j9 (R 0) (mCons (mVar 1) (mCons (j0 je (mVar 0) (mC (.int 0))) (mCons (mVar 2) mNil))))
section
variable {k:List Nat}{μ:Mu}
theorem bc {R:Nat->Fn}{b:G->Bool}:∀(W:List (List G)) (acc:List D) (a:Option D),(∀w∈W,∀x r,w=x::r->R 0 [tb,.str x.s,.str k] μ=.ok (.bl (b x)) μ)->J6 (gN 0) mTT (bE R) (W.map gL) [a,some tb,some (.str k)] μ acc=.ok (acc++(W.map fun w=>.bl (hb b w))) μ
 |[],acc,a,_=>by simp[J6]
 |w::W,acc,a,h=>by
  have e:bE R [some (gL w),some tb,some (.str k)] μ=.ok (.bl (hb b w)) μ:=by
   cases w with
   |nil=>exact a94 (v_bin (x:=gL []) (y:=.lst []) rfl rfl rfl)
   |cons x r=>exact(v_andVT (v_bin (x:=gL (x::r)) (y:=.lst []) rfl rfl (as8 x r))).trans (v_call (v_cons rfl (v_cons (v_bin (x:=gL (x::r)) rfl rfl (Ko x r)) (v_cons rfl v_nil))) (h _ List.mem_cons_self x r rfl))
  rw[List.map_cons]
  refine(Au rfl e).trans ?_
  rw[bc W _ _ fun w hw=>h w (List.mem_cons_of_mem _ hw),List.map_cons,List.append_assoc]
  rfl
theorem F9:∀bs:List Bool,Xv (bs.map .bl)=some bs
 |[]=>rfl
 |b::bs=>by
  have:=F9 bs
  simp[Xv,this]
theorem rc_b (j:Nat):uy (j+1) 0=fnOf 0 (k4 (uy j)):=rfl
theorem ay6 (g:G):(g.ws.getD []).length<=5:=by cases g<;>decide
theorem a86 (hk:okK k):∀(j:Nat) (g:G),ht g<=j->uy j 0 [tb,.str g.s,.str k] μ=.ok (.bl (beg j g k)) μ
 |0,g,h=>absurd h (by cases g<;>decide)
 |j+1,g,h=>by
  rw[rc_b]
  have t1:j8 (j0 (X8 true) (mVar 1) (mVar 0)) [some tb,some (.str g.s),some (.str k)] μ=.ok g.ws.isNone μ:=v_test (v_bin rfl rfl (ay9 g))
  unfold beg
  have hl:=ay6 g
  cases hW:g.ws with
  |none =>
   rw[hW] at t1
   exact u3 0 (v_take t1 (v_bin rfl rfl (aF6 hk)))
  |some W =>
   rw[hW] at t1 hl
   have ih:∀w∈W,∀x r,w=x::r->uy j 0 [tb,.str x.s,.str k] μ=.ok (.bl (beg j x k)) μ:=fun w hw x r e=>a86 hk j x (by have:=aF0 hW w hw x r e;omega)
   have ec:=bc (R:=uy j) (b:=fun x=>beg j x k) W [] none ih
   have em:Ul 1 [0,2] (gN 0) (uo (j0 y7 (mVar 0) (mVar 1))) mTT (bE (uy j)) [some tb,some (.str g.s),some (.str k)] μ=.ok (.lst ((W.map (hb fun x=>beg j x k)).map .bl)) μ:=by
    unfold Ul
    rw[show uo (j0 y7 (mVar 0) (mVar 1)) [some tb,some (.str g.s),some (.str k)] μ=.ok (W.map gL) μ by rw[ah4,v_bin (x:=tb) (y:=.str g.s) rfl rfl (Am hW)];rfl,bind_ok,if_pos (by rw[List.length_map];have:W.length<=5:=hl;omega)]
    show(J6 (gN 0) mTT (bE (uy j)) (W.map gL) [none,some tb,some (.str k)] μ []).bind _=_
    rw[ec,bind_ok,List.nil_append,List.map_map]
    rfl
   refine u3 0 ((v_skip t1).trans (v_ret (v_callB (v_cons em v_nil) ?_)))
   show(Xv ((W.map (hb fun x=>beg j x k)).map D.bl)).map (fun bs=>D.bl (bs.any id))=_
   rw[F9]
   show some (D.bl _)=some (D.bl _)
   congr 2
   rw[List.any_map]
   rfl
end
noncomputable def trm:List G:=[.or,.and,.tru,.fls,.not,.so,.lp,.rp,.eq,.add,.mul,.n,.len,.byte,.lb,.rb]
noncomputable def gk (k:List Nat):Option G:=trm.find? fun t=>t.s==k
theorem al5 {t:G}(ht:t∈trm) (k:List Nat):(t.s==k)=decide (gk k=some t):=by
 have inj:∀t∈trm,∀u∈trm,t.s=u.s->t=u:=by decide
 rw[Bool.eq_iff_iff,decide_eq_true_eq]
 constructor
 ·intro h
  have h':t.s=k:=eq_of_beq h
  unfold gk
  cases hq:trm.find? fun t=>t.s==k with
  |none=>exact absurd h (by have:=List.find?_eq_none.mp hq t ht;simpa using this)
  |some u =>
   have h1:=List.find?_some hq
   have h2:=List.mem_of_find?_eq_some hq
   rw[inj u h2 t ht (by rw[h'];exact eq_of_beq h1)]
 ·intro h
  exact List.find?_some (p:=fun t:G=>t.s==k) (l:=trm) h
noncomputable def bgo:Nat->G->Option G->Bool
 |0,_,_=>false
 |j+1,g,o=>match g.ws with
  |none=>decide (o=some g)
  |some W=>W.any (hb fun x=>bgo j x o)
theorem Ap {g:G}(h:g.ws=none):g∈trm:=by
 cases g<;>first|decide|cases h
theorem a62 {a b:G->Bool}(h:∀x,a x=b x) (w:List G):hb a w=hb b w:=by
 cases w with
 |nil=>rfl
 |cons x r=>exact h x
theorem bb (k:List Nat):∀j g,beg j g k=bgo j g (gk k)
 |0,_=>rfl
 |j+1,g=>by
  unfold beg bgo
  cases hW:g.ws with
  |none=>exact al5 (Ap hW) k
  |some W =>
   have:(fun w=>hb (fun x=>beg j x k) w)=fun w=>hb (fun x=>bgo j x (gk k)) w:=funext fun w=>a62 (fun x=>bb k j x) w
   exact congrArg W.any this
noncomputable def cnd (g:G) (o:Option G):Option (List G):=match(g.ws.getD []).filter (hb fun x=>bgo 10 x o) with
 |[]=>((g.ws.getD []).filter fun w=>w.isEmpty).head?
 |w::_=>some w
inductive SX|skip|fail|go (w:List G)
 deriving DecidableEq
noncomputable def sx:Nat->G->Option G->SX
 |0,_,_=>.fail
 |j+1,g,o=>match g.ws with
  |none=>if o=some g then .go [] else .fail
  |some _=>match cnd g o with
   |none=>.fail
   |some []=>.skip
   |some (x::u)=>match sx j x o with
    |.go w=>.go (w++u)
    |_=>.fail
noncomputable def nul (g:G):Bool:=decide (g∈[G.F2,.B2,.S2,.P2])
noncomputable def nxt:List G->Option G->Option (List G)
 |[],_=>none
 |g::r,o=>match sx 8 g o with
  |.skip=>nxt r o
  |.fail=>none
  |.go w=>some (w++r)
noncomputable def allG:List G:=[.F,.F2,.B,.B2,.T,.S,.S2,.P,.P2,.N,.or,.and,.tru,.fls,.not,.so,.lp,.rp,.eq,.add,.mul,.n,.len,.byte,.lb,.rb]
noncomputable def allO:List (Option G):=none::allG.map some
theorem a60 (g:G):g∈allG:=by cases g<;>decide
theorem Qn (o:Option G):o∈allO:=by
 cases o with
 |none=>exact List.mem_cons_self
 |some g=>exact List.mem_cons_of_mem _ (List.mem_map_of_mem (a60 g))
noncomputable def chk (g:G) (o:Option G):Bool:=match g.ws with
 |none=>decide (sx 8 g o=if o=some g then .go [] else .fail)&&!nul g
 |some _=>match cnd g o with
  |none=>decide (sx 8 g o=.fail)&&!nul g
  |some []=>decide (sx 8 g o=.skip)&&nul g
  | some (x::u)=>(match sx 8 x o with
   |.go w=>decide (sx 8 g o=.go (w++u))&&decide (w.length+u.length<=9)
   | _=>false)&&!nul x&&decide (ht x<ht g)&&(!nul g||decide (x.ws=none))
theorem ah9:∀g∈allG,∀o∈allO,chk g o=true:=by decide +kernel
theorem fb (g:G) (o:Option G):chk g o=true:=ah9 g (a60 g) o (Qn o)
noncomputable abbrev nT:MB:=Yk (u7 (mVar 1)) (j8 (j0 (X8 false) (j0 je (mVar 1) (mC (.int 0))) (mVar 0)))
noncomputable abbrev nR:MSt:=jh (mIf (Yk (u7 (mVar 1)) (j8 (j0 gEq (j0 je (mVar 1) (mC (.int 0))) (mVar 2)))) (mSl (mVar 1) (jk (mC (.int 1))) Jh) (mC .non))
noncomputable abbrev f1:MB:=Yk (u7 (mVar 0)) (u7 (j9 Vg (mCons (mVar 1) (mCons (j0 je (mVar 0) (mC (.int 0))) (mCons (mVar 2) mNil)))))
noncomputable def rsD:Option (List G)->D
 |none=>.non
 |some L=>gL L
section
variable {k:List Nat}{μ:Mu}
theorem fe (hk:okK k):∀(W:List (List G)) (acc:List D) (a:Option D),J6 (gN 0) f1 (mVar 0) (W.map gL) [a,some tb,some (.str k)] μ acc=.ok (acc++(W.filter (hb fun x=>bgo 10 x (gk k))).map gL) μ
 |[],acc,a=>by simp[J6]
 |w::W,acc,a=>by
  have t:f1 [some (gL w),some tb,some (.str k)] μ=.ok (hb (fun x=>bgo 10 x (gk k)) w) μ:=by
   cases w with
   |nil=>exact v_andF (Yp (d:=gL []) rfl rfl)
   |cons x r =>
    have hx:ht x<=10:=by cases x<;>decide
    refine(v_andT (Yp (d:=gL (x::r)) rfl rfl)).trans (Yp (d:=.bl (bgo 10 x (gk k))) (v_call (v_cons rfl (v_cons (v_bin (x:=gL (x::r)) rfl rfl (Ko x r)) (v_cons rfl v_nil))) ?_) rfl)
    rw[←bb]
    exact a86 hk 10 x hx
  rw[List.map_cons,J6]
  show(noX (f1 [some (gL w),some tb,some (.str k)] μ)).bind _=_
  rw[t]
  show(if hb (fun x=>bgo 10 x (gk k)) w=true then(noX (mVar 0 [some (gL w),some tb,some (.str k)] μ)).bind (fun x μ2=>J6 (gN 0) f1 (mVar 0) (W.map gL) [some (gL w),some tb,some (.str k)] μ2 (acc++[x])) else J6 (gN 0) f1 (mVar 0) (W.map gL) [some (gL w),some tb,some (.str k)] μ acc)=_
  cases hq:hb (fun x=>bgo 10 x (gk k)) w with
  |true =>
   rw[if_pos rfl]
   show J6 (gN 0) f1 (mVar 0) (W.map gL) [some (gL w),some tb,some (.str k)] μ (acc++[gL w])=_
   rw[fe hk W,List.filter_cons,if_pos hq,List.map_cons,List.append_assoc]
   rfl
  |false =>
   rw[if_neg (by simp),fe hk W,List.filter_cons,if_neg (by rw[hq];simp)]
noncomputable abbrev f2:MB:=j8 (j0 gEq (mVar 0) (jj mNil))
theorem ff:∀(W:List (List G)) (acc:List D) (a:Option D),J6 (gN 0) f2 (mVar 0) (W.map gL) [a] μ acc=.ok (acc++(W.filter fun w=>w.isEmpty).map gL) μ
 |[],acc,a=>by simp[J6]
 |w::W,acc,a=>by
  have t:f2 [some (gL w)] μ=.ok w.isEmpty μ:=v_test (v_bin (x:=gL w) (y:=.lst []) rfl rfl (aw2 w))
  rw[List.map_cons,J6]
  show(noX (f2 [some (gL w)] μ)).bind _=_
  rw[t]
  show(if w.isEmpty=true then(noX (mVar 0 [some (gL w)] μ)).bind (fun x μ2=>J6 (gN 0) f2 (mVar 0) (W.map gL) [some (gL w)] μ2 (acc++[x])) else J6 (gN 0) f2 (mVar 0) (W.map gL) [some (gL w)] μ acc)=_
  cases hq:w.isEmpty with
  |true =>
   rw[if_pos rfl]
   show J6 (gN 0) f2 (mVar 0) (W.map gL) [some (gL w)] μ (acc++[gL w])=_
   rw[ff W,List.filter_cons,if_pos hq,List.map_cons,List.append_assoc]
   rfl
  |false =>
   rw[if_neg (by simp),ff W,List.filter_cons,if_neg (by rw[hq];simp)]
theorem K0 {ρ:En}{i:Nat}{L:List D}(h:ρ[i]? =some (some (.lst L))):u7 (mVar i) ρ μ=.ok (!L.isEmpty) μ:=Yp (v_var i h) rfl
theorem aA2 {ρ:En}{i:Nat}{d:D}{L:List D}(h:ρ[i]? =some (some (.lst (d::L)))):mSl (mVar i) (jk (mC (.int 1))) Jh ρ μ=.ok (.lst L) μ:=by
 unfold mSl
 rw[v_var i h,bind_ok]
 show ofO μ (some (D.lst (M.cutD (d::L) (some 1) none)))=_
 unfold M.cutD
 rw[show(1:Int)=((1:Nat):Int) from rfl,HT.sIx_nat,HT.sIx_none]
 have e1:min 1 (d::L).length=1:=by simp only[List.length_cons];omega
 rw[e1,List.drop_one,List.tail_cons,List.take_of_length_le (by simp)]
 rfl
noncomputable def pkd (W:List (List G)) (o:Option G):List (List G):=match W.filter (hb fun x=>bgo 10 x o) with
 |[]=>W.filter fun(w:List G)=>w.isEmpty
 |w::V=>w::V
theorem a30 (hk:okK k) {g:G}{r:List G}{W:List (List G)}(hW:g.ws=some W) (hr:r.length<=1000) (n:Nat) (e3 e4:Option D):∃d3 d4,Uj nT Us (n+1) [some tb,some (gL (g::r)),some (.str k),e3,e4] μ=match cnd g (gk k) with
  |none=>.ok (.rt .non) μ
  |some w=>Uj nT Us n [some tb,some (gL (w++r)),some (.str k),d3,d4] μ:=by
 have hl:W.length<=5:=by have:=ay6 g;rw[hW] at this;exact this
 have hwl:∀w∈W,w.length<=5:=by
  have key:((g.ws.getD []).all fun w=>decide (w.length<=5))=true:=by cases g<;>decide
  rw[hW] at key
  exact fun w hw=>of_decide_eq_true (List.all_eq_true.mp key w hw)
 have t1:nT [some tb,some (gL (g::r)),some (.str k),e3,e4] μ=.ok true μ:=by
  refine(v_andT (K0 (L:=((g::r).map G.s).map .str) rfl)).trans (v_test (v_bin (x:=.str g.s) (y:=tb) (v_bin (x:=gL (g::r)) rfl rfl (Ko g r)) rfl ?_))
  show X8 false (.str g.s) tb=_
  rw[An,hW]
  rfl
 have b1:j0 y7 (mVar 0) (j0 je (mVar 1) (mC (.int 0))) [some tb,some (gL (g::r)),some (.str k),e3,e4] μ=.ok (.lst (W.map gL)) μ:=v_bin (x:=tb) (y:=.str g.s) rfl (v_bin (x:=gL (g::r)) rfl rfl (Ko g r)) (Am hW)
 have b2:Ul 1 [0,2] (gN 0) (uo (mVar 3)) f1 (mVar 0) [some tb,some (gL (g::r)),some (.str k),some (.lst (W.map gL)),e4] μ=.ok (.lst ((W.filter (hb fun x=>bgo 10 x (gk k))).map gL)) μ:=by
  unfold Ul
  rw[show uo (mVar 3) [some tb,some (gL (g::r)),some (.str k),some (.lst (W.map gL)),e4] μ=.ok (W.map gL) μ from rfl,bind_ok,if_pos (by rw[List.length_map];omega)]
  show(J6 (gN 0) f1 (mVar 0) (W.map gL) [none,some tb,some (.str k)] μ []).bind _=_
  rw[fe hk W,bind_ok,List.nil_append]
 have b3:∀e4,Ul 1 [] (gN 0) (uo (mVar 3)) f2 (mVar 0) [some tb,some (gL (g::r)),some (.str k),some (.lst (W.map gL)),e4] μ=.ok (.lst ((W.filter fun w=>w.isEmpty).map gL)) μ:=fun e4=>by
  unfold Ul
  rw[show uo (mVar 3) [some tb,some (gL (g::r)),some (.str k),some (.lst (W.map gL)),e4] μ=.ok (W.map gL) μ from rfl,bind_ok,if_pos (by rw[List.length_map];omega)]
  show(J6 (gN 0) f2 (mVar 0) (W.map gL) [none] μ []).bind _=_
  rw[ff W,bind_ok,List.nil_append]
 have add:∀{w:List G}{V:List (List G)},w.length<=5->jr 1 (j0 jo (j0 je (mVar 4) (mC (.int 0))) (mSl (mVar 1) (jk (mC (.int 1))) Jh)) [some tb,some (gL (g::r)),some (.str k),some (.lst (W.map gL)),some (.lst ((w::V).map gL))] μ=.ok (.nx [some tb,some (gL (w++r)),some (.str k),some (.lst (W.map gL)),some (.lst ((w::V).map gL))]) μ:=fun{w V} hw=>by
  have:=v_bin (g:=jo) (ma:=j0 je (mVar 4) (mC (.int 0))) (mb:=mSl (mVar 1) (jk (mC (.int 1))) Jh) (ρ:=[some tb,some (gL (g::r)),some (.str k),some (.lst (W.map gL)),some (.lst ((w::V).map gL))]) (μ:=μ) (x:=gL w) (y:=gL r) (z:=gL (w++r)) (v_bin (x:=.lst ((w::V).map gL)) rfl rfl (Wh (p:=0) rfl)) (aA2 (d:=.str g.s) rfl) (by
   show jo (gL w) (gL r)=_
   rw[show gL (w++r)=sL (w.map G.s++r.map G.s) by unfold gL;rw[List.map_append]]
   show jo (sL (w.map G.s)) (sL (r.map G.s))=_
   show(if((w.map G.s).map D.str).length+((r.map G.s).map D.str).length<=16777216 then some (D.lst ((w.map G.s).map D.str++(r.map G.s).map D.str)) else none)=_
   rw[if_pos (by simp;omega),←List.map_append])
  unfold jr
  rw[this]
  rfl
 have hc:cnd g (gk k)=match W.filter (hb fun x=>bgo 10 x (gk k)) with
   |[]=>(W.filter fun w=>w.isEmpty).head?
   |w::_=>some w:=by
  unfold cnd
  rw[hW]
  rfl
 have n4:∀{V:List (List G)},ko (u7 (mVar 4)) [some tb,some (gL (g::r)),some (.str k),some (.lst (W.map gL)),some (.lst (V.map gL))] μ=.ok (!!(V.map gL).isEmpty) μ:=fun{V}=>cg (K0 (L:=V.map gL) rfl)
 have hs:(j7 (Js (ko (u7 (mVar 4)))
  (jr 4 (Ul 1 [] (gN 0) (uo (mVar 3)) (j8 (j0 gEq (mVar 0) (jj mNil))) (mVar 0)))
  jf)
  (j7 (Js (ko (u7 (mVar 4)))
  (jh (mC .non))
  jf)
  (jr 1 (j0 jo (j0 je (mVar 4) (mC (.int 0))) (mSl (mVar 1) (jk (mC (.int 1))) Jh))))) [some tb,some (gL (g::r)),some (.str k),some (.lst (W.map gL)),some (.lst ((W.filter (hb fun x=>bgo 10 x (gk k))).map gL))] μ=match cnd g (gk k) with
   |none=>.ok (.rt .non) μ
   |some w=>.ok (.nx [some tb,some (gL (w++r)),some (.str k),some (.lst (W.map gL)),some (.lst ((pkd W (gk k)).map gL))]) μ:=by
  rw[hc]
  unfold pkd
  cases hV:W.filter (hb fun x=>bgo 10 x (gk k)) with
  |cons w V =>
   have hw:w∈W:=(List.mem_filter.mp (by rw[hV];exact List.mem_cons_self)).1
   exact(v_skip (n4 (V:=w::V))).trans ((v_skip (n4 (V:=w::V))).trans (add (hwl w hw)))
  |nil =>
   have e1:Js (ko (u7 (mVar 4))) (jr 4 (Ul 1 [] (gN 0) (uo (mVar 3)) (j8 (j0 gEq (mVar 0) (jj mNil))) (mVar 0))) jf [some tb,some (gL (g::r)),some (.str k),some (.lst (W.map gL)),some (.lst (([]:List (List G)).map gL))] μ=.ok (.nx [some tb,some (gL (g::r)),some (.str k),some (.lst (W.map gL)),some (.lst ((W.filter fun w=>w.isEmpty).map gL))]) μ:=by
    refine(v_iteT (n4 (V:=[]))).trans ?_
    unfold jr
    rw[b3]
    rfl
   refine(v_seqN e1).trans ?_
   cases hV2:W.filter fun w=>w.isEmpty with
   |nil=>exact v_take (n4 (V:=[])) rfl
   |cons w V =>
    have hw:w∈W:=(List.mem_filter.mp (by rw[hV2];exact List.mem_cons_self)).1
    exact(v_skip (n4 (V:=w::V))).trans (add (hwl w hw))
 have hbd:Us [some tb,some (gL (g::r)),some (.str k),e3,e4] μ=match cnd g (gk k) with
   |none=>.ok (.rt .non) μ
   |some w=>.ok (.nx [some tb,some (gL (w++r)),some (.str k),some (.lst (W.map gL)),some (.lst ((pkd W (gk k)).map gL))]) μ:=(v_set 3 b1).trans ((v_set 4 b2).trans hs)
 refine⟨some (.lst (W.map gL)),some (.lst ((pkd W (gk k)).map gL)),?_⟩
 rw[Uj,t1,bind_ok,if_pos rfl,hbd]
 cases cnd g (gk k) with
 |none=>rfl
 |some w=>rfl
theorem Gm (hk:okK k) {gs:List G}(hg:∀g r,gs=g::r->g.ws=none) (n:Nat) (e3 e4:Option D):(Uj nT Us (n+1) [some tb,some (gL gs),some (.str k),e3,e4] μ).bind (Ba nR)=.ok (.rt (rsD (nxt gs (gk k)))) μ:=by
 cases gs with
 |nil =>
  have t1:nT [some tb,some (gL []),some (.str k),e3,e4] μ=.ok false μ:=v_andF (K0 (L:=[]) rfl)
  rw[Uj,t1,bind_ok,if_neg (by simp),bind_ok]
  exact v_ret (v5 (v_andF (K0 (L:=[]) rfl)))
 |cons g r =>
  have hW:=hg g r rfl
  have t1:nT [some tb,some (gL (g::r)),some (.str k),e3,e4] μ=.ok false μ:=by
   refine(v_andT (K0 (L:=((g::r).map G.s).map .str) rfl)).trans (v_test (v_bin (x:=.str g.s) (y:=tb) (v_bin (x:=gL (g::r)) rfl rfl (Ko g r)) rfl ?_))
   show X8 false (.str g.s) tb=_
   rw[An,hW]
   rfl
  rw[Uj,t1,bind_ok,if_neg (by simp),bind_ok]
  have t2:Yk (u7 (mVar 1)) (j8 (j0 gEq (j0 je (mVar 1) (mC (.int 0))) (mVar 2))) [some tb,some (gL (g::r)),some (.str k),e3,e4] μ=.ok (g.s==k) μ:=(v_andT (K0 (L:=((g::r).map G.s).map .str) rfl)).trans (v_test (v_bin (x:=.str g.s) (y:=.str k) (v_bin (x:=gL (g::r)) rfl rfl (Ko g r)) rfl (aF6 hk)))
  have hc:=fb g (gk k)
  unfold chk at hc
  rw[hW] at hc
  simp only[Bool.and_eq_true,decide_eq_true_eq] at hc
  unfold nxt
  rw[al5 (Ap hW)] at t2
  rw[hc.1]
  by_cases z:gk k=some g
  ·rw[decide_eq_true z] at t2
   rw[if_pos z]
   exact v_ret ((v_ifT t2).trans (aA2 (d:=.str g.s) rfl))
  ·rw[decide_eq_false z] at t2
   rw[if_neg z]
   exact v_ret (v5 t2)
theorem a31 (hk:okK k):∀(h:Nat) (g:G) (r:List G) (n:Nat) (e3 e4:Option D),ht g<=h->nul g=false->h<=n->r.length+4*h<=1000->(Uj nT Us (n+1) [some tb,some (gL (g::r)),some (.str k),e3,e4] μ).bind (Ba nR)=.ok (.rt (rsD (nxt (g::r) (gk k)))) μ
 |0,g,r,n,e3,e4,h1,_,_,_=>absurd h1 (by cases g<;>decide)
 |h+1,g,r,n,e3,e4,h1,h2,h3,h4=>by
  have hc:=fb g (gk k)
  unfold chk at hc
  cases hW:g.ws with
  |none=>exact Gm hk (fun g' r' e=>by cases e;exact hW) n e3 e4
  |some W =>
   rw[hW] at hc
   obtain⟨d3,d4,e⟩:=a30 (μ:=μ) hk hW (r:=r) (by omega) n e3 e4
   rw[e]
   cases hq:cnd g (gk k) with
   |none =>
    rw[hq] at hc
    simp only[Bool.and_eq_true,decide_eq_true_eq] at hc
    unfold nxt
    rw[hc.1]
    rfl
   |some w =>
    rw[hq] at hc
    cases w with
    |nil =>
     simp only[Bool.and_eq_true] at hc
     rw[h2] at hc
     exact absurd hc.2 (by simp)
    |cons x u =>
     dsimp only at hc
     cases hx:sx 8 x (gk k) with
     |skip=>rw[hx] at hc;simp at hc
     |fail=>rw[hx] at hc;simp at hc
     |go w =>
      rw[hx] at hc
      simp only[Bool.and_eq_true,decide_eq_true_eq,Bool.not_eq_true'] at hc
      obtain⟨⟨⟨⟨c1,c2⟩,c3⟩,c4⟩,c5⟩:=hc
      obtain⟨n,rfl⟩:∃m,n=m+1:=⟨n-1,by omega⟩
      have hul:u.length<=3:=by
       have key:(allG.all fun g=>allO.all fun o=>match cnd g o with|some (_::u)=>decide (u.length<=3)|_=>true)=true:=by decide +kernel
       have:=List.all_eq_true.mp (List.all_eq_true.mp key g (a60 g)) (gk k) (Qn _)
       rw[hq] at this
       exact of_decide_eq_true this
      show(Uj nT Us (n+1) [some tb,some (gL (x::(u++r))),some (.str k),d3,d4] μ).bind (Ba nR)=_
      rw[a31 hk h x (u++r) n d3 d4 (by omega) c3 (by omega) (by rw[List.length_append];omega)]
      unfold nxt
      rw[hx,c1]
      dsimp only
      rw[List.append_assoc]
theorem n_all (hk:okK k):∀(gs:List G) (n:Nat) (e3 e4:Option D),gs.length+9<=n->gs.length<=900->(Uj nT Us (n+1) [some tb,some (gL gs),some (.str k),e3,e4] μ).bind (Ba nR)=.ok (.rt (rsD (nxt gs (gk k)))) μ
 |[],n,e3,e4,_,_=>Gm hk (gs:=[]) (fun _ _ e=>by cases e) n e3 e4
 |g::r,n,e3,e4,h1,h2=>by
  simp only[List.length_cons] at h1 h2
  cases hn:nul g with
  |false=>exact a31 hk 7 g r n e3 e4 (by cases g<;>decide) hn (by omega) (by omega)
  |true =>
   have hc:=fb g (gk k)
   unfold chk at hc
   cases hW:g.ws with
   |none=>exact Gm hk (fun g' r' e=>by cases e;exact hW) n e3 e4
   |some W =>
    rw[hW] at hc
    obtain⟨d3,d4,e⟩:=a30 (μ:=μ) hk hW (r:=r) (by omega) n e3 e4
    rw[e]
    cases hq:cnd g (gk k) with
    |none =>
     rw[hq,hn] at hc
     simp at hc
    |some w =>
     rw[hq] at hc
     obtain⟨n,rfl⟩:∃m,n=m+1:=⟨n-1,by omega⟩
     cases w with
     |nil =>
      simp only[Bool.and_eq_true,decide_eq_true_eq] at hc
      show(Uj nT Us (n+1) [some tb,some (gL r),some (.str k),d3,d4] μ).bind (Ba nR)=_
      rw[n_all hk r n d3 d4 (by omega) (by omega)]
      conv=>rhs;unfold nxt
      rw[hc.1]
     |cons x u =>
      dsimp only at hc
      cases hx:sx 8 x (gk k) with
      |skip=>rw[hx] at hc;simp at hc
      |fail=>rw[hx] at hc;simp at hc
      |go w =>
       rw[hx,hn] at hc
       simp only[Bool.and_eq_true,decide_eq_true_eq,Bool.not_eq_true',Bool.not_true,Bool.false_or] at hc
       obtain⟨⟨⟨⟨c1,c2⟩,c3⟩,c4⟩,c5⟩:=hc
       show(Uj nT Us (n+1) [some tb,some (gL (x::(u++r))),some (.str k),d3,d4] μ).bind (Ba nR)=_
       rw[Gm hk (fun g' r' e=>by cases e;exact c5) n d3 d4]
       unfold nxt
       rw[hx,c1]
       dsimp only
       rw[List.append_assoc]
theorem Go (hk:okK k) {gs:List G}(h:gs.length<=900):zt [tb,gL gs,.str k] μ=.ok (rsD (nxt gs (gk k))) μ:=u3 2 (n_all hk gs 999 none none (by omega) h)
end
theorem ao7 (g:G) (o:Option G):match sx 8 g o with
  |.go w=>w.length<=9
  |_=>True:=by
 have key:(allG.all fun g=>allO.all fun o=>match sx 8 g o with|.go w=>decide (w.length<=9)|_=>true)=true:=by decide +kernel
 have:=List.all_eq_true.mp (List.all_eq_true.mp key g (a60 g)) o (Qn o)
 cases hs:sx 8 g o with
 |go w=>rw[hs] at this;exact of_decide_eq_true this
 |_=>trivial
theorem Gp:∀(gs:List G) (o:Option G) (gs':List G),nxt gs o=some gs'->gs'.length<=gs.length+8
 |[],_,_,h=>nomatch h
 |g::r,o,gs',h=>by
  have hl:=ao7 g o
  unfold nxt at h
  cases hs:sx 8 g o with
  |skip =>
   rw[hs] at h
   have:=Gp r o gs' h
   simp only[List.length_cons]
   omega
  |fail=>rw[hs] at h;cases h
  |go w =>
   rw[hs] at h hl
   cases h
   have hl:w.length<=9:=hl
   simp only[List.length_append,List.length_cons]
   omega
noncomputable abbrev pT:D->Option D:=opD U8 Uz
noncomputable abbrev sT:D->Option D:=opD Yj Yf
noncomputable abbrev cT:D->Option D:=opD Je Jd
noncomputable abbrev zT:D->Option D:=opD Jz Jy
noncomputable def kdT:List (List Nat×G):=[(Jk,.and),(U0,.or),(w_not,.not),(Y3,.so),(w_len,.len),(ut,.byte),(U3,.byte),(U2,.byte),(Ju,.mul),(Jt,.tru),(Jw,.fls),(w29,.mul),(w30,.mul),(w31,.eq),(w32,.eq),(w33,.eq),(w34,.eq),(w35,.eq),(w14,.eq),(w17,.add),(w36,.add),(w20,.mul),(w37,.mul),(w38,.mul),(w39,.add),(w40,.add),(w10,.lp),(w12,.rp),(w24,.lb),(w25,.rb)]
noncomputable def kO:D->Option G
 |.int _=>some .n
 |.str x=>kdT.lookup x
 |_=>none
inductive Kd:D->Prop
 |non:Kd .non
 |int {i:Int}:Kd (.int i)
 |str {x:List Nat}:x∈kdT.map Prod.fst->Kd (.str x)
theorem Kd.z {d:D}(h:Kd d):(zT d).isSome=decide (kO d=some .byte):=by
 have k:∀x∈kdT.map Prod.fst,(zT (.str x)).isSome=decide (kO (.str x)=some .byte):=by decide
 cases h with
 |non=>rfl
 |int=>rfl
 |str h=>exact k _ h
theorem Kd.p {d:D}(h:Kd d):(pT d).isSome=decide (kO d=some .mul):=by
 have k:∀x∈kdT.map Prod.fst,(pT (.str x)).isSome=decide (kO (.str x)=some .mul):=by decide
 cases h with
 |non=>rfl
 |int=>rfl
 |str h=>exact k _ h
theorem Kd.s {d:D}(h:Kd d):(sT d).isSome=decide (kO d=some .add):=by
 have k:∀x∈kdT.map Prod.fst,(sT (.str x)).isSome=decide (kO (.str x)=some .add):=by decide
 cases h with
 |non=>rfl
 |int=>rfl
 |str h=>exact k _ h
theorem Kd.c {d:D}(h:Kd d):(cT d).isSome=decide (kO d=some .eq):=by
 have k:∀x∈kdT.map Prod.fst,(cT (.str x)).isSome=decide (kO (.str x)=some .eq):=by decide
 cases h with
 |non=>rfl
 |int=>rfl
 |str h=>exact k _ h
noncomputable def prs:List (List Nat×G):=[(U0,.or),(Jk,.and),(Jt,.tru),(Jw,.fls),(w_not,.not),(Y3,.so),(w10,.lp),(w12,.rp),(w24,.lb),(w25,.rb),(w_len,.len)]
theorem Kd.is {d:D}(h:Kd d) {w:List Nat}{g:G}(hw:(w,g)∈prs):isW d w=decide (kO d=some g):=by
 have k:∀x∈kdT.map Prod.fst,∀p∈prs,isW (.str x) p.1=decide (kO (.str x)=some p.2):=by decide
 have k2:∀p∈prs,p.2≠.n:=by decide
 cases h with
 |non=>rfl
 |int=>exact(decide_eq_false (fun e=>k2 _ hw (Option.some.inj e).symm)).symm
 |str h=>exact k _ h _ hw
theorem Kd.or {d:D}(h:Kd d):(orT d).isSome=decide (kO d=some .or):=by
 rw[←h.is (w:=U0) (by decide)]
 unfold orT
 cases isW d U0<;>rfl
theorem Kd.and {d:D}(h:Kd d):(ai4 d).isSome=decide (kO d=some .and):=by
 rw[←h.is (w:=Jk) (by decide)]
 unfold ai4
 cases isW d Jk<;>rfl
theorem Kd.n {d:D}(h:Kd d) (hn:kO d≠some .n):∀i,d≠.int i:=by
 intro i e
 subst e
 exact hn rfl
inductive RO|ok|er (p:Nat)
noncomputable def run:List G->List (Option G)->Nat->RO
 |gs,[],p=>if gs.all nul=true then .ok else .er p
 |gs,o::l,p=>match nxt gs o with
  |none=>.er p
  |some gs'=>run gs' l (p+1)
noncomputable def rn (ws:List D) (gs:List G) (p:Nat):RO:=run gs ((ws.map kO).drop p) p
noncomputable def wt:Option G->Int
 |some .not=>1
 |some .lp=>1
 |some .lb=>1
 |some .rp=> -1
 |some .rb=> -1
 |_=>0
noncomputable def ms (ws:List D):Nat->Int
 |0=>0
 |p+1=>ms ws p+wt (kO (hd ws p))
section
variable {ws:List D}
theorem Fl {gs:List G}{p:Nat}(h:p<ws.length):rn ws gs p=match nxt gs (kO (hd ws p)) with
  |none=>.er p
  |some gs'=>rn ws gs' (p+1):=by
 unfold rn
 rw[List.drop_eq_getElem_cons (by simpa using h:p<(ws.map kO).length)]
 have e:(ws.map kO)[p]'(by simpa using h)=kO (hd ws p):=by
  rw[List.getElem_map]
  unfold hd
  rw[List.getElem?_eq_getElem h]
  rfl
 rw[e,run]
theorem G3 {gs:List G}{p:Nat}(h:ws.length<=p):rn ws gs p=if gs.all nul=true then .ok else .er p:=by
 unfold rn
 rw[List.drop_eq_nil_of_le (by simpa using h),run]
theorem av5 {p:Nat}(h:ws.length<=p):hd ws p=.non:=by
 unfold hd
 rw[List.getElem?_eq_none h]
 rfl
theorem qa {p:Nat}{g:G}(h:kO (hd ws p)=some g):p<ws.length:=by
 by_cases z:p<ws.length
 ·exact z
 ·rw[av5 (by omega)] at h
  cases h
noncomputable def a81 (g:G) (o:Option G):Bool:=match sx 8 g o with
 |.go _=>o.isSome
 |.skip=>nul g
 |.fail=> !nul g
theorem a80:∀g∈allG,∀o∈allO,a81 g o=true:=by decide +kernel
theorem F0 (g:G) (o:Option G):a81 g o=true:=a80 g (a60 g) o (Qn o)
theorem wb {g:G}{w r:List G}{p:Nat}(h:sx 8 g (kO (hd ws p))=.go w):p<ws.length/\rn ws (g::r) p=rn ws (w++r) (p+1):=by
 have hc:=F0 g (kO (hd ws p))
 unfold a81 at hc
 rw[h] at hc
 obtain⟨o,ho⟩:=Option.isSome_iff_exists.mp hc
 have hp:=qa ho
 refine⟨hp,?_⟩
 rw[Fl hp,nxt,h]
theorem aa6 {g:G}{r:List G}{p:Nat}(h:sx 8 g (kO (hd ws p))=.skip):rn ws (g::r) p=rn ws r p:=by
 have hc:=F0 g (kO (hd ws p))
 unfold a81 at hc
 rw[h] at hc
 by_cases z:p<ws.length
 ·rw[Fl z,Fl z,nxt,h]
 ·rw[G3 (by omega),G3 (by omega),List.all_cons,show nul g=true from hc,Bool.true_and]
theorem xw {g:G}{r:List G}{p:Nat}(h:sx 8 g (kO (hd ws p))=.fail):rn ws (g::r) p=.er p:=by
 have hc:=F0 g (kO (hd ws p))
 unfold a81 at hc
 rw[h] at hc
 by_cases z:p<ws.length
 ·rw[Fl z,nxt,h]
 ·rw[G3 (by omega),List.all_cons,show nul g=false by simpa using hc,Bool.false_and]
  rfl
noncomputable def Wq (X Y:G) (Z:List G) (o:Option G):Bool:=match sx 8 Y o with
 |.go w=>decide (sx 8 X o=.go (w++Z))
 |.fail=>decide (sx 8 X o=.fail)
 |.skip=>false
theorem vn {X Y:G}{Z r:List G}{p:Nat}(h:Wq X Y Z (kO (hd ws p))=true):rn ws (X::r) p=rn ws (Y::(Z++r)) p:=by
 unfold Wq at h
 cases hs:sx 8 Y (kO (hd ws p)) with
 |go w =>
  rw[hs] at h
  rw[(wb hs).2,(wb (of_decide_eq_true h)).2,List.append_assoc]
 |fail =>
  rw[hs] at h
  rw[xw hs,xw (of_decide_eq_true h)]
 |skip=>rw[hs] at h;cases h
theorem aG5 (o:Option G):Wq .F .B [.F2] o=true:=(show ∀o∈allO,Wq .F .B [.F2] o=true by decide +kernel) o (Qn o)
theorem aG6 (o:Option G):Wq .B .T [.B2] o=true:=(show ∀o∈allO,Wq .B .T [.B2] o=true by decide +kernel) o (Qn o)
theorem aG3 (o:Option G):Wq .S .P [.S2] o=true:=(show ∀o∈allO,Wq .S .P [.S2] o=true by decide +kernel) o (Qn o)
theorem aG4 (o:Option G):Wq .P .N [.P2] o=true:=(show ∀o∈allO,Wq .P .N [.P2] o=true by decide +kernel) o (Qn o)
theorem aG2 {o:Option G}(h:o∉[some .tru,some .fls,some .not,some .so]):Wq .T .S [.eq,.S] o=true:=(show ∀o∈allO,o∉[some .tru,some .fls,some .not,some .so]->Wq .T .S [.eq,.S] o=true by decide +kernel) o (Qn o) h
theorem av8 {o:Option G}(h:o∉[some .byte,some .lp,some .len,some .n]):sx 8 .N o=.fail:=(show ∀o∈allO,o∉[some .byte,some .lp,some .len,some .n]->sx 8 .N o=.fail by decide +kernel) o (Qn o) h
theorem gn {g:G}(h:g.ws=none) {o:Option G}:sx 8 g o=if o=some g then .go [] else .fail:=by
 have hc:=fb g o
 unfold chk at hc
 rw[h] at hc
 simp only[Bool.and_eq_true,decide_eq_true_eq] at hc
 exact hc.1
noncomputable def Sim (ws:List D) (A:List G) (c:Int) (p:Nat):PR->Prop
 |.ok _ q=>p<=q/\q<=ws.length/\ms ws p+c<=ms ws q/\∀r,rn ws (A++r) p=rn ws r q
 |.er q=>∀r,rn ws (A++r) p=.er q
 |.out=>False
theorem Sim.le {A:List G}{c c':Int}{p:Nat}{x:PR}(h:Sim ws A c p x) (hc:c'<=c):Sim ws A c' p x:=by
 cases x with
 |ok t q=>obtain⟨h1,h2,h3,h4⟩:=h;exact⟨h1,h2,by omega,h4⟩
 |er q=>exact h
 |out=>exact h
theorem Sim.of {A B:List G}{c:Int}{p:Nat}{x:PR}(e:∀r,rn ws (A++r) p=rn ws (B++r) p) (h:Sim ws B c p x):Sim ws A c p x:=by
 cases x with
 |ok t q=>obtain⟨h1,h2,h3,h4⟩:=h;exact⟨h1,h2,h3,fun r=>(e r).trans (h4 r)⟩
 |er q=>exact fun r=>(e r).trans (h r)
 |out=>exact h
theorem Sim.bind {A B:List G}{a b:Int}{p:Nat}{x:PR}{f:D->Nat->PR}(h:Sim ws A a p x) (hf:∀t q,p<=q->q<=ws.length->ms ws p+a<=ms ws q->Sim ws B b q (f t q)):Sim ws (A++B) (a+b) p (x.bind f):=by
 cases x with
 |ok t q =>
  obtain⟨h1,h2,h3,h4⟩:=h
  have h:=hf t q h1 h2 h3
  show Sim ws (A++B) (a+b) p (f t q)
  cases hx:f t q with
  |ok t2 q2 =>
   rw[hx] at h
   obtain⟨g1,g2,g3,g4⟩:=h
   exact⟨by omega,g2,by omega,fun r=>by rw[List.append_assoc,h4,g4]⟩
  |er q2 =>
   rw[hx] at h
   exact fun r=>by rw[List.append_assoc,h4,h r]
  |out=>rw[hx] at h;exact h
 |er q=>exact fun r=>by rw[List.append_assoc,h]
 |out=>exact h
theorem Sim.go {g:G}{w:List G}{c:Int}{p:Nat}{x:PR}(hg:sx 8 g (kO (hd ws p))=.go w) (h:Sim ws w c (p+1) x):Sim ws [g] (wt (kO (hd ws p))+c) p x:=by
 have e:ms ws (p+1)=ms ws p+wt (kO (hd ws p)):=rfl
 cases x with
 |ok t q =>
  obtain⟨h1,h2,h3,h4⟩:=h
  exact⟨by omega,h2,by omega,fun r=>(wb (r:=r) hg).2.trans (h4 r)⟩
 |er q=>exact fun r=>(wb (r:=r) hg).2.trans (h r)
 |out=>exact h
theorem Sim.ef {A:List G}{c:Int}{p:Nat}(hp:p<=ws.length) (hl:ws.length<=90) (h:∀r,rn ws (A++r) p=.er p):Sim ws A c p (ef p):=by
 unfold K11.ef
 rw[if_pos (by omega)]
 exact h
theorem Sim.nil {p:Nat}{t:D}(hp:p<=ws.length):Sim ws [] 0 p (.ok t p):=⟨Nat.le_refl _,hp,by omega,fun r=>rfl⟩
variable (hK:∀p,Kd (hd ws p)) (hM:∀p,p<ws.length->ms ws p<=11) (hL:ws.length<=90)
include hK hL in
theorem Sim.exp {w:List Nat}{g:G}{p:Nat}{A:List G}{c:Int}{k:Nat->PR}(hw:(w,g)∈prs) (hg:g.ws=none) (hp:p<=ws.length) (h:kO (hd ws p)=some g->Sim ws A c (p+1) (k (p+1))):Sim ws (g::A) (wt (some g)+c) p (Y9 ws w p k):=by
 unfold Y9
 rw[(hK p).is hw]
 by_cases z:kO (hd ws p)=some g
 ·rw[if_pos (decide_eq_true z)]
  have hs:sx 8 g (kO (hd ws p))=.go []:=by rw[gn hg,if_pos z]
  have e:ms ws (p+1)=ms ws p+wt (kO (hd ws p)):=rfl
  rw[z] at e
  have h:=h z
  cases hx:k (p+1) with
  |ok t q =>
   rw[hx] at h
   obtain⟨h1,h2,h3,h4⟩:=h
   exact⟨by omega,h2,by omega,fun r=>(wb (r:=A++r) hs).2.trans (h4 r)⟩
  |er q =>
   rw[hx] at h
   exact fun r=>(wb (r:=A++r) hs).2.trans (h r)
  |out=>rw[hx] at h;exact h
 ·rw[if_neg (by simpa using z)]
  exact Sim.ef hp hL fun r=>xw (r:=A++r) (by rw[gn hg,if_neg z])
include hM in
theorem X0 {wi p:Nat}{k:Nat->PR}(hp:p<ws.length) (hw:(wi:Int)<=ms ws p):into wi p k=k (p+1):=if_neg (by have:=hM p hp;omega)
include hK hL in
theorem V6 {T:D->Option D}{f:Nat->PR}{X X2 tok:G}{wi:Nat}(hT:∀p,(T (hd ws p)).isSome=decide (kO (hd ws p)=some tok)) (hgo:sx 8 X2 (some tok)=.go [X,X2]) (hsk:∀o,o≠some tok->sx 8 X2 o=.skip) (hwt:wt (some tok)=0)
  (hf:∀q,(wi:Int)<=ms ws q->q<=ws.length->Sim ws [X] 0 q (f q)):∀(n:Nat) (t:D) (p:Nat),(wi:Int)<=ms ws p->p<=ws.length->ws.length<n+p->Sim ws [X2] 0 p (lp ws T f n t p)
 |0,t,p,_,h2,h3=>absurd h3 (by omega)
 |n+1,t,p,h1,h2,h3=>by
  have ht:=hT p
  unfold lp
  cases hq:T (hd ws p) with
  |none =>
   rw[hq] at ht
   have hne:kO (hd ws p)≠some tok:=fun e=>by rw[decide_eq_true e] at ht;cases ht
   exact⟨Nat.le_refl _,h2,by omega,fun r=>aa6 (r:=r) (hsk _ hne)⟩
  |some o =>
   rw[hq] at ht
   have he:kO (hd ws p)=some tok:=of_decide_eq_true ht.symm
   have hp:=qa he
   have em:ms ws (p+1)=ms ws p:=by show ms ws p+wt (kO (hd ws p))=_;rw[he,hwt];omega
   have:=Sim.go (p:=p) (x:=(f (p+1)).bind fun t2 q=>lp ws T f n (.tup [o,t,t2]) q) (by rw[he];exact hgo) (Sim.bind (A:=[X]) (B:=[X2]) (b:=0) (hf (p+1) (by omega) (by omega)) fun t2 q g1 g2 g3=>V6 hT hgo hsk hwt hf n _ q (by omega) g2 (by omega))
   rw[he,hwt] at this
   exact this.le (by omega)
noncomputable def gi:Nat->G
 |0=>.S
 |1=>.P
 |_=>.N
include hK hM hL in
theorem vt:∀(k i wi p:Nat),(i<=3->4*(12-wi)+5<=k+i)->(4<=i->4*(12-wi)+2<=k)->(wi:Int)<=ms ws p->p<=ws.length->(i=3->kO (hd ws p)=some .byte)->(4<=i->kO (hd ws p)=some .lp)->Sim ws [gi i] 0 p (gS ws k i wi p)
 |0,0,wi,p,h1,h2,_,_,_,_=>absurd (h1 (by omega)) (by omega)
 |0,1,wi,p,h1,h2,_,_,_,_=>absurd (h1 (by omega)) (by omega)
 |0,2,wi,p,h1,h2,_,_,_,_=>absurd (h1 (by omega)) (by omega)
 |0,3,wi,p,h1,h2,_,_,_,_=>absurd (h1 (by omega)) (by omega)
 |0,i+4,wi,p,h1,h2,_,_,_,_=>absurd (h2 (by omega)) (by omega)
 |k+1,0,wi,p,h1,_,hw,hp,_,_=>by
  have hk:=h1 (by omega)
  have hc:∀q,(wi:Int)<=ms ws q->q<=ws.length->Sim ws [.P] 0 q (gS ws k 1 wi q):=fun q h hq=>vt k 1 wi q (fun _=>by omega) (fun z=>absurd z (by decide)) h hq (fun z=>absurd z (by decide)) (fun z=>absurd z (by decide))
  show Sim ws [.S] 0 p ((gS ws k 1 wi p).bind fun t q=>lp ws sT (fun q=>gS ws k 1 wi q) 100 t q)
  exact(Sim.of (B:=[.P]++[.S2]) (fun r=>vn (r:=r) (aG3 _)) (Sim.bind (b:=0) (hc p hw hp) fun t q g1 g2 g3=>V6 hK hL (fun p=>(hK p).s) (by decide +kernel) (fun o ho=>(show ∀o∈allO,o≠some .add->sx 8 .S2 o=.skip by decide +kernel) o (Qn o) ho) rfl hc 100 t q (by omega) g2 (by omega))).le (by omega)
 |k+1,1,wi,p,h1,_,hw,hp,_,_=>by
  have hk:=h1 (by omega)
  have hc:∀q,(wi:Int)<=ms ws q->q<=ws.length->Sim ws [.N] 0 q (gS ws k 2 wi q):=fun q h hq=>vt k 2 wi q (fun _=>by omega) (fun z=>absurd z (by decide)) h hq (fun z=>absurd z (by decide)) (fun z=>absurd z (by decide))
  show Sim ws [.P] 0 p ((gS ws k 2 wi p).bind fun t q=>lp ws pT (fun q=>gS ws k 2 wi q) 100 t q)
  exact(Sim.of (B:=[.N]++[.P2]) (fun r=>vn (r:=r) (aG4 _)) (Sim.bind (b:=0) (hc p hw hp) fun t q g1 g2 g3=>V6 hK hL (fun p=>(hK p).p) (by decide +kernel) (fun o ho=>(show ∀o∈allO,o≠some .mul->sx 8 .P2 o=.skip by decide +kernel) o (Qn o) ho) rfl hc 100 t q (by omega) g2 (by omega))).le (by omega)
 |k+1,2,wi,p,h1,_,hw,hp,_,_=>by
  have hk:=h1 (by omega)
  have e:gS ws (k+1) 2 wi p=if(zT (hd ws p)).isSome=true then gS ws k 3 wi p else if isW (hd ws p) lpW=true then gS ws k 4 wi p else if isW (hd ws p) w_len=true then .ok (.tup [.str w_len]) (p+1) else match hd ws p with
   |.int i=>.ok (.tup [.str w_number,.int i]) (p+1)
   |_=>ef p:=rfl
  rw[e,(hK p).z,(hK p).is (w:=lpW) (g:=.lp) (by decide),(hK p).is (w:=w_len) (g:=.len) (by decide)]
  show Sim ws [.N] 0 p _
  by_cases z1:kO (hd ws p)=some .byte
  ·rw[if_pos (decide_eq_true z1)]
   exact vt k 3 wi p (fun _=>by omega) (fun z=>absurd z (by decide)) hw hp (fun _=>z1) (fun z=>absurd z (by decide))
  ·rw[if_neg (by simpa using z1)]
   by_cases z2:kO (hd ws p)=some .lp
   ·rw[if_pos (decide_eq_true z2)]
    exact vt k 4 wi p (fun z=>absurd z (by decide)) (fun _=>by omega) hw hp (fun z=>absurd z (by decide)) (fun _=>z2)
   ·rw[if_neg (by simpa using z2)]
    by_cases z3:kO (hd ws p)=some .len
    ·rw[if_pos (decide_eq_true z3)]
     have:=qa z3
     have h:=Sim.go (g:=.N) (w:=[]) (p:=p) (x:=.ok (.tup [.str w_len]) (p+1)) (by rw[z3];decide +kernel) (Sim.nil (by omega))
     rw[z3] at h
     exact h.le (by decide)
    ·rw[if_neg (by simpa using z3)]
     by_cases z4:kO (hd ws p)=some .n
     ·have:=qa z4
      have hk:=hK p
      have:∃i,hd ws p=.int i:=by
       cases hq:hd ws p with
       |int i=>exact⟨i,rfl⟩
       |str x =>
        rw[hq] at hk z4
        cases hk with
        |str hx =>
         have k:∀x∈kdT.map Prod.fst,kO (.str x)≠some .n:=by decide
         exact absurd z4 (k _ hx)
       |non=>rw[hq] at z4;cases z4
       |_=>rw[hq] at z4;cases z4
      obtain⟨i,hi⟩:=this
      have h:=Sim.go (g:=.N) (w:=[]) (p:=p) (x:=.ok (.tup [.str w_number,.int i]) (p+1)) (by rw[z4];decide +kernel) (Sim.nil (by omega))
      rw[z4] at h
      rw[hi]
      exact h.le (by decide)
     ·have hne:=(hK p).n z4
      have hf:sx 8 .N (kO (hd ws p))=.fail:=av8 (by simp[z1,z2,z3,z4])
      have:(match hd ws p with
       |.int i=>PR.ok (.tup [.str w_number,.int i]) (p+1)
       | _=>ef p)=ef p:=by
       cases hq:hd ws p with
       |int i=>exact absurd hq (hne i)
       |_=>rfl
      rw[this]
      exact Sim.ef hp hL fun r=>xw (r:=r) hf
 |k+1,3,wi,p,h1,_,hw,hp,hb,_=>by
  have hk:=h1 (by omega)
  have hb:=hb rfl
  have hpl:=qa hb
  have e:gS ws (k+1) 3 wi p=match zT (hd ws p) with
   |some sz=>into wi p fun p=>Y9 ws lbW p fun p=>(gS ws k 0 (wi+1) p).bind fun t q=>Y9 ws rbW q fun q=>.ok (.tup [.str w_load,sz,t]) q
   |none=>.out:=rfl
  rw[e]
  have hz:=(hK p).z
  rw[hb] at hz
  obtain⟨sz,hz⟩:=Option.isSome_iff_exists.mp (hz.trans (decide_eq_true rfl))
  rw[hz]
  dsimp only
  rw[X0 hM hpl hw]
  show Sim ws [.N] 0 p _
  have em:ms ws (p+1)=ms ws p+wt (kO (hd ws p)):=rfl
  rw[hb] at em
  have em:ms ws (p+1)=ms ws p+0:=em
  have h:=Sim.go (g:=.N) (w:=[.lb,.S,.rb]) (p:=p) (x:=Y9 ws lbW (p+1) fun p=>(gS ws k 0 (wi+1) p).bind fun t q=>Y9 ws rbW q fun q=>.ok (.tup [.str w_load,sz,t]) q) (c:=wt (some .lb)+(0+(wt (some .rb)+0))) (by rw[hb];decide +kernel)
   (Sim.exp hK hL (by decide) rfl (by omega) fun hlb=>by
    have:=qa hlb
    have em2:ms ws (p+1+1)=ms ws (p+1)+wt (kO (hd ws (p+1))):=rfl
    rw[hlb] at em2
    have em2:ms ws (p+1+1)=ms ws (p+1)+1:=em2
    have hwi:wi<12:=by have:=hM p hpl;omega
    exact Sim.bind (A:=[.S]) (B:=[.rb]) (vt k 0 (wi+1) (p+1+1) (fun _=>by omega) (fun z=>absurd z (by decide)) (by omega) (by omega) (fun z=>absurd z (by decide)) (fun z=>absurd z (by decide)))
     fun t q g1 g2 g3=>Sim.exp hK hL (A:=[]) (by decide) rfl g2 fun hrb=>Sim.nil (by have:=qa hrb;omega))
  rw[hb] at h
  exact h.le (by decide)
 |k+1,i+4,wi,p,_,h1,hw,hp,_,hb=>by
  have hk:=h1 (by omega)
  have hb:=hb (by omega)
  have hpl:=qa hb
  have e:gS ws (k+1) (i+4) wi p=into wi p fun p=>(gS ws k 0 (wi+1) p).bind fun t q=>Y9 ws rpW q fun q=>.ok t q:=rfl
  rw[e,X0 hM hpl hw]
  show Sim ws [.N] 0 p _
  have em:ms ws (p+1)=ms ws p+wt (kO (hd ws p)):=rfl
  rw[hb] at em
  have em:ms ws (p+1)=ms ws p+1:=em
  have hwi:wi<12:=by have:=hM p hpl;omega
  have h:=Sim.go (g:=.N) (w:=[.S]++[.rp]) (p:=p) (x:=(gS ws k 0 (wi+1) (p+1)).bind fun t q=>Y9 ws rpW q fun q=>.ok t q) (c:=0+(wt (some .rp)+0)) (by rw[hb];decide +kernel)
   (Sim.bind (A:=[.S]) (B:=[.rp]) (vt k 0 (wi+1) (p+1) (fun _=>by omega) (fun z=>absurd z (by decide)) (by omega) (by omega) (fun z=>absurd z (by decide)) (fun z=>absurd z (by decide)))
     fun t q g1 g2 g3=>Sim.exp hK hL (A:=[]) (by decide) rfl g2 fun hrb=>Sim.nil (by have:=qa hrb;omega))
  rw[hb] at h
  exact h.le (by decide)
include hK hM hL in
theorem aG7 {wi p:Nat}(hw:(wi:Int)<=ms ws p) (hp:p<=ws.length):Sim ws [.S,.eq,.S] 0 p (aj ws wi p):=by
 have hs:∀q,(wi:Int)<=ms ws q->q<=ws.length->Sim ws [.S] 0 q (gS ws 64 0 wi q):=fun q h hq=>vt hK hM hL 64 0 wi q (fun _=>by omega) (fun z=>absurd z (by decide)) h hq (fun z=>absurd z (by decide)) (fun z=>absurd z (by decide))
 unfold aj
 refine(Sim.bind (A:=[.S]) (B:=[.eq,.S]) (a:=0) (b:=0) (hs p hw hp) fun t q g1 g2 g3=>?_).le (by omega)
 have hc:=(hK q).c
 show Sim ws [.eq,.S] 0 q (match cT (hd ws q) with
  |none=>ef q
  | some c=>(gS ws 64 0 wi (q+1)).bind fun t2 q2=>.ok (.tup [c,t,t2]) q2)
 cases hq:cT (hd ws q) with
 |none =>
  rw[hq] at hc
  have z:kO (hd ws q)≠some .eq:=fun e=>by rw[decide_eq_true e] at hc;cases hc
  exact Sim.ef g2 hL fun r=>xw (r:=[.S]++r) (by rw[gn rfl,if_neg z])
 |some c =>
  rw[hq] at hc
  have z:kO (hd ws q)=some .eq:=of_decide_eq_true hc.symm
  have hpl:=qa z
  have em:ms ws (q+1)=ms ws q+wt (kO (hd ws q)):=rfl
  rw[z] at em
  have em:ms ws (q+1)=ms ws q+0:=em
  have h2:=(Sim.bind (A:=[.S]) (B:=[]) (b:=0) (f:=fun t2 q2=>.ok (.tup [c,t,t2]) q2) (hs (q+1) (by omega) (by omega)) fun t2 q2 _ g5 _=>Sim.nil g5)
  have hg:sx 8 .eq (kO (hd ws q))=.go []:=by rw[gn rfl,if_pos z]
  dsimp only
  cases hx:(gS ws 64 0 wi (q+1)).bind fun t2 q2=>.ok (.tup [c,t,t2]) q2 with
  |ok t2 q2 =>
   rw[hx] at h2
   obtain⟨b1,b2,b3,b4⟩:=h2
   exact⟨by omega,b2,by omega,fun r=>(wb (r:=[G.S]++r) hg).2.trans (b4 r)⟩
  |er q2 =>
   rw[hx] at h2
   exact fun r=>(wb (r:=[G.S]++r) hg).2.trans (h2 r)
  |out=>rw[hx] at h2;exact h2
noncomputable def gj:Nat->G
 |0=>.F
 |1=>.B
 |_=>.T
include hK hM hL in
theorem Kl:∀(k i wi p:Nat),(i<=3)->4*(12-wi)+5<=k+i->(wi:Int)<=ms ws p->p<=ws.length->(i=3->kO (hd ws p)=some .so)->Sim ws [gj i] 0 p (gF ws k i wi p)
 |0,i,wi,p,h0,h1,_,_,_=>absurd h1 (by omega)
 |k+1,0,wi,p,_,hk,hw,hp,_=>by
  have hc:∀q,(wi:Int)<=ms ws q->q<=ws.length->Sim ws [.B] 0 q (gF ws k 1 wi q):=fun q h hq=>Kl k 1 wi q (by decide) (by omega) h hq (fun z=>absurd z (by decide))
  show Sim ws [.F] 0 p ((gF ws k 1 wi p).bind fun t q=>lp ws orT (fun q=>gF ws k 1 wi q) 100 t q)
  exact(Sim.of (B:=[.B]++[.F2]) (fun r=>vn (r:=r) (aG5 _)) (Sim.bind (b:=0) (hc p hw hp) fun t q g1 g2 g3=>V6 hK hL (fun p=>(hK p).or) (by decide +kernel) (fun o ho=>(show ∀o∈allO,o≠some .or->sx 8 .F2 o=.skip by decide +kernel) o (Qn o) ho) rfl hc 100 t q (by omega) g2 (by omega))).le (by omega)
 |k+1,1,wi,p,_,hk,hw,hp,_=>by
  have hc:∀q,(wi:Int)<=ms ws q->q<=ws.length->Sim ws [.T] 0 q (gF ws k 2 wi q):=fun q h hq=>Kl k 2 wi q (by decide) (by omega) h hq (fun z=>absurd z (by decide))
  show Sim ws [.B] 0 p ((gF ws k 2 wi p).bind fun t q=>lp ws ai4 (fun q=>gF ws k 2 wi q) 100 t q)
  exact(Sim.of (B:=[.T]++[.B2]) (fun r=>vn (r:=r) (aG6 _)) (Sim.bind (b:=0) (hc p hw hp) fun t q g1 g2 g3=>V6 hK hL (fun p=>(hK p).and) (by decide +kernel) (fun o ho=>(show ∀o∈allO,o≠some .and->sx 8 .B2 o=.skip by decide +kernel) o (Qn o) ho) rfl hc 100 t q (by omega) g2 (by omega))).le (by omega)
 |k+1,2,wi,p,_,hk,hw,hp,_=>by
  have e:gF ws (k+1) 2 wi p=if isW (hd ws p) Jt=true\/isW (hd ws p) Jw=true then .ok (.tup [.str w_truth,.bl (isW (hd ws p) Jt)]) (p+1) else if isW (hd ws p) w_not=true then into wi p fun p=>(gF ws k 2 (wi+1) p).bind fun t q=>.ok (.tup [.str w_not,t]) q else if isW (hd ws p) Y3=true then gF ws k 3 wi p else aj ws wi p:=rfl
  rw[e,(hK p).is (w:=Jt) (g:=.tru) (by decide),(hK p).is (w:=Jw) (g:=.fls) (by decide),(hK p).is (w:=w_not) (g:=.not) (by decide),(hK p).is (w:=Y3) (g:=.so) (by decide)]
  show Sim ws [.T] 0 p _
  by_cases z1:kO (hd ws p)=some .tru
  ·rw[if_pos (.inl (decide_eq_true z1))]
   have:=qa z1
   have h:=Sim.go (g:=.T) (w:=[]) (p:=p) (x:=.ok (.tup [.str w_truth,.bl (decide (kO (hd ws p)=some .tru))]) (p+1)) (by rw[z1];decide +kernel) (Sim.nil (by omega))
   exact h.le (by rw[z1];decide)
  ·by_cases z2:kO (hd ws p)=some .fls
   ·rw[if_pos (.inr (decide_eq_true z2))]
    have:=qa z2
    have h:=Sim.go (g:=.T) (w:=[]) (p:=p) (x:=.ok (.tup [.str w_truth,.bl (decide (kO (hd ws p)=some .tru))]) (p+1)) (by rw[z2];decide +kernel) (Sim.nil (by omega))
    exact h.le (by rw[z2];decide)
   ·rw[if_neg (by simp[z1,z2])]
    by_cases z3:kO (hd ws p)=some .not
    ·rw[if_pos (decide_eq_true z3)]
     have hpl:=qa z3
     rw[X0 hM hpl hw]
     have em:ms ws (p+1)=ms ws p+wt (kO (hd ws p)):=rfl
     rw[z3] at em
     have em:ms ws (p+1)=ms ws p+1:=em
     have hwi:wi<12:=by have:=hM p hpl;omega
     have h:=Sim.go (g:=.T) (w:=[.T]++[]) (p:=p) (x:=(gF ws k 2 (wi+1) (p+1)).bind fun t q=>.ok (.tup [.str w_not,t]) q) (by rw[z3];decide +kernel) (Sim.bind (A:=[.T]) (B:=[]) (b:=0) (Kl k 2 (wi+1) (p+1) (by decide) (by omega) (by omega) (by omega) (fun z=>absurd z (by decide))) fun t q _ g2 _=>Sim.nil g2)
     exact h.le (by rw[z3];decide)
    ·rw[if_neg (by simpa using z3)]
     by_cases z4:kO (hd ws p)=some .so
     ·rw[if_pos (decide_eq_true z4)]
      exact Kl k 3 wi p (by decide) (by omega) hw hp (fun _=>z4)
     ·rw[if_neg (by simpa using z4)]
      exact Sim.of (B:=[.S,.eq,.S]) (fun r=>vn (r:=r) (aG2 (by simp[z1,z2,z3,z4]))) (aG7 hK hM hL hw hp)
 |k+1,3,wi,p,_,hk,hw,hp,hb=>by
  have hb:=hb rfl
  have hpl:=qa hb
  have e:gF ws (k+1) 3 wi p=into wi p fun p=>Y9 ws lpW p fun p=>(gF ws k 0 (wi+1) p).bind fun t q=>Y9 ws rpW q fun q=>.ok t q:=rfl
  rw[e,X0 hM hpl hw]
  show Sim ws [.T] 0 p _
  have em:ms ws (p+1)=ms ws p+wt (kO (hd ws p)):=rfl
  rw[hb] at em
  have em:ms ws (p+1)=ms ws p+0:=em
  have h:=Sim.go (g:=.T) (w:=[.lp,.F,.rp]) (p:=p) (x:=Y9 ws lpW (p+1) fun p=>(gF ws k 0 (wi+1) p).bind fun t q=>Y9 ws rpW q fun q=>.ok t q) (c:=wt (some .lp)+(0+(wt (some .rp)+0))) (by rw[hb];decide +kernel)
   (Sim.exp hK hL (by decide) rfl (by omega) fun hlb=>by
    have:=qa hlb
    have em2:ms ws (p+1+1)=ms ws (p+1)+wt (kO (hd ws (p+1))):=rfl
    rw[hlb] at em2
    have em2:ms ws (p+1+1)=ms ws (p+1)+1:=em2
    have hwi:wi<12:=by have:=hM p hpl;omega
    exact Sim.bind (A:=[.F]) (B:=[.rp]) (Kl k 0 (wi+1) (p+1+1) (by decide) (by omega) (by omega) (by omega) (fun z=>absurd z (by decide)))
     fun t q g1 g2 g3=>Sim.exp hK hL (A:=[]) (by decide) rfl g2 fun hrb=>Sim.nil (by have:=qa hrb;omega))
  rw[hb] at h
  exact h.le (by decide)
 |k+1,i+4,wi,p,h,_,_,_,_=>absurd h (by omega)
include hK hM hL in
theorem ap2:match rdP ws with
  |.ok _ _=>rn ws [.F] 0=.ok
  |.er q=>rn ws [.F] 0=.er q
  |.out=>False:=by
 have h:=Kl hK hM hL 64 0 0 0 (by decide) (by decide) (show((0:Nat):Int)<=ms ws 0 from Int.le_refl 0) (by omega) (fun z=>absurd z (by decide))
 unfold rdP
 cases hx:gF ws 64 0 0 0 with
 |ok t q =>
  rw[hx] at h
  obtain⟨h1,h2,h3,h4⟩:=h
  have h4:rn ws [.F] 0=rn ws [] q:=h4 []
  show(match(if q<ws.length then ef q else .ok t q) with
   |.ok _ _=>rn ws [.F] 0=.ok
   |.er q=>rn ws [.F] 0=.er q
   | .out=>False)
  by_cases z:q<ws.length
  ·rw[if_pos z]
   unfold ef
   rw[if_pos (by omega)]
   show rn ws [.F] 0=.er q
   rw[h4,Fl z]
   rfl
  ·rw[if_neg z]
   show rn ws [.F] 0=.ok
   rw[h4,G3 (by omega)]
   rfl
 |er q =>
  rw[hx] at h
  exact h []
 |out=>rw[hx] at h;exact h
end
inductive Wk (w:List Nat):Prop
 |fig:w≠[]->(∀c∈w,dig c=true)->w.length<=20->Wk w
 |kd:w∈kdT.map Prod.fst->Wk w
 |bad:w∈[w_lens,w47,w_x]->Wk w
theorem g9 {w:List Nat}(h:Wk w):w.length<=20:=by
 have h1:∀w∈kdT.map Prod.fst,w.length<=20:=by decide
 have h2:∀w∈[w_lens,w47,w_x],w.length<=20:=by decide
 cases h with
 |fig _ _ h=>exact h
 |kd h=>exact h1 w h
 |bad h=>exact h2 w h
theorem A6 {w:List Nat}(h:Wk w):∀c∈w,c<128:=by
 have h1:∀w∈kdT.map Prod.fst,∀c∈w,c<128:=by decide
 have h2:∀w∈[w_lens,w47,w_x],∀c∈w,c<128:=by decide
 cases h with
 |fig _ h _ =>
  intro c hc
  have:=h c hc
  simp only[dig,Bool.and_eq_true,decide_eq_true_eq] at this
  omega
 |kd h=>exact h1 w h
 |bad h=>exact h2 w h
theorem aj3:∀x∈kdT.map Prod.fst,wd x=.str x:=by
 intro x hx
 have h1:∀x∈kdT.map Prod.fst,(x.head?.any dig)=false/\(x∈nmL\/x∈longL\/x∈Bz):=by decide
 obtain⟨a,b⟩:=h1 x hx
 unfold wd
 rw[if_neg (by rw[a];simp),if_pos b]
theorem A9:∀x∈[w_lens,w47,w_x],wd x=.non:=by
 intro x hx
 have h1:∀x∈[w_lens,w47,w_x],(x.head?.any dig)=false/\¬(x∈nmL\/x∈longL\/x∈Bz):=by decide
 obtain⟨a,b⟩:=h1 x hx
 unfold wd
 rw[if_neg (by rw[a];simp),if_neg b]
theorem A8 {w:List Nat}(hn:w≠[]) (h:∀c∈w,dig c=true):wd w=nm w:=by
 cases w with
 |nil=>exact absurd rfl hn
 |cons c r =>
  have hc:dig c=true:=h c List.mem_cons_self
  unfold wd
  rw[if_pos (show((c::r).head?.any dig)=true from hc)]
theorem aD6 {w:List Nat}(h:Wk w):Kd (wd w):=by
 cases h with
 |fig hn h _ =>
  rw[A8 hn h]
  unfold nm
  split
  ·exact .non
  ·split
   ·exact .int
   ·exact .non
 |kd h=>rw[aj3 w h];exact .str h
 |bad h=>rw[A9 w h];exact .non
theorem a52 {W:List (List Nat)}(h:∀w∈W,Wk w) (p:Nat):Kd (hd (W.map wd) p):=by
 unfold hd
 cases hq:(W.map wd)[p]? with
 |none=>exact .non
 |some d =>
  obtain⟨w,hw,rfl⟩:=List.mem_map.mp (List.mem_of_getElem? hq)
  exact aD6 (h w hw)
theorem aD5 {d:D}(h:Kd d):WV d:=by
 have h1:∀w∈kdT.map Prod.fst,∀c∈w,c<128:=by decide
 cases h with
 |non=>exact .non
 |int=>exact .int
 |str h=>exact .str (h1 _ h)
section
variable {μ:Mu}
theorem k_kd:∀x∈kdT.map Prod.fst,yr [.str x] μ=.ok (.str (((kdT.lookup x).map G.s).getD [])) μ:=by
 simp only[kdT,List.map_cons,List.map_nil,List.forall_mem_cons,List.not_mem_nil,false_implies,implies_true,and_true]
 exact⟨rfl,rfl,rfl,rfl,rfl,rfl,rfl,rfl,rfl,rfl,rfl,rfl,rfl,rfl,rfl,rfl,rfl,rfl,rfl,rfl,rfl,rfl,rfl,rfl,rfl,rfl,rfl,rfl,rfl,rfl⟩
theorem aD8:∀x∈[w_lens,w47,w_x],yr [.str x] μ=.ok (.str x) μ:=by
 simp only[List.forall_mem_cons,List.not_mem_nil,false_implies,implies_true,and_true]
 exact⟨rfl,rfl,rfl⟩
theorem aD7 {w:List Nat}(hn:w≠[]) (h:∀c∈w,dig c=true) (hl:w.length<=20):yr [.str w] μ=.ok (.str (if w.length<=10/\digitsVal w<=4294967295 then w_n else w_wrong)) μ:=by
 have h48:∀c∈w,48<=c/\c<=57:=fun c hc=>by
  have:=h c hc
  simpa[dig] using this
 have t1:j8 (q0 fj fj (mC (.str w_0)) (j0 je (mVar 0) (mC (.int 0))) (mC (.str w_9))) [some (.str w),none,none] μ=.ok true μ:=by
  cases w with
  |nil=>exact absurd rfl hn
  |cons c r =>
   obtain⟨a,b⟩:=h48 c List.mem_cons_self
   have ex:j0 je (mVar 0) (mC (.int 0)) [some (.str (c::r)),none,none] μ=.ok (.str [c]) μ:=v_bin (x:=.str (c::r)) (y:=.int 0) rfl rfl (by
    show(if(c::r).length<=16777216 then(atI (c::r) 0).map fun c=>D.str [c] else none)=_
    rw[if_pos (by omega),Yy (by omega)]
    rfl)
   have k1:∀c<58,48<=c->decide ([c]<w_0)=false:=by decide
   have k2:∀c<58,48<=c->decide (w_9<[c])=false:=by decide
   refine v_test ?_
   rw[aF8,show mC (.str w_0) [some (.str (c::r)),none,none] μ=.ok (.str w_0) μ from rfl,bind_ok,am3,ex,bind_ok,am2]
   have g1:fj (.str w_0) (.str [c])=some (.bl true):=by
    show some (D.bl (!decide ([c]<w_0)))=_
    rw[k1 c (by omega) a]
    rfl
   have g2:fj (.str [c]) (.str w_9)=some (.bl true):=by
    show some (D.bl (!decide (w_9<[c])))=_
    rw[k2 c (by omega) a]
    rfl
   show(ofO μ ((fj (.str w_0) (.str [c])).bind asB)).bind _=_
   rw[g1]
   show ofO μ (fj (.str [c]) (.str w_9))=_
   rw[g2]
   rfl
 have t2:j8 (j0 gLe (jl U1 (mCons (mVar 0) mNil)) (mC (.int 10))) [some (.str w),none,none] μ=.ok (decide (w.length<=10)) μ:=by
  refine v_test (v_bin (x:=.int (w.length:Nat)) (v_callB (v_cons rfl v_nil) ?_) rfl ?_)
  ·show(if w.length<=16777216 then some (D.int w.length) else none)=_
   rw[if_pos (by omega)]
  ·show some (D.bl (decide ((w.length:Int)<=10)))=_
   by_cases z:w.length<=10
   ·rw[decide_eq_true z,decide_eq_true (by omega)]
   ·rw[decide_eq_false z,decide_eq_false (by omega)]
 have t3:j8 (j0 gLe (jl Km (mCons (mVar 0) mNil)) (mC (.int 4294967295))) [some (.str w),none,none] μ=.ok (decide (digitsVal w<=4294967295)) μ:=by
  refine v_test (v_bin (x:=.int (digitsVal w:Nat)) (v_callB (v_cons rfl v_nil) ?_) rfl ?_)
  ·show(if w.length<=640 then(PySem.intText? (mkS w)).map D.int else none)=_
   rw[if_pos (by omega),intText_digits (x:=mkS w) h48 hn (by show w.toArray.size<=4300;rw[List.size_toArray];omega)]
   rfl
  ·show some (D.bl (decide (((digitsVal w:Nat):Int)<=4294967295)))=_
   by_cases z:digitsVal w<=4294967295
   ·rw[decide_eq_true z,decide_eq_true (by omega)]
   ·rw[decide_eq_false z,decide_eq_false (by omega)]
 refine u3 2 (v_take t1 ?_)
 by_cases z1:w.length<=10
 ·rw[decide_eq_true z1] at t2
  by_cases z2:digitsVal w<=4294967295
  ·rw[decide_eq_true z2] at t3
   rw[if_pos ⟨z1,z2⟩]
   exact v_ifT ((v_andT t2).trans t3)
  ·rw[decide_eq_false z2] at t3
   rw[if_neg (fun z=>z2 z.2)]
   exact v5 ((v_andT t2).trans t3)
 ·rw[decide_eq_false z1] at t2
  rw[if_neg (fun z=>z1 z.1)]
  exact v5 (v_andF t2)
theorem fz {w:List Nat}(h:Wk w):∃k,yr [.str w] μ=.ok (.str k) μ/\okK k/\gk k=kO (wd w):=by
 cases h with
 |fig hn h hl =>
  refine⟨_,aD7 hn h hl,?_,?_⟩
  ·split
   ·show ∀c∈w_n,c<128;decide
   ·show ∀c∈w_wrong,c<128;decide
  ·rw[A8 hn h]
   unfold nm
   by_cases z1:w.length<=10
   ·rw[if_neg (show ¬10<w.length by omega)]
    by_cases z2:digitsVal w<=4294967295
    ·rw[if_pos ⟨z1,z2⟩,if_pos (show digitsVal w<4294967296 by omega)]
     rfl
    ·rw[if_neg (fun z=>z2 z.2),if_neg (show ¬digitsVal w<4294967296 by omega)]
     rfl
   ·rw[if_neg (fun z=>z1 z.1),if_pos (show 10<w.length by omega)]
    rfl
 |kd h =>
  have k1:∀x∈kdT.map Prod.fst,okK (((kdT.lookup x).map G.s).getD []):=by
   have:∀x∈kdT.map Prod.fst,∀c∈(((kdT.lookup x).map G.s).getD []),c<128:=by decide
   exact this
  have k2:∀x∈kdT.map Prod.fst,gk (((kdT.lookup x).map G.s).getD [])=kdT.lookup x:=by decide
  exact⟨_,k_kd w h,k1 w h,by rw[aj3 w h];exact k2 w h⟩
 |bad h =>
  have k2:∀x∈[w_lens,w47,w_x],gk x=none:=by decide
  exact⟨_,aD8 w h,A6 (.bad h),by rw[A9 w h];exact k2 w h⟩
end
noncomputable def jn (c:Nat):List (List Nat)->List Nat
 |[]=>[]
 |[x]=>x
 |x::y::r=>x++c::jn c (y::r)
theorem Ex (s:Str):∀ws:List (List Nat),∀x,(Str.join s (mkS x::ws.map mkS)).cps.toList=x++(ws.map fun w=>s.cps.toList++w).flatten
 |[],x=>by simp[Str.join]
 |y::r,x=>by
  show(mkS x++s++Str.join s (mkS y::r.map mkS)).cps.toList=_
  have:=Ex s r y
  show((mkS x).cps++s.cps++(Str.join s (mkS y::r.map mkS)).cps).toList=_
  simp[this]
theorem b8 (c:Nat):∀ws:List (List Nat),∀x,jn c (x::ws)=x++(ws.map fun w=>[c]++w).flatten
 |[],x=>by simp[jn]
 |y::r,x=>by simp[jn,b8 c r y]
theorem ag0 (c:Nat) (ws:List (List Nat)):(Txt.join (mkS [c]) (ws.map mkS)).cps.toList=jn c ws:=by
 rw[show Txt.join (mkS [c]) (ws.map mkS)=Str.join (mkS [c]) (ws.map mkS) from StrLaws.glued_eq_join _ _]
 cases ws with
 |nil=>rfl
 |cons x r=>rw[List.map_cons,Ex,b8]
noncomputable def wj (ws:List (List Nat)):Nat:=(ws.map List.length).sum+ws.length
theorem fu (c:Nat):∀ws:List (List Nat),(jn c ws).length<=wj ws
 |[]=>Nat.zero_le _
 |[x]=>by simp[jn,wj]
 |x::y::r=>by
  have:=fu c (y::r)
  simp only[jn,wj,List.map_cons,List.sum_cons,List.length_append,List.length_cons] at this ⊢
  omega
theorem Fu:∀{ws:List (List Nat)}{k:Nat},(∀w∈ws,w.length<=k)->wj ws<=ws.length*(k+1)
 |[],_,_=>by simp[wj]
 |w::ws,k,h=>by
  obtain⟨h1,h2⟩:=List.forall_mem_cons.mp h
  have:=Fu h2
  simp only[wj,List.map_cons,List.sum_cons,List.length_cons,Nat.succ_mul] at this ⊢
  omega
theorem a55 {c d:Nat}:∀{ws:List (List Nat)},d∈jn c ws->d=c\/∃w∈ws,d∈w
 |[],h=>nomatch h
 |[x],h=>.inr ⟨x,List.mem_cons_self,h⟩
 |x::y::r,h=>by
  rcases List.mem_append.mp (show d∈x++c::jn c (y::r) from h) with h|h
  ·exact .inr ⟨x,List.mem_cons_self,h⟩
  ·rcases List.mem_cons.mp h with h|h
   ·exact .inl h
   ·rcases a55 h with h|⟨w,h1,h2⟩
    ·exact .inl h
    ·exact .inr ⟨w,List.mem_cons_of_mem _ h1,h2⟩
theorem txts (ws:List (List Nat)):Zf (ws.map .str)=some ws:=by
 induction ws with
 |nil=>rfl
 |cons x r ih=>simp[Zf,ih]
theorem a66 {c:Nat}{ws:List (List Nat)}(hw:wj ws<=1048576):z6 (.str [c]) [.lst (ws.map .str)]=some (.str (jn c ws)):=by
 have ok:JoinOk (mkS [c]) (ws.map mkS)=true:=by
  refine joinOk_of_weight ?_ (by simp[Str.length])
  rw[List.map_map,List.length_map]
  exact hw
 unfold z6
 simp only[txts,Option.bind_some,ok,if_true,ag0]
theorem aj5 {w r:List Nat}(h:Wk w) (hr:r=[]\/∃s,r=32::s):Tk w r:=by
 have hh:∀q:Nat->Bool,q 32=false->∀c,r.head? =some c->q c=false:=fun q hq c hc=>by
  rcases hr with rfl|⟨s,rfl⟩
  ·cases hc
  ·cases hc;exact hq
 have fin:((!w.isEmpty&&w.all alp)||decide (w∈longL)||(w.length==1&&!(dig (w.headD 0))&&!(alp (w.headD 0))&&decide (w∉longL)&&decide ([w.headD 0,32]∉longL)))=true->Tk w r:=fun h=>by
  simp only[Bool.or_eq_true,Bool.and_eq_true,decide_eq_true_eq,Bool.not_eq_true',beq_iff_eq] at h
  rcases h with(⟨h1,h2⟩|h1)|⟨⟨⟨⟨h1,h2⟩,h3⟩,h4⟩,h5⟩
  ·exact .alp (fun e=>by rw[e] at h1;cases h1) (List.all_eq_true.mp h2) (hh alp rfl)
  ·exact .two h1
  ·obtain⟨c,rfl⟩:∃c,w=[c]:=List.length_eq_one_iff.mp h1
   refine .one h2 h3 ?_
   rcases hr with rfl|⟨s,rfl⟩
   ·exact h4
   ·exact h5
 have k1:∀w∈kdT.map Prod.fst,((!w.isEmpty&&w.all alp)||decide (w∈longL)||(w.length==1&&!(dig (w.headD 0))&&!(alp (w.headD 0))&&decide (w∉longL)&&decide ([w.headD 0,32]∉longL)))=true:=by decide
 have k2:∀w∈[w_lens,w47,w_x],((!w.isEmpty&&w.all alp)||decide (w∈longL)||(w.length==1&&!(dig (w.headD 0))&&!(alp (w.headD 0))&&decide (w∉longL)&&decide ([w.headD 0,32]∉longL)))=true:=by decide
 cases h with
 |fig hn h _=>exact .fig hn h (hh dig rfl)
 |kd h=>exact fin (k1 w h)
 |bad h=>exact fin (k2 w h)
theorem aj2 {w:List Nat}(h:Wk w):∀c,w.head? =some c->c≠32:=by
 intro c hc
 have hm:=List.mem_of_mem_head? hc
 have k1:∀w∈kdT.map Prod.fst,∀c∈w,c≠32:=by decide
 have k2:∀w∈[w_lens,w47,w_x],∀c∈w,c≠32:=by decide
 cases h with
 |fig _ h _ =>
  intro e
  have:=h c hm
  rw[e] at this
  cases this
 |kd h=>exact k1 w h c hm
 |bad h=>exact k2 w h c hm
theorem al0:∀ws:List (List Nat),(∀w∈ws,Wk w)->Lx (jn 32 ws) (ws.map wd)
 |[],_=>.nil
 |[x],h=>by
  have hx:=h x List.mem_cons_self
  have:=Lx.wd (aj5 hx (r:=[]) (.inl rfl)) (aj2 hx) .nil
  rw[List.append_nil] at this
  exact this
 |x::y::r,h=>by
  have hx:=h x List.mem_cons_self
  exact Lx.wd (aj5 hx (.inr ⟨_,rfl⟩)) (aj2 hx) (.sp (al0 (y::r) fun w hw=>h w (List.mem_cons_of_mem _ hw)))
noncomputable def due (W:List (List Nat)):Int:=match run [.F] (W.map fun w=>kO (wd w)) 0 with
 |.ok=>0
 |.er p=>((p+1:Nat):Int)
section
variable {μ:Mu}{wv:D}{W:List (List Nat)}(hv:deref μ wv=.lst (W.map .str)) (hW:∀w∈W,Wk w)
include hv hW in
theorem Ay:∀(L P:List (List Nat)) (gs:List G) (e3:Option D),W=P++L->gs.length+8*L.length<=800 ->
  (∃gs' e',y8 (gN 3) Uk (iL (List.range' P.length L.length)) [some tb,some wv,some (gL gs),e3] μ=.ok (.nx [some tb,some wv,some (gL gs'),e']) μ/\run gs (L.map fun w=>kO (wd w)) P.length=run gs' [] W.length/\gs'.length<=900)
  \/∃q:Nat,y8 (gN 3) Uk (iL (List.range' P.length L.length)) [some tb,some wv,some (gL gs),e3] μ=.ok (.rt (.int ((q+1:Nat):Int))) μ/\run gs (L.map fun w=>kO (wd w)) P.length=.er q
 |[],P,gs,e3,hP,hl=>.inl ⟨gs,e3,rfl,by rw[hP];simp,by omega⟩
 |w::L,P,gs,e3,hP,hl=>by
  simp only[List.length_cons] at hl
  have hw:=hW w (by rw[hP];simp)
  obtain⟨k,ek,hk,hg⟩:=fz (μ:=μ) hw
  have ex:j0 je (mVar 1) (mVar 3) [some tb,some wv,some (gL gs),some (.int (P.length:Nat))] μ=.ok (.str w) μ:=by
   refine v_bin (x:=wv) (y:=.int (P.length:Nat)) rfl rfl ?_
   rw[hv,hP]
   exact Wh (by rw[List.getElem?_map,List.getElem?_append_right (Nat.le_refl _),Nat.sub_self];rfl)
  have en:=Go (μ:=μ) hk (gs:=gs) (by omega)
  have e2:j9 zt (mCons (mVar 0) (mCons (mVar 2) (mCons (j9 yr (mCons (j0 je (mVar 1) (mVar 3)) mNil)) mNil))) [some tb,some wv,some (gL gs),some (.int (P.length:Nat))] μ=.ok (rsD (nxt gs (gk k))) μ:=v_call (v_cons rfl (v_cons rfl (v_cons (v_call (v_cons ex v_nil) ek) v_nil))) en
  rw[hg] at e2
  rw[List.length_cons,fq,List.map_cons,run]
  cases hx:nxt gs (kO (wd w)) with
  |none =>
   rw[hx] at e2
   refine .inr ⟨P.length,ao0 3 ((v_set 2 e2).trans ((v_iteT (v_test (m:=a48 (mVar 2)) rfl)).trans (v_ret rfl))),rfl⟩
  |some gs' =>
   rw[hx] at e2
   have hl2:=Gp gs _ gs' hx
   have eb:Uk [some tb,some wv,some (gL gs),some (.int (P.length:Nat))] μ=.ok (.nx [some tb,some wv,some (gL gs'),some (.int (P.length:Nat))]) μ:=(v_set 2 e2).trans (v_iteF (v_test (m:=a48 (mVar 2)) rfl))
   have ih:=Ay L (P++[w]) gs' (some (.int (P.length:Nat))) (by rw[hP];simp) (by omega)
   have hPl:(P++[w]).length=P.length+1:=by simp
   rw[hPl] at ih
   have ef:y8 (gN 3) Uk (D.int (P.length:Nat)::iL (List.range' (P.length+1) L.length)) [some tb,some wv,some (gL gs),e3] μ=y8 (gN 3) Uk (iL (List.range' (P.length+1) L.length)) [some tb,some wv,some (gL gs'),some (.int (P.length:Nat))] μ:=D0 3 eb
   rw[ef]
   exact ih
noncomputable abbrev aE:MX:=j0 gIn (mVar 0) (Jo (mCons (mC (.str k9)) (mCons (mC (.str kz)) (mCons (mC (.str k7)) (mCons (mC (.str k8)) mNil)))))
omit hv hW in
theorem a91:∀(gs:List G) (acc:List D) (a:Option D),J6 (gN 0) mTT aE ((gs.map G.s).map .str) [a] μ acc=.ok (acc++(gs.map nul).map .bl) μ
 |[],acc,a=>by simp[J6]
 |g::gs,acc,a=>by
  have e:aE [some (.str g.s)] μ=.ok (.bl (nul g)) μ:=by
   refine v_bin (x:=.str g.s) (y:=.tup [.str k9,.str kz,.str k7,.str k8]) rfl rfl ?_
   refine(a8 (a00 g) (L:=[k9,kz,k7,k8]) (by decide)).trans ?_
   congr 2
   cases g<;>decide
  rw[List.map_cons,List.map_cons]
  refine(Au rfl e).trans ?_
  rw[a91 gs,List.map_cons,List.map_cons,List.append_assoc]
  rfl
include hv hW in
theorem A4 (hl:W.length<=90):Xz [tb,wv] μ=.ok (.int (due W)) μ:=by
 have el:jl U1 (mCons (mVar 1) mNil) [some tb,some wv,some (gL [.F]),none] μ=.ok (.int (W.length:Nat)) μ:=by
  refine v_callB (v_cons rfl v_nil) ?_
  show U1 [deref μ wv]=_
  rw[hv]
  show some (D.int (W.map D.str).length)=_
  rw[List.length_map]
 have hfor:∀{o:Out},y8 (gN 3) Uk (iL (List.range' 0 W.length)) [some tb,some wv,some (gL [.F]),none] μ=.ok o μ->V5 (gN 3) (Y8 (jl U1 (mCons (mVar 1) mNil))) Uk [some tb,some wv,some (gL [.F]),none] μ=.ok o μ:=fun{o} h=>by
  unfold V5
  rw[gu el (by omega),bind_ok]
  exact h
 have hloop:=Ay hv hW W [] [.F] none rfl (by simp;omega)
 refine u3 2 ((v_set 2 (d:=gL [.F]) rfl).trans ?_)
 unfold due
 rcases hloop with⟨gs',e',ef,er,hgl⟩|⟨q,ef,er⟩
 ·have er:run [.F] (W.map fun w=>kO (wd w)) 0=run gs' [] W.length:=er
  rw[er,run]
  refine(v_seqN (hfor ef)).trans (v_ret ?_)
  have ec:Ul 1 [] (gN 0) (uo (mVar 2)) mTT aE [some tb,some wv,some (gL gs'),e'] μ=.ok (.lst ((gs'.map nul).map .bl)) μ:=by
   unfold Ul
   rw[show uo (mVar 2) [some tb,some wv,some (gL gs'),e'] μ=.ok ((gs'.map G.s).map .str) μ from rfl,bind_ok,if_pos ?_]
   ·show(J6 (gN 0) mTT aE ((gs'.map G.s).map .str) [none] μ []).bind _=_
    rw[a91 gs',bind_ok,List.nil_append]
   ·simp only[List.length_map];omega
  have et:u7 (jl ah0 (mCons (Ul 1 [] (gN 0) (uo (mVar 2)) mTT aE) mNil)) [some tb,some wv,some (gL gs'),e'] μ=.ok (gs'.all nul) μ:=by
   refine Yp (d:=.bl (gs'.all nul)) (v_callB (v_cons ec v_nil) ?_) rfl
   show(Xv ((gs'.map nul).map D.bl)).map (fun bs=>D.bl (bs.all id))=_
   rw[F9]
   show some (D.bl _)=some (D.bl _)
   congr 2
   rw[List.all_map]
   rfl
  have el2:j0 jo (jl U1 (mCons (mVar 1) mNil)) (mC (.int 1)) [some tb,some wv,some (gL gs'),e'] μ=.ok (.int ((W.length+1:Nat):Int)) μ:=by
   refine v_bin (x:=.int (W.length:Nat)) (y:=.int 1) (v_callB (v_cons rfl v_nil) ?_) rfl rfl
   show U1 [deref μ wv]=_
   rw[hv]
   show some (D.int (W.map D.str).length)=_
   rw[List.length_map]
  cases hq:gs'.all nul with
  |true =>
   rw[hq] at et
   rw[if_pos rfl]
   exact(v_ifT et).trans rfl
  |false =>
   rw[hq] at et
   rw[if_neg (by simp)]
   exact(v5 et).trans el2
 ·have er:run [.F] (W.map fun w=>kO (wd w)) 0=.er q:=er
  rw[er]
  exact v_seqR (hfor ef)
end
noncomputable def wtw (w:List Nat):Int:=wt (kO (wd w))
noncomputable def mx:Int->List (List Nat)->Prop
 |c,[]=>0<=c
 |c,w::L=>0<=c/\mx (c-wtw w) L
noncomputable def sm:List (List Nat)->Int
 |[]=>0
 |w::L=>wtw w+sm L
theorem A3 (o:Option G):wt o<=1/\ -1<=wt o:=(show ∀o∈allO,wt o<=1/\ -1<=wt o by decide) o (Qn o)
theorem Gj:∀{L:List (List Nat)}{c:Int},mx c L->0<=c
 |[],_,h=>h
 |_::_,_,h=>h.1
theorem Jj:∀{L:List (List Nat)}{c c':Int},mx c L->c<=c'->mx c' L
 |[],c,c',h,hc=>by show 0<=c';have:0<=c:=h;omega
 |w::L,c,c',h,hc=>⟨by have:=h.1;omega,Jj h.2 (by omega)⟩
theorem Xb:∀{A B:List (List Nat)}{c:Int},mx c A->mx (c-sm A) B->mx c (A++B)
 |[],B,c,_,h=>by simpa[sm] using h
 |w::A,B,c,h1,h2=>⟨h1.1,Xb h1.2 (by rw[show c-wtw w-sm A=c-sm (w::A) by simp only[sm];omega];exact h2)⟩
theorem Wm:∀{A B:List (List Nat)}{c:Int},mx c (A++B)->mx c A/\mx (c-sm A) B
 |[],B,c,h=>⟨Gj h,by simpa[sm] using h⟩
 |w::A,B,c,h=>by
  obtain⟨h1,h2⟩:=h
  obtain⟨g1,g2⟩:=Wm h2
  exact⟨⟨h1,g1⟩,by rw[show c-sm (w::A)=c-wtw w-sm A by simp only[sm];omega];exact g2⟩
theorem yh:∀(A B:List (List Nat)),sm (A++B)=sm A+sm B
 |[],B=>by simp[sm]
 |w::A,B=>by
  have:=yh A B
  simp only[List.cons_append,sm]
  omega
theorem Gk {L:List (List Nat)}{c:Int}(h:mx c L) (j:Nat):mx c (L.take j):=(Wm (A:=L.take j) (B:=L.drop j) (by rw[List.take_append_drop];exact h)).1
theorem a33 {A B:List (List Nat)}{x:List Nat}{c:Int}(h:mx c (A++B)):mx (c+1) (A++[x]++B):=by
 obtain⟨h1,h2⟩:=Wm h
 have hx:=A3 (kO (wd x))
 have hx:wtw x<=1/\ -1<=wtw x:=hx
 have p2:=Gj h2
 rw[List.append_assoc]
 exact Xb (Jj h1 (by omega)) ⟨by omega,Jj h2 (by omega)⟩
theorem as9 {A B:List (List Nat)}{y:List Nat}{c:Int}(h:mx c (A++y::B)):mx (c+1) (A++B):=by
 obtain⟨h1,h2,h3⟩:=Wm h
 have hx:=A3 (kO (wd y))
 have hx:wtw y<=1/\ -1<=wtw y:=hx
 exact Xb (Jj h1 (by omega)) (Jj h3 (by omega))
theorem Cl (d:D) (ws:List D):∀p,ms (d::ws) (p+1)=wt (kO d)+ms ws p
 |0=>by show 0+wt (kO (hd (d::ws) 0))=_;show 0+wt (kO d)=wt (kO d)+0;omega
 |p+1=>by
  have ih:=Cl d ws p
  show ms (d::ws) (p+1)+wt (kO (hd (d::ws) (p+1)))=wt (kO d)+(ms ws p+wt (kO (hd ws p)))
  have e:hd (d::ws) (p+1)=hd ws p:=rfl
  rw[e]
  omega
theorem ak7:∀{L:List (List Nat)}{c:Int},mx c L->∀p,p<=L.length->ms (L.map wd) p<=c
 |[],c,h,p,hp=>by
  obtain rfl:p=0:=by simpa using hp
  exact h
 |w::L,c,h,0,_=>h.1
 |w::L,c,h,p+1,hp=>by
  have:=ak7 h.2 p (by simpa using hp)
  rw[List.map_cons,Cl]
  have e:wt (kO (wd w))=wtw w:=rfl
  omega
theorem ak8 (ws:List D):∀p,ms ws p<=(p:Int)
 |0=>Int.le_refl 0
 |p+1=>by
  have:=ak8 ws p
  have:=A3 (kO (hd ws p))
  show ms ws p+wt (kO (hd ws p))<=_
  omega
theorem an3 {k:Int}(h0:0<=k) (h1:k<4294967296):wd (dgt k.toNat)=.int k:=by
 obtain⟨c,r,e,_⟩:=El k.toNat
 have hc:=bi k.toNat c (by rw[e];exact List.mem_cons_self)
 have hl:=a78 (n:=k.toNat) (by omega)
 have hv:=ah6 k.toNat
 unfold wd nm
 rw[if_pos (by rw[e];show dig c=true;simp[dig,hc.1,hc.2]),if_neg (by omega),hv,if_pos (by omega)]
 congr 1
 omega
theorem wg:wtw w_len=0/\wtw ut=0/\wtw U3=0/\wtw U2=0/\wtw w24=1/\wtw w25= -1/\wtw w10=1/\wtw w12= -1/\wtw Y3=0/\wtw w_not=1/\wtw Jk=0/\wtw U0=0/\wtw Jt=0/\wtw Jw=0:=⟨rfl,rfl,rfl,rfl,rfl,rfl,rfl,rfl,rfl,rfl,rfl,rfl,rfl,rfl⟩
theorem an1:∀x∈opL,wtw (sg x)=0:=Dv ⟨rfl,rfl,rfl,rfl,rfl,rfl,rfl,rfl,rfl,rfl⟩
theorem an2:∀x∈cpL,wtw (sg x)=0:=cx ⟨rfl,rfl,rfl,rfl,rfl,rfl⟩
theorem ae3 {A B:List (List Nat)}{w:List Nat}{c a:Int}(ha:mx c A) (hs:sm A=a) (hw:wtw w=0) (hb:mx (c-a) B):mx c (A++[w]++B):=by
 rw[List.append_assoc]
 have:=Gj hb
 refine Xb ha ?_
 rw[hs]
 exact⟨this,by rw[hw,Int.sub_zero];exact hb⟩
theorem Qv {h:List Nat}{ks L:List (List Nat)}{c s:Int}(hc:mx c L) (hs:sm L=s) (h0:s<=c):mx (c+1) (inn h ks L)/\sm (inn h ks L)=s:=by
 obtain⟨_,_,_,_,_,_,w5,w6,w7,_⟩:=wg
 have p0:=Gj hc
 have key:mx (c+1) ([w10]++L++[w12])/\sm ([w10]++L++[w12])=s:=by
  refine⟨?_,?_⟩
  ·rw[List.append_assoc]
   refine⟨by omega,?_⟩
   rw[w5,show c+1-1=c by omega]
   show mx c (L++[w12])
   refine Xb hc ⟨by omega,?_⟩
   show 0<=_
   rw[w6]
   omega
  ·rw[yh,yh]
   simp only[sm,w5,w6]
   omega
 unfold inn
 split
 ·split
  ·refine⟨⟨by omega,?_⟩,?_⟩
   ·rw[w7,Int.sub_zero]
    exact key.1
   ·show wtw Y3+sm ([w10]++L++[w12])=s
    rw[w7,key.2]
    omega
  ·exact key
 ·exact⟨Jj hc (by omega),hs⟩
theorem a34:∀a:N,a.ok->mx ((a.dp:Int)-1) (tolN a)/\sm (tolN a)=0
 |.num k,h=>by
  have e:wtw (dgt k.toNat)=0:=by unfold wtw;rw[an3 h.1 h.2];rfl
  refine⟨⟨by simp[N.dp],?_⟩,?_⟩
  ·rw[e];show(0:Int)<=_;simp[N.dp]
  ·show wtw _+0=0;rw[e];rfl
 |.len,_=>⟨⟨by simp[N.dp],by rw[wg.1];show(0:Int)<=_;simp[N.dp]⟩,by show wtw _+0=0;rw[wg.1];rfl⟩
 |.load s a,h=>by
  obtain⟨_,w1,w2,w3,w4,w5,_⟩:=wg
  obtain⟨i1,i2⟩:=a34 a h.2
  have ap:=a.dp_pos
  have es:wtw (ldW s)=0:=by
   rcases h.1 with rfl|rfl|rfl
   ·exact w1
   ·exact w2
   ·exact w3
  refine⟨?_,?_⟩
  ·show mx (((a.dp+1:Nat):Int)-1) (ldW s::w24::(tolN a++[w25]))
   refine⟨by omega,by rw[es];omega,?_⟩
   rw[es,w4]
   refine Xb (Jj i1 (by omega)) ⟨by rw[i2];omega,?_⟩
   show(0:Int)<=_
   rw[i2,w5]
   omega
  ·show wtw (ldW s)+(wtw w24+sm (tolN a++[w25]))=0
   rw[yh,i2,es,w4]
   show 0+(1+(0+(wtw w25+0)))=(0:Int)
   rw[w5]
   omega
 |.op x a b,h=>by
  obtain⟨i1,i2⟩:=a34 a h.2.1
  obtain⟨j1,j2⟩:=a34 b h.2.2
  have ap:=a.dp_pos
  have bp:=b.dp_pos
  have ex:=an1 x h.1
  have key:∀ks ks':List (List Nat),mx (((N.op x a b).dp:Int)-1) (inn a.hd ks (tolN a)++[sg x]++inn b.hd ks' (tolN b))/\sm (inn a.hd ks (tolN a)++[sg x]++inn b.hd ks' (tolN b))=0:=fun ks ks'=>by
   obtain⟨a1,a2⟩:=Qv (h:=a.hd) (ks:=ks) i1 i2 (by omega)
   obtain⟨b1,b2⟩:=Qv (h:=b.hd) (ks:=ks') j1 j2 (by omega)
   have ed:((N.op x a b).dp:Int)-1=((max a.dp b.dp:Nat):Int):=by simp only[N.dp];omega
   rw[ed]
   refine⟨ae3 (a:=0) (Jj a1 (by omega)) a2 ex (Jj b1 (by omega)),?_⟩
   rw[yh,yh,a2,b2]
   show 0+(wtw (sg x)+0)+0=(0:Int)
   rw[ex]
   rfl
  unfold tolN
  split
  ·exact key _ _
  ·exact key _ _
noncomputable def B.n:B->Nat
 |.tru _=>0
 |.nt a=>a.n+1
 |.both a b=>a.n+b.n
 |.eith a b=>a.n+b.n
 |.cmp _ _ _=>0
theorem Bj:∀a:B,a.ok->a.nd->mx ((a.n:Int)+a.dp+1) (tolB a)/\sm (tolB a)=(a.n:Int)
 |.tru b,_,_=>by
  obtain⟨_,_,_,_,_,_,_,_,_,_,_,_,w1,w2⟩:=wg
  have e:wtw (if b then Jt else Jw)=0:=by cases b<;>assumption
  refine⟨⟨by simp only[B.n,B.dp];omega,?_⟩,?_⟩
  ·rw[e];show(0:Int)<=_;simp only[B.n,B.dp];omega
  ·show wtw _+0=0;rw[e];rfl
 |.nt a,h,n=>by
  obtain⟨_,_,_,_,_,_,_,_,_,w1,_⟩:=wg
  obtain⟨i1,i2⟩:=Bj a h n
  obtain⟨a1,a2⟩:=Qv (h:=a.hd) (ks:=[w_both,w_either]) i1 i2 (by omega)
  refine⟨⟨by simp only[B.n,B.dp];omega,?_⟩,?_⟩
  ·rw[w1];exact Jj a1 (by simp only[B.n,B.dp];omega)
  ·show wtw w_not+sm (inn a.hd [w_both,w_either] (tolB a))=_
   rw[w1,a2]
   simp only[B.n]
   omega
 |.both a b,h,n=>by
  obtain⟨_,_,_,_,_,_,_,_,_,_,w1,_⟩:=wg
  obtain⟨i1,i2⟩:=Bj a h.1 n.1
  obtain⟨j1,j2⟩:=Bj b h.2 n.2
  obtain⟨a1,a2⟩:=Qv (h:=a.hd) (ks:=[w_either]) i1 i2 (by omega)
  obtain⟨b1,b2⟩:=Qv (h:=b.hd) (ks:=[w_either,w_both]) j1 j2 (by omega)
  refine⟨ae3 (A:=inn a.hd [w_either] (tolB a)) (B:=inn b.hd [w_either,w_both] (tolB b)) (w:=Jk) (a:=a.n) (Jj a1 (by simp only[B.n,B.dp];omega)) a2 w1 (Jj b1 (by simp only[B.n,B.dp];omega)),?_⟩
  show sm (inn a.hd [w_either] (tolB a)++[Jk]++inn b.hd [w_either,w_both] (tolB b))=_
  rw[yh,yh,a2,b2]
  show(a.n:Int)+(wtw Jk+0)+b.n=_
  rw[w1]
  simp only[B.n]
  omega
 |.eith a b,h,n=>by
  obtain⟨_,_,_,_,_,_,_,_,_,_,_,w1,_⟩:=wg
  obtain⟨i1,i2⟩:=Bj a h.1 n.1
  obtain⟨j1,j2⟩:=Bj b h.2 n.2
  obtain⟨a1,a2⟩:=Qv (h:=a.hd) (ks:=[]) i1 i2 (by omega)
  obtain⟨b1,b2⟩:=Qv (h:=b.hd) (ks:=[w_either]) j1 j2 (by omega)
  refine⟨ae3 (A:=inn a.hd [] (tolB a)) (B:=inn b.hd [w_either] (tolB b)) (w:=U0) (a:=a.n) (Jj a1 (by simp only[B.n,B.dp];omega)) a2 w1 (Jj b1 (by simp only[B.n,B.dp];omega)),?_⟩
  show sm (inn a.hd [] (tolB a)++[U0]++inn b.hd [w_either] (tolB b))=_
  rw[yh,yh,a2,b2]
  show(a.n:Int)+(wtw U0+0)+b.n=_
  rw[w1]
  simp only[B.n]
  omega
 |.cmp x a b,h,n=>by
  obtain⟨i1,i2⟩:=a34 a h.2.1
  obtain⟨j1,j2⟩:=a34 b h.2.2
  obtain⟨n1,n2⟩:=n
  have ex:=an2 x h.1
  refine⟨ae3 (A:=tolN a) (B:=tolN b) (w:=sg x) (a:=0) (Jj i1 (by simp only[B.n,B.dp];omega)) i2 ex (Jj j1 (by simp only[B.n,B.dp];omega)),?_⟩
  show sm (tolN a++[sg x]++tolN b)=_
  rw[yh,yh,i2,j2]
  show 0+(wtw (sg x)+0)+0=_
  rw[ex]
  rfl
theorem B.n_le:∀a:B,a.n+1<=2 ^ (a.dp-1)
 |.tru _=>Nat.le_refl 1
 |.nt a=>by
  have h:=B.n_le a
  have p:=a.dp_pos
  have e:(B.nt a).dp-1=(a.dp-1)+1:=by simp only[B.dp];omega
  rw[e,Nat.pow_succ]
  simp only[B.n]
  omega
 |.both a b=>by
  have h:=B.n_le a
  have h2:=B.n_le b
  have p:=a.dp_pos
  have p2:=b.dp_pos
  have e:(B.both a b).dp-1=(max a.dp b.dp-1)+1:=by simp only[B.dp];omega
  rw[e,Nat.pow_succ]
  have q1:=Nat.pow_le_pow_right (n:=2) (by decide) (show a.dp-1<=max a.dp b.dp-1 by omega)
  have q2:=Nat.pow_le_pow_right (n:=2) (by decide) (show b.dp-1<=max a.dp b.dp-1 by omega)
  simp only[B.n]
  omega
 |.eith a b=>by
  have h:=B.n_le a
  have h2:=B.n_le b
  have p:=a.dp_pos
  have p2:=b.dp_pos
  have e:(B.eith a b).dp-1=(max a.dp b.dp-1)+1:=by simp only[B.dp];omega
  rw[e,Nat.pow_succ]
  have q1:=Nat.pow_le_pow_right (n:=2) (by decide) (show a.dp-1<=max a.dp b.dp-1 by omega)
  have q2:=Nat.pow_le_pow_right (n:=2) (by decide) (show b.dp-1<=max a.dp b.dp-1 by omega)
  simp only[B.n]
  omega
 |.cmp _ _ _=>Nat.le_refl 1
theorem mx_7 {a:B}(h:a.ok) (hn:a.nd) (hd:a.dp<=3):mx 7 (tolB a):=by
 have h1:=B.n_le a
 have h2:=Nat.pow_le_pow_right (n:=2) (by decide) (show a.dp-1<=2 by omega)
 exact Jj (Bj a h hn).1 (by omega)
theorem zd {h:List Nat}{ks L:List (List Nat)}(hL:∀w∈L,Wk w):∀w∈inn h ks L,Wk w:=by
 intro w hw
 unfold inn at hw
 split at hw
 ·rcases List.mem_append.mp hw with hw|hw
  ·rcases List.mem_append.mp hw with hw|hw
   ·split at hw
    ·rcases List.mem_cons.mp hw with e|hw
     ·rw[e];exact .kd (by decide)
     ·rw[List.mem_singleton.mp hw];exact .kd (by decide)
    ·rw[List.mem_singleton.mp hw];exact .kd (by decide)
   ·exact hL w hw
  ·rw[List.mem_singleton.mp hw];exact .kd (by decide)
 ·exact hL w hw
theorem aj1:∀x∈opL,Wk (sg x):=Dv ⟨.kd (by decide),.kd (by decide),.kd (by decide),.kd (by decide),.kd (by decide),.kd (by decide),.kd (by decide),.kd (by decide),.kd (by decide),.kd (by decide)⟩
theorem ay5:∀x∈cpL,Wk (sg x):=cx ⟨.kd (by decide),.kd (by decide),.kd (by decide),.kd (by decide),.kd (by decide),.kd (by decide)⟩
theorem Ec {A B:List (List Nat)}{w:List Nat}(hA:∀w∈A,Wk w) (hw:Wk w) (hB:∀w∈B,Wk w):∀v∈A++[w]++B,Wk v:=by
 intro v hv
 rcases List.mem_append.mp hv with hv|hv
 ·rcases List.mem_append.mp hv with hv|hv
  ·exact hA v hv
  ·rw[List.mem_singleton.mp hv];exact hw
 ·exact hB v hv
theorem A7:∀a:N,a.ok->∀w∈tolN a,Wk w
 |.num k,h,w,hw=>by
  rw[List.mem_singleton.mp hw]
  exact .fig (aw6 _) (fun c hc=>by have:=bi _ c hc;simp[dig,this.1,this.2]) (by have:=a78 (n:=k.toNat) (by have:=h.1;have:=h.2;omega);omega)
 |.len,h,w,hw=>by rw[List.mem_singleton.mp hw];exact .kd (by decide)
 |.load s a,h,w,hw=>by
  rcases List.mem_append.mp hw with hw|hw
  ·rcases List.mem_append.mp hw with hw|hw
   ·rcases List.mem_cons.mp hw with e|hw
    ·rw[e]
     rcases h.1 with rfl|rfl|rfl<;>exact .kd (by decide)
    ·rw[List.mem_singleton.mp hw];exact .kd (by decide)
   ·exact A7 a h.2 w hw
  ·rw[List.mem_singleton.mp hw];exact .kd (by decide)
 |.op x a b,h,w,hw=>by
  have ia:=A7 a h.2.1
  have ib:=A7 b h.2.2
  unfold tolN at hw
  split at hw
  ·exact Ec (zd ia) (aj1 x h.1) (zd ib) w hw
  ·exact Ec (zd ia) (aj1 x h.1) (zd ib) w hw
theorem B6:∀a:B,a.ok->∀w∈tolB a,Wk w
 |.tru b,h,w,hw=>by
  rw[List.mem_singleton.mp hw]
  cases b<;>exact .kd (by decide)
 |.nt a,h,w,hw=>by
  rcases List.mem_append.mp hw with hw|hw
  ·rw[List.mem_singleton.mp hw];exact .kd (by decide)
  ·exact zd (B6 a h) w hw
 |.both a b,h,w,hw=>Ec (zd (B6 a h.1)) (.kd (by decide)) (zd (B6 b h.2)) w hw
 |.eith a b,h,w,hw=>Ec (zd (B6 a h.1)) (.kd (by decide)) (zd (B6 b h.2)) w hw
 |.cmp x a b,h,w,hw=>Ec (A7 a h.2.1) (ay5 x h.1) (A7 b h.2.2) w hw
noncomputable def mnL:List (List Nat):=[Jk,U0,w_not,Y3,w_len,ut,U3,U2,Ju,Jt,Jw,w29,w30,w31,w32,w33,w34,w35,w14,w17,w36,w20,w37,w38,w39,w40,w10,w12,w24,w25,w_0,w_7,Z1,Z0,z9,w_lens,w47,w_x,w10,w12,w25,w14,w_5,an8]
theorem menu_eq (μ:Mu):Qi [] μ=.ok (sL mnL) μ:=rfl
theorem cq:∀w∈mnL,Wk w:=by
 intro w hw
 have key:∀w∈mnL,w∈kdT.map Prod.fst\/w∈[w_lens,w47,w_x]\/(w≠[]/\(∀c∈w,dig c=true)/\w.length<=20):=by decide
 rcases key w hw with h|h|⟨h1,h2,h3⟩
 ·exact .kd h
 ·exact .bad h
 ·exact .fig h1 h2 h3
theorem aB6 {L:List D}{m mi:MX}{ρ:En}{μ:Mu}{i:Int}{n:Nat}(h:m ρ μ=.ok (.lst L) μ) (hi:mi ρ μ=.ok (.int i) μ) (hl:L.length=n) (h0:0<n):∃d∈L,j0 je m (j0 Jl mi (mC (.int n))) ρ μ=.ok d μ:=by
 have h1:=Int.emod_nonneg i (b:=(n:Int)) (by omega)
 have h2:=Int.emod_lt_of_pos i (b:=(n:Int)) (by omega)
 have hk:(i % (n:Int)).toNat<L.length:=by omega
 refine⟨L[(i % (n:Int)).toNat],List.getElem_mem hk,v_bin (x:=.lst L) (y:=.int (i % (n:Int))) h (v_mod hi (by omega)) ?_⟩
 show atI L (i % (n:Int))=_
 rw[Yy h1,List.getElem?_eq_getElem hk]
theorem G7 {m mi:MX}{ρ:En}{μ:Mu}{i:Int}(h:m ρ μ=.ok (sL mnL) μ) (hi:mi ρ μ=.ok (.int i) μ):∃w∈mnL,j0 je m (j0 Jl mi (mC (.int 44))) ρ μ=.ok (.str w) μ:=by
 obtain⟨d,hd,e⟩:=aB6 (n:=44) h hi rfl (by decide)
 obtain⟨w,hw,rfl⟩:=List.mem_map.mp hd
 exact⟨w,hw,e⟩
section
variable {ns:List Int}{μ:Mu}
theorem W2 {mi:MX}{ρ:En}{k:Nat}{i:Int}(h0:ρ[0]? =some (some (sc ns))) (h:mi ρ μ=.ok (.int i) μ) (hi:i=(k:Int)):j9 u6 (mCons (mVar 0) (mCons mi mNil)) ρ μ=.ok (.int (mix ns k)) μ:=v_call (v_cons (v_var 0 h0) (v_cons h v_nil)) (mix_at ns k hi μ)
theorem Cd {gs:List G}(hg:gs.length<=900) {k:Nat}{fv:D}:∀(m j:Nat) (w:List Nat) (e7 e8 e9:Option D),w∈mnL->∃w'∈mnL,∃d7 d8 d9,y8 (gN 7) xb (iL (List.range' j m)) [some (sc ns),some tb,some (sL mnL),some (gL gs),some fv,some (.int (k:Nat)),some (.str w),e7,e8,e9] μ=.ok (.nx [some (sc ns),some tb,some (sL mnL),some (gL gs),some fv,some (.int (k:Nat)),some (.str w'),d7,d8,d9]) μ
 |0,j,w,e7,e8,e9,hw=>⟨w,hw,e7,e8,e9,rfl⟩
 |m+1,j,w,e7,e8,e9,hw=>by
  obtain⟨s,hs,es⟩:=G7 (m:=mVar 2) (mi:=j9 u6 (mCons (mVar 0) (mCons (j0 jo (j0 jo (mC (.int 41)) (mVar 5)) (j0 zj (mC (.int 17)) (mVar 7))) mNil))) (ρ:=[some (sc ns),some tb,some (sL mnL),some (gL gs),some fv,some (.int (k:Nat)),some (.str w),some (.int (j:Nat)),e8,e9]) (μ:=μ) rfl
   (W2 (k:=41+k+17*j) rfl (v_bin (x:=.int (41+(k:Int))) (y:=.int (17*(j:Int))) rfl (v_bin rfl rfl (Da _ _ (by decide) (by decide))) rfl) (by omega))
  obtain⟨kk,ek,hk,_⟩:=fz (μ:=μ) (cq s hs)
  have en:=Go (μ:=μ) hk (gs:=gs) hg
  obtain⟨b,eb⟩:∃b:Bool,E3 (j9 zt (mCons (mVar 1) (mCons (mVar 3) (mCons (j9 yr (mCons (mVar 8) mNil)) mNil)))) [some (sc ns),some tb,some (sL mnL),some (gL gs),some fv,some (.int (k:Nat)),some (.str w),some (.int (j:Nat)),some (.str s),e9] μ=.ok (.bl b) μ:=by
   have e1:j9 zt (mCons (mVar 1) (mCons (mVar 3) (mCons (j9 yr (mCons (mVar 8) mNil)) mNil))) [some (sc ns),some tb,some (sL mnL),some (gL gs),some fv,some (.int (k:Nat)),some (.str w),some (.int (j:Nat)),some (.str s),e9] μ=.ok (rsD (nxt gs (gk kk))) μ:=v_call (v_cons rfl (v_cons rfl (v_cons (v_call rfl ek) v_nil))) en
   exact⟨!isN (rsD (nxt gs (gk kk))),by rw[aw4,e1];rfl⟩
  have tg:j8 (j0 gGt (j0 Jl (j9 u6 (mCons (mVar 0) (mCons (j0 jo (mC (.int 20)) (mVar 5)) mNil))) (mC (.int 9))) (mC (.int 0))) [some (sc ns),some tb,some (sL mnL),some (gL gs),some fv,some (.int (k:Nat)),some (.str w),some (.int (j:Nat)),some (.str s),some (.bl b)] μ=.ok (decide (0<mix ns (20+k) % 9)) μ:=v_test (v_bin (v_mod (W2 (k:=20+k) rfl rfl (by omega)) (by decide)) rfl (aF2 _ _))
  have key:∃w2∈mnL,xb [some (sc ns),some tb,some (sL mnL),some (gL gs),some fv,some (.int (k:Nat)),some (.str w),some (.int (j:Nat)),e8,e9] μ=.ok (.nx [some (sc ns),some tb,some (sL mnL),some (gL gs),some fv,some (.int (k:Nat)),some (.str w2),some (.int (j:Nat)),some (.str s),some (.bl b)]) μ:=by
   have tb1:u7 (mVar 9) [some (sc ns),some tb,some (sL mnL),some (gL gs),some fv,some (.int (k:Nat)),some (.str w),some (.int (j:Nat)),some (.str s),some (.bl b)] μ=.ok b μ:=Yp (d:=.bl b) rfl rfl
   cases b with
   |false=>exact⟨w,hw,(v_set 8 es).trans ((v_set 9 eb).trans (v_iteF (v_andF tb1)))⟩
   |true =>
    by_cases z:0<mix ns (20+k) % 9
    ·rw[decide_eq_true z] at tg
     exact⟨s,hs,(v_set 8 es).trans ((v_set 9 eb).trans ((v_iteT ((v_andT tb1).trans tg)).trans rfl))⟩
    ·rw[decide_eq_false z] at tg
     exact⟨w,hw,(v_set 8 es).trans ((v_set 9 eb).trans (v_iteF ((v_andT tb1).trans tg)))⟩
  obtain⟨w2,hw2,e2⟩:=key
  obtain⟨w',hw',d7,d8,d9,e3⟩:=Cd hg m (j+1) w2 (some (.int (j:Nat))) (some (.str s)) (some (.bl b)) hw2
  refine⟨w',hw',d7,d8,d9,?_⟩
  rw[fq]
  exact(D0 7 e2).trans e3
theorem Ce:∀(m k:Nat) (gs:List G) (acc:List (List Nat)) (e5 e6 e7 e8 e9:Option D),gs.length+8*m<=800->acc.length+m<=100->(∀w∈acc,w∈mnL)->∃(gs':List G) (W:List (List Nat)),∃d5 d6 d7 d8 d9,y8 (gN 5) Vy (iL (List.range' k m)) [some (sc ns),some tb,some (sL mnL),some (gL gs),some (.ref 0),e5,e6,e7,e8,e9] [.lst (acc.map .str)]=.ok (.nx [some (sc ns),some tb,some (sL mnL),some (gL gs'),some (.ref 0),d5,d6,d7,d8,d9]) [.lst (W.map .str)]/\W.length=acc.length+m/\∀w∈W,w∈mnL
 |0,k,gs,acc,e5,e6,e7,e8,e9,_,_,ha=>⟨gs,acc,e5,e6,e7,e8,e9,rfl,by omega,ha⟩
 |m+1,k,gs,acc,e5,e6,e7,e8,e9,hg,hl,ha=>by
  obtain⟨s,hs,es⟩:=G7 (m:=mVar 2) (mi:=j9 u6 (mCons (mVar 0) (mCons (j0 jo (mC (.int 41)) (mVar 5)) mNil))) (ρ:=[some (sc ns),some tb,some (sL mnL),some (gL gs),some (.ref 0),some (.int (k:Nat)),e6,e7,e8,e9]) (μ:=[.lst (acc.map .str)]) rfl
   (W2 (k:=41+k) rfl rfl (by omega))
  obtain⟨w,hw,d7,d8,d9,e1⟩:=Cd (ns:=ns) (μ:=[.lst (acc.map .str)]) (gs:=gs) (by omega) (k:=k) (fv:=.ref 0) 8 0 s e7 e8 e9 hs
  have ef:V5 (gN 7) (Y8 (mC (.int 8))) xb [some (sc ns),some tb,some (sL mnL),some (gL gs),some (.ref 0),some (.int (k:Nat)),some (.str s),e7,e8,e9] [.lst (acc.map .str)]=.ok (.nx [some (sc ns),some tb,some (sL mnL),some (gL gs),some (.ref 0),some (.int (k:Nat)),some (.str w),d7,d8,d9]) [.lst (acc.map .str)]:=by
   unfold V5
   rw[gu (n:=8) rfl (by decide),bind_ok]
   exact e1
  have ea:Jr (Z7 (mVar 4) (mVar 6)) [some (sc ns),some tb,some (sL mnL),some (gL gs),some (.ref 0),some (.int (k:Nat)),some (.str w),d7,d8,d9] [.lst (acc.map .str)]=.ok (.nx [some (sc ns),some tb,some (sL mnL),some (gL gs),some (.ref 0),some (.int (k:Nat)),some (.str w),d7,d8,d9]) [.lst ((acc++[w]).map .str)]:=by
   rw[List.map_append]
   exact v_app (μ0:=[]) rfl rfl (by rw[List.length_map];omega)
  obtain⟨kk,ek,hk,_⟩:=fz (μ:=[.lst ((acc++[w]).map .str)]) (cq w hw)
  have en:=Go (μ:=[.lst ((acc++[w]).map .str)]) hk (gs:=gs) (by omega)
  obtain⟨gs2,hg2,e2⟩:∃gs2:List G,gs2.length<=gs.length+8/\af8 (j9 zt (mCons (mVar 1) (mCons (mVar 3) (mCons (j9 yr (mCons (mVar 6) mNil)) mNil)))) (jj mNil) [some (sc ns),some tb,some (sL mnL),some (gL gs),some (.ref 0),some (.int (k:Nat)),some (.str w),d7,d8,d9] [.lst ((acc++[w]).map .str)]=.ok (gL gs2) [.lst ((acc++[w]).map .str)]:=by
   have e0:j9 zt (mCons (mVar 1) (mCons (mVar 3) (mCons (j9 yr (mCons (mVar 6) mNil)) mNil))) [some (sc ns),some tb,some (sL mnL),some (gL gs),some (.ref 0),some (.int (k:Nat)),some (.str w),d7,d8,d9] [.lst ((acc++[w]).map .str)]=.ok (rsD (nxt gs (gk kk))) [.lst ((acc++[w]).map .str)]:=v_call (v_cons rfl (v_cons rfl (v_cons (v_call rfl ek) v_nil))) en
   unfold af8
   rw[e0,bind_ok]
   cases hx:nxt gs (gk kk) with
   |none=>exact⟨[],by simp,rfl⟩
   |some gs3 =>
    have:=Gp gs _ gs3 hx
    cases gs3 with
    |nil=>exact⟨[],by simp,rfl⟩
    |cons g r=>exact⟨g::r,this,rfl⟩
  obtain⟨gs',W,f5,f6,f7,f8,f9,e3,hW,hWm⟩:=Ce m (k+1) gs2 (acc++[w]) (some (.int (k:Nat))) (some (.str w)) d7 d8 d9 (by omega) (by simp;omega) (fun v hv=>by
   rcases List.mem_append.mp hv with hv|hv
   ·exact ha v hv
   ·rw[List.mem_singleton.mp hv];exact hw)
  refine⟨gs',W,f5,f6,f7,f8,f9,?_,by simp at hW;omega,hWm⟩
  rw[fq]
  refine Eq.trans ?_ e3
  have eb:Vy [some (sc ns),some tb,some (sL mnL),some (gL gs),some (.ref 0),some (.int (k:Nat)),e6,e7,e8,e9] [.lst (acc.map .str)]=.ok (.nx [some (sc ns),some tb,some (sL mnL),some (gL gs2),some (.ref 0),some (.int (k:Nat)),some (.str w),d7,d8,d9]) [.lst ((acc++[w]).map .str)]:=by
   refine(v_set 6 es).trans ((v_seqN ef).trans ((v_seqN ea).trans ?_))
   unfold jr
   rw[e2]
   rfl
  exact D0 5 eb
theorem af6 (ns:List Int):∃W:List (List Nat),fg [sc ns,tb] []=.ok (.ref 0) [.lst (W.map .str)]/\W.length<=12/\∀w∈W,w∈mnL:=by
 obtain⟨d,hd,ed⟩:=Ck (ns:=ns) (k:=40) (n:=12) (by decide)
 have ed:mix ns 40 % 12=(d:Int):=ed
 obtain⟨gs',W,d5,d6,d7,d8,d9,e,hW,hm⟩:=Ce (ns:=ns) (1+d) 0 [.F] [] none none none none none (by simp;omega) (by simp;omega) (fun _ h=>nomatch h)
 have er:j0 jo (mC (.int 1)) (j0 Jl (j9 u6 (mCons (mVar 0) (mCons (mC (.int 40)) mNil))) (mC (.int 12))) [some (sc ns),some tb,some (sL mnL),some (gL [.F]),some (.ref 0),none,none,none,none,none] [.lst []]=.ok (.int ((1+d:Nat):Int)) [.lst []]:=by
  refine v_bin (y:=.int (d:Nat)) rfl ((v_mod (W2 (k:=40) rfl rfl rfl) (by decide)).trans (by rw[ed])) ?_
  show some (D.int (1+(d:Int)))=some (D.int ((1+d:Nat):Int))
  rw[Int.natCast_add]
  rfl
 refine⟨W,u3 8 ((v_set 2 (v_call rfl (menu_eq []))).trans ((v_set 3 (d:=gL [.F]) rfl).trans ((v_set 4 (d:=.ref 0) (μ1:=[.lst []]) rfl).trans ((v_seqN (ρ1:=[some (sc ns),some tb,some (sL mnL),some (gL gs'),some (.ref 0),d5,d6,d7,d8,d9]) (μ1:=[.lst (W.map .str)]) ?_).trans (v_ret rfl))))),by simp at hW;omega,hm⟩
 unfold V5
 refine(congrArg (fun r=>Res.bind r _) (gu er (by omega))).trans ?_
 exact e
end
theorem aj4 {g:D->GL}{mo:MX}{ms:MAs}{ρ:En}{μ:Mu}{x:List Nat}{ds:List D}{d:D}(h1:mo ρ μ=.ok (.str x) μ) (h2:ms ρ μ=.ok ds μ) (h3:g (.str x) (ds.map (deref μ))=some d):Ww g mo ms ρ μ=.ok d μ:=by
 unfold Ww
 rw[h1,bind_ok]
 show(ms ρ μ).bind _=_
 rw[h2,bind_ok]
 show ofO μ (g (.str x) (ds.map (deref μ)))=_
 rw[h3]
 rfl
noncomputable def xm (μ:Mu) (q:Nat):Mu:=μ++[.xdc "word" (.int q)]++[.exn "BadFilter" μ.length]
theorem ay2 {μ:Mu}{q:Nat}:(xm μ q)[μ.length+1]? =some (.exn "BadFilter" μ.length):=by
 unfold xm
 rw[List.getElem?_append_right (by simp)]
 simp
theorem ay3 {μ:Mu}{q:Nat}:(xm μ q)[μ.length]? =some (.xdc "word" (.int q)):=by
 unfold xm
 rw[List.append_assoc,List.getElem?_append_right (Nat.le_refl _),Nat.sub_self]
 rfl
theorem isx {μ:Mu}{q:Nat}{g:Str->Option Bool}{b:Bool}{ρ:En}(hρ:ρ[8]? =some (some (.ref (μ.length+1)))) (hg:g "BadFilter"=some b):u7 (Gf g (mVar 8)) ρ (xm μ q)=.ok b (xm μ q):=by
 refine Yp (d:=.bl b) ?_ rfl
 unfold Gf
 rw[v_var 8 hρ,bind_ok]
 unfold ag3
 dsimp only
 rw[ay2]
 dsimp only
 rw[ay3]
 dsimp only
 rw[hg]
 rfl
theorem xat {μ:Mu}{q:Nat}{ρ:En}{ok:Str->Bool}(hρ:ρ[8]? =some (some (.ref (μ.length+1)))) (hg:ok "BadFilter"=true):af7 ok "word" (mVar 8) ρ (xm μ q)=.ok (.int q) (xm μ q):=by
 unfold af7
 rw[v_var 8 hρ,bind_ok]
 dsimp only
 rw[ay2]
 dsimp only
 rw[ay3]
 dsimp only
 rw[if_pos ⟨hg,rfl⟩]
noncomputable abbrev az0:MSt:=(j7 (jr 6 (j9 Xz (mCons (mVar 1) (mCons (mVar 2) mNil))))
  (j7 (jr 7 (mC (.int 0)))
  (j7 (Za 8 (fun k=>k==0) xc (J9 U9 (mCons (Ww z6 (mC (.str w72)) (mCons (mVar 2) mNil)) mNil)) qj)
  (jh (Zs (j9 fh (mCons (mVar 7) mNil)) (j0 gEq (mVar 7) (mVar 6)))))))
theorem cf {ns:List Int}{W:List (List Nat)}{μ:Mu}{wv:D}{e3 e4 e5:Option D}(hv:deref μ wv=.lst (W.map .str)) (hW:∀w∈W,Wk w) (hl:W.length<=90) (hM:∀p,p<W.length->ms (W.map wd) p<=11) (hx:(jn 32 W).length<=390) :
  ∃μ',az0 [some (sc ns),some tb,some wv,e3,e4,e5,none,none,none] μ=.ok (.rt (.bl true)) μ':=by
 have hwt:=Fu (k:=20) fun w hw=>g9 (hW w hw)
 have hx:Tx0 (jn 32 W):=⟨fun c hc=>by
  rcases a55 hc with z|⟨w,h1,h2⟩
  ·omega
  ·exact A6 (hW w h1) c h2,hx⟩
 have rb:=aa7 hx (al0 W hW) (fun p=>aD5 (a52 hW p)) μ
 have ej:∀(ρ:En),ρ[2]? =some (some wv)->J9 U9 (mCons (Ww z6 (mC (.str w72)) (mCons (mVar 2) mNil)) mNil) ρ μ=U9 [.str (jn 32 W)] μ:=fun ρ h=>v_callX (v_cons (aj4 (x:=[32]) rfl (v_cons (v_var 2 h) v_nil) (by
  show z6 (.str [32]) [deref μ wv]=_
  rw[hv]
  exact a66 (by omega))) v_nil)
 have hs:=ap2 (ws:=W.map wd) (a52 hW) (fun p hp=>hM p (by simpa using hp)) (by simpa using hl)
 have hr:rn (W.map wd) [.F] 0=run [.F] (W.map fun w=>kO (wd w)) 0:=by
  unfold rn
  rw[List.drop_zero,List.map_map]
  rfl
 rw[hr] at hs
 have ew:=A4 hv hW hl
 unfold due at ew
 cases hq:rdP (W.map wd) with
 |out=>rw[hq] at hs;exact hs.elim
 |ok t q =>
  rw[hq] at hs rb
  have hs:run [.F] (W.map fun w=>kO (wd w)) 0=.ok:=hs
  have rb:U9 [.str (jn 32 W)] μ=.ok t (sR μ (W.map wd) q):=rb
  rw[hs] at ew
  have et:Za 8 (fun k=>k==0) xc (J9 U9 (mCons (Ww z6 (mC (.str w72)) (mCons (mVar 2) mNil)) mNil)) qj [some (sc ns),some tb,some wv,e3,e4,e5,some (.int 0),some (.int 0),none] μ=.ok (.nx [some (sc ns),some tb,some wv,e3,e4,e5,some (.int 0),some (.int 0),none]) (sR μ (W.map wd) q):=by
   unfold Za
   rw[ej _ rfl,rb]
  exact⟨_,(v_set 6 (v_call rfl ew)).trans ((v_set 7 rfl).trans ((v_seqN et).trans (v_ret ((v_andVT rfl).trans rfl))))⟩
 |er q =>
  rw[hq] at hs rb
  have hs:run [.F] (W.map fun w=>kO (wd w)) 0=.er q:=hs
  have rb:U9 [.str (jn 32 W)] μ=.exc ⟨0,.int ((q+1:Nat):Int)⟩ (sR μ (W.map wd) q):=rb
  rw[hs] at ew
  have ew:Xz [tb,wv] μ=.ok (.int ((q+1:Nat):Int)) μ:=ew
  have et:Za 8 (fun k=>k==0) xc (J9 U9 (mCons (Ww z6 (mC (.str w72)) (mCons (mVar 2) mNil)) mNil)) qj [some (sc ns),some tb,some wv,e3,e4,e5,some (.int ((q+1:Nat):Int)),some (.int 0),none] μ=.ok (.nx [some (sc ns),some tb,some wv,e3,e4,e5,some (.int ((q+1:Nat):Int)),some (.int ((q+1:Nat):Int)),none]) (xm (sR μ (W.map wd) q) (q+1)):=by
   have es:qj [some (sc ns),some tb,some wv,e3,e4,e5,some (.int ((q+1:Nat):Int)),some (.int 0),some (.ref ((sR μ (W.map wd) q).length+1))] (xm (sR μ (W.map wd) q) (q+1))=.ok (.nx [some (sc ns),some tb,some wv,e3,e4,e5,some (.int ((q+1:Nat):Int)),some (.int ((q+1:Nat):Int)),some (.ref ((sR μ (W.map wd) q).length+1))]) (xm (sR μ (W.map wd) q) (q+1)) :=
    (v_set 7 ((v_ifT ((v_andT (isx rfl (by decide +kernel))).trans (isx rfl (by decide +kernel)))).trans (xat rfl (by decide +kernel)))).trans (v_iteF (isx rfl (by decide +kernel)))
   unfold Za
   rw[ej _ rfl,rb]
   dsimp only
   rw[if_pos (show((0:Nat)==0)=true from rfl)]
   show(noX (qj [some (sc ns),some tb,some wv,e3,e4,e5,some (.int ((q+1:Nat):Int)),some (.int 0),some (.ref ((sR μ (W.map wd) q).length+1))] (xm (sR μ (W.map wd) q) (q+1)))).bind _=_
   rw[es]
   rfl
  refine⟨_,(v_set 6 (v_call rfl ew)).trans ((v_set 7 rfl).trans ((v_seqN et).trans (v_ret ((v_andVT rfl).trans (v_bin rfl rfl ?_)))))⟩
  show some (D.bl ((((q+1:Nat):Int))==((q+1:Nat):Int)))=_
  simp
section
variable {ρ:En}{μ:Mu}{L:List (List Nat)}{j:Nat}{m mi:MX}
theorem Al (L:List (List Nat)) (j:Nat):L.take (min j L.length)=L.take j:=by
 by_cases h:j<=L.length
 ·rw[Nat.min_eq_left h]
 ·rw[Nat.min_eq_right (by omega),List.take_of_length_le (Nat.le_refl _),List.take_of_length_le (by omega)]
theorem C4 (h:m ρ μ=.ok (sL L) μ) (hi:mi ρ μ=.ok (.int (j:Nat)) μ):mSl m Jh (jk mi) ρ μ=.ok (sL (L.take j)) μ:=by
 unfold mSl jk Jh
 rw[h,bind_ok,bind_ok,hi,bind_ok]
 dsimp only
 rw[bind_ok]
 show ofO μ (some (D.lst (M.cutD (L.map .str) none (some ((j:Nat):Int)))))=_
 unfold M.cutD
 rw[HT.sIx_none,HT.sIx_nat,List.drop_zero,Nat.sub_zero,List.length_map,←List.map_take,Al]
 rfl
theorem ak1 (h:m ρ μ=.ok (sL L) μ) (hi:mi ρ μ=.ok (.int (j:Nat)) μ):mSl m (jk mi) Jh ρ μ=.ok (sL (L.drop j)) μ:=by
 unfold mSl jk Jh
 rw[h,bind_ok,hi,bind_ok]
 dsimp only
 rw[bind_ok,bind_ok]
 show ofO μ (some (D.lst (M.cutD (L.map .str) (some ((j:Nat):Int)) none)))=_
 unfold M.cutD
 rw[HT.sIx_none,HT.sIx_nat,List.length_map,List.take_of_length_le (by simp),←List.map_drop]
 have:L.drop (min j L.length)=L.drop j:=by
  by_cases h:j<=L.length
  ·rw[Nat.min_eq_left h]
  ·rw[Nat.min_eq_right (by omega),List.drop_eq_nil_of_le (Nat.le_refl _),List.drop_eq_nil_of_le (by omega)]
 rw[this]
 rfl
end
structure Gd (W:List (List Nat)):Prop where
 wk:∀w∈W,Wk w
 len:W.length<=61
 mx:K11.mx 9 W
theorem Ao (a:B):1<=(tolB a).length:=by
 cases a<;>simp[tolB]<;>omega
noncomputable abbrev chB:MSt:=(j7 (jr 2 (mSl (j9 wr (mCons (j9 Xy (mCons (mVar 0) (mCons (mC (.int 0)) (mCons (mC (.int 2)) mNil)))) mNil)) Jh (jk (mC (.int 60)))))
  (j7 (jr 3 (j0 Jl (j9 u6 (mCons (mVar 0) (mCons (mC (.int 60)) mNil))) (jl U1 (mCons (mVar 2) mNil))))
  (j7 (jr 4 (j0 je (j9 Qi mNil) (j0 Jl (j9 u6 (mCons (mVar 0) (mCons (mC (.int 61)) mNil))) (mC (.int 44)))))
  (j7 (jr 5 (j0 jo (j0 jo (mSl (mVar 2) Jh (jk (mVar 3))) (jj (mCons (mVar 4) mNil))) (mSl (mVar 2) (jk (j0 jo (mVar 3) (mC (.int 1)))) Jh)))
  (j7 (jr 2 (jj (mCons (mVar 2) (mCons (mSl (mVar 2) Jh (jk (j0 jo (mVar 3) (mC (.int 1))))) (mCons (j0 jo (mSl (mVar 2) Jh (jk (mVar 3))) (mSl (mVar 2) (jk (j0 jo (mVar 3) (mC (.int 1)))) Jh)) (mCons (mVar 5) (mCons (j0 jo (j0 jo (mSl (mVar 2) Jh (jk (mVar 3))) (jj (mCons (mVar 4) mNil))) (mSl (mVar 2) (jk (mVar 3)) Jh)) mNil)))))))
  (j7 (jr 2 (j0 je (mVar 2) (j0 Jl (j9 u6 (mCons (mVar 0) (mCons (mC (.int 62)) mNil))) (mC (.int 5)))))
  (Js (j8 (j0 gGt (jl U1 (mCons (Ww z6 (mC (.str w72)) (mCons (mVar 2) mNil)) mNil)) (mC (.int 300))))
  (jr 2 (mSl (mVar 2) Jh (jk (mC (.int 12)))))
  jf)))))))
theorem aG1 {ns:List Int}{μ:Mu}{wv:D}:∃(W:List (List Nat)),∃e3 e4 e5,chB [some (sc ns),some tb,some wv,none,none,none,none,none,none] μ=.ok (.nx [some (sc ns),some tb,some (sL W),e3,e4,e5,none,none,none]) μ/\Gd W/\(jn 32 W).length<=390:=by
 obtain⟨a,ea,oka,na,_,da⟩:=v7 ns μ 6 2 0 (by omega)
 have la:=zn a 2 oka na da
 have fa:=B.fd_le a na
 have e129:nbB 2=129:=rfl
 have ta:wr [a.d] μ=.ok (sL (tolB a)) μ:=qk a 30 oka (by omega) (by omega)
 have hwk:=B6 a oka
 have hmx:=mx_7 oka na da
 have b1:mSl (j9 wr (mCons (j9 Xy (mCons (mVar 0) (mCons (mC (.int 0)) (mCons (mC (.int 2)) mNil)))) mNil)) Jh (jk (mC (.int 60))) [some (sc ns),some tb,some wv,none,none,none,none,none,none] μ=.ok (sL ((tolB a).take 60)) μ:=C4 (j:=60) (v_call (v_cons (v_call rfl ea) v_nil) ta) rfl
 have hpos:1<=((tolB a).take 60).length:=by have:=Ao a;rw[List.length_take];omega
 have hlen:((tolB a).take 60).length<=60:=by rw[List.length_take];omega
 have hwk:∀w∈(tolB a).take 60,Wk w:=fun w hw=>hwk w (List.mem_of_mem_take hw)
 have hmx:=Gk hmx 60
 generalize (tolB a).take 60=W0 at *
 obtain⟨t,ht,et⟩:=Ck (ns:=ns) (k:=60) (n:=W0.length) (by omega)
 have b2:j0 Jl (j9 u6 (mCons (mVar 0) (mCons (mC (.int 60)) mNil))) (jl U1 (mCons (mVar 2) mNil)) [some (sc ns),some tb,some (sL W0),none,none,none,none,none,none] μ=.ok (.int (t:Nat)) μ:=by
  refine v_bin (x:=.int (mix ns 60)) (y:=.int (W0.length:Nat)) (W2 rfl rfl rfl) (v_callB (v_cons rfl v_nil) (by show some (D.int (W0.map D.str).length)=_;rw[List.length_map])) ?_
  rw[deref_int,deref_int,W5 _ _ (by omega),et]
 obtain⟨x,hx,b3⟩:=G7 (m:=j9 Qi mNil) (mi:=j9 u6 (mCons (mVar 0) (mCons (mC (.int 61)) mNil))) (ρ:=[some (sc ns),some tb,some (sL W0),some (.int (t:Nat)),none,none,none,none,none]) (μ:=μ) (v_call rfl (menu_eq μ)) (W2 (k:=61) rfl rfl rfl)
 have hxk:=cq x hx
 have tk:∀e5,mSl (mVar 2) Jh (jk (mVar 3)) [some (sc ns),some tb,some (sL W0),some (.int (t:Nat)),some (.str x),e5,none,none,none] μ=.ok (sL (W0.take t)) μ:=fun e5=>C4 (j:=t) rfl rfl
 have tk1:∀e5,mSl (mVar 2) Jh (jk (j0 jo (mVar 3) (mC (.int 1)))) [some (sc ns),some tb,some (sL W0),some (.int (t:Nat)),some (.str x),e5,none,none,none] μ=.ok (sL (W0.take (t+1))) μ:=fun e5=>C4 (j:=t+1) rfl rfl
 have dr:∀e5,mSl (mVar 2) (jk (mVar 3)) Jh [some (sc ns),some tb,some (sL W0),some (.int (t:Nat)),some (.str x),e5,none,none,none] μ=.ok (sL (W0.drop t)) μ:=fun e5=>ak1 (j:=t) rfl rfl
 have dr1:∀e5,mSl (mVar 2) (jk (j0 jo (mVar 3) (mC (.int 1)))) Jh [some (sc ns),some tb,some (sL W0),some (.int (t:Nat)),some (.str x),e5,none,none,none] μ=.ok (sL (W0.drop (t+1))) μ:=fun e5=>ak1 (j:=t+1) rfl rfl
 have lt1:(W0.take t).length<=60:=by rw[List.length_take];omega
 have ld1:∀i,(W0.drop i).length<=60:=fun i=>by rw[List.length_drop];omega
 have ad:∀{A B:List (List Nat)},A.length<=200->B.length<=200->jo (sL A) (sL B)=some (sL (A++B)):=fun{A B} h1 h2=>yx (by omega)
 have b4:j0 jo (j0 jo (mSl (mVar 2) Jh (jk (mVar 3))) (jj (mCons (mVar 4) mNil))) (mSl (mVar 2) (jk (j0 jo (mVar 3) (mC (.int 1)))) Jh) [some (sc ns),some tb,some (sL W0),some (.int (t:Nat)),some (.str x),none,none,none,none] μ=.ok (sL (W0.take t++[x]++W0.drop (t+1))) μ :=
  v_bin (x:=sL (W0.take t++[x])) (v_bin (tk _) (y:=sL [x]) rfl (ad (by omega) (by simp))) (dr1 _) (ad (by simp;omega) (by have:=ld1 (t+1);omega))
 have b5:jj (mCons (mVar 2) (mCons (mSl (mVar 2) Jh (jk (j0 jo (mVar 3) (mC (.int 1))))) (mCons (j0 jo (mSl (mVar 2) Jh (jk (mVar 3))) (mSl (mVar 2) (jk (j0 jo (mVar 3) (mC (.int 1)))) Jh)) (mCons (mVar 5) (mCons (j0 jo (j0 jo (mSl (mVar 2) Jh (jk (mVar 3))) (jj (mCons (mVar 4) mNil))) (mSl (mVar 2) (jk (mVar 3)) Jh)) mNil))))) [some (sc ns),some tb,some (sL W0),some (.int (t:Nat)),some (.str x),some (sL (W0.take t++[x]++W0.drop (t+1))),none,none,none] μ=.ok (.lst ([W0,W0.take (t+1),W0.take t++W0.drop (t+1),W0.take t++[x]++W0.drop (t+1),W0.take t++[x]++W0.drop t].map sL)) μ :=
  v_lst (v_cons rfl (v_cons (tk1 _) (v_cons (v_bin (tk _) (dr1 _) (ad (by omega) (by have:=ld1 (t+1);omega))) (v_cons rfl (v_cons (v_bin (x:=sL (W0.take t++[x])) (v_bin (tk _) (y:=sL [x]) rfl (ad (by omega) (by simp))) (dr _) (ad (by simp;omega) (by have:=ld1 t;omega))) v_nil)))))
 obtain⟨d,hd,b6⟩:=aB6 (n:=5) (L:=[W0,W0.take (t+1),W0.take t++W0.drop (t+1),W0.take t++[x]++W0.drop (t+1),W0.take t++[x]++W0.drop t].map sL) (m:=mVar 2) (mi:=j9 u6 (mCons (mVar 0) (mCons (mC (.int 62)) mNil))) (ρ:=[some (sc ns),some tb,some (.lst ([W0,W0.take (t+1),W0.take t++W0.drop (t+1),W0.take t++[x]++W0.drop (t+1),W0.take t++[x]++W0.drop t].map sL)),some (.int (t:Nat)),some (.str x),some (sL (W0.take t++[x]++W0.drop (t+1))),none,none,none]) (μ:=μ) rfl (W2 (k:=62) rfl rfl rfl) rfl (by decide)
 obtain⟨W,hWm,rfl⟩:=List.mem_map.mp hd
 have hcut:W0=W0.take t++W0.drop t:=(List.take_append_drop t W0).symm
 have hcut1:W0.drop t=W0[t]::W0.drop (t+1):=List.drop_eq_getElem_cons ht
 have mA:∀v∈W0.take t,Wk v:=fun v hv=>hwk v (List.mem_of_mem_take hv)
 have mB:∀i,∀v∈W0.drop i,Wk v:=fun i v hv=>hwk v (List.mem_of_mem_drop hv)
 have mdel:mx 8 (W0.take t++W0.drop (t+1)):=as9 (y:=W0[t]) (by rw[←hcut1,←hcut];exact hmx)
 have gd:Gd W:=by
  simp only[List.mem_cons,List.not_mem_nil,or_false] at hWm
  rcases hWm with rfl|rfl|rfl|rfl|rfl
  ·exact⟨hwk,by omega,Jj hmx (by decide)⟩
  ·exact⟨fun v hv=>hwk v (List.mem_of_mem_take hv),by rw[List.length_take];omega,Jj (Gk hmx _) (by decide)⟩
  ·refine⟨fun v hv=>?_,by rw[List.length_append,List.length_take,List.length_drop];omega,Jj mdel (by decide)⟩
   rcases List.mem_append.mp hv with hv|hv
   ·exact mA v hv
   ·exact mB _ v hv
  ·exact⟨Ec mA hxk (mB _),by simp only[List.length_append,List.length_take,List.length_drop,List.length_singleton];omega,a33 mdel⟩
  ·exact⟨Ec mA hxk (mB _),by simp only[List.length_append,List.length_take,List.length_drop,List.length_singleton];omega,Jj (a33 (c:=7) (by rw[←hcut];exact hmx)) (by decide)⟩
 have hwt:=Fu (k:=20) fun w hw=>g9 (gd.wk w hw)
 have hgl:=gd.len
 have hjl:=fu 32 W
 have tg:j8 (j0 gGt (jl U1 (mCons (Ww z6 (mC (.str w72)) (mCons (mVar 2) mNil)) mNil)) (mC (.int 300))) [some (sc ns),some tb,some (sL W),some (.int (t:Nat)),some (.str x),some (sL (W0.take t++[x]++W0.drop (t+1))),none,none,none] μ=.ok (decide (300<(jn 32 W).length)) μ:=by
  refine v_test (v_bin (x:=.int ((jn 32 W).length:Nat)) (v_callB (v_cons (aj4 (x:=[32]) rfl (v_cons rfl v_nil) (a66 (by omega))) v_nil) ?_) rfl ?_)
  ·show(if(jn 32 W).length<=16777216 then some (D.int (jn 32 W).length) else none)=_
   rw[if_pos (by omega)]
  ·show some (D.bl (decide ((300:Int)<((jn 32 W).length:Int))))=_
   by_cases z:300<(jn 32 W).length
   ·rw[decide_eq_true z,decide_eq_true (by omega)]
   ·rw[decide_eq_false z,decide_eq_false (by omega)]
 have head:∀{r:MSt}{o:Res Out},r [some (sc ns),some tb,some (sL W),some (.int (t:Nat)),some (.str x),some (sL (W0.take t++[x]++W0.drop (t+1))),none,none,none] μ=o->(j7 (jr 2 (mSl (j9 wr (mCons (j9 Xy (mCons (mVar 0) (mCons (mC (.int 0)) (mCons (mC (.int 2)) mNil)))) mNil)) Jh (jk (mC (.int 60)))))
  (j7 (jr 3 (j0 Jl (j9 u6 (mCons (mVar 0) (mCons (mC (.int 60)) mNil))) (jl U1 (mCons (mVar 2) mNil))))
  (j7 (jr 4 (j0 je (j9 Qi mNil) (j0 Jl (j9 u6 (mCons (mVar 0) (mCons (mC (.int 61)) mNil))) (mC (.int 44)))))
  (j7 (jr 5 (j0 jo (j0 jo (mSl (mVar 2) Jh (jk (mVar 3))) (jj (mCons (mVar 4) mNil))) (mSl (mVar 2) (jk (j0 jo (mVar 3) (mC (.int 1)))) Jh)))
  (j7 (jr 2 (jj (mCons (mVar 2) (mCons (mSl (mVar 2) Jh (jk (j0 jo (mVar 3) (mC (.int 1))))) (mCons (j0 jo (mSl (mVar 2) Jh (jk (mVar 3))) (mSl (mVar 2) (jk (j0 jo (mVar 3) (mC (.int 1)))) Jh)) (mCons (mVar 5) (mCons (j0 jo (j0 jo (mSl (mVar 2) Jh (jk (mVar 3))) (jj (mCons (mVar 4) mNil))) (mSl (mVar 2) (jk (mVar 3)) Jh)) mNil)))))))
  (j7 (jr 2 (j0 je (mVar 2) (j0 Jl (j9 u6 (mCons (mVar 0) (mCons (mC (.int 62)) mNil))) (mC (.int 5))))) r)))))) [some (sc ns),some tb,some wv,none,none,none,none,none,none] μ=o:=fun{r o} h =>
  (v_set 2 b1).trans ((v_set 3 b2).trans ((v_set 4 b3).trans ((v_set 5 b4).trans ((v_set 2 b5).trans ((v_set 2 b6).trans h)))))
 by_cases z:300<(jn 32 W).length
 ·rw[decide_eq_true z] at tg
  have hw12:∀w∈W.take 12,Wk w:=fun v hv=>gd.wk v (List.mem_of_mem_take hv)
  refine⟨W.take 12,_,_,_,head ((v_iteT tg).trans (?_:_=Res.ok (Out.nx [some (sc ns),some tb,some (sL (W.take 12)),some (.int (t:Nat)),some (.str x),some (sL (W0.take t++[x]++W0.drop (t+1))),none,none,none]) μ)),⟨hw12,by rw[List.length_take];omega,Gk gd.mx 12⟩,?_⟩
  ·unfold jr
   refine(congrArg (fun r=>Res.bind r _) (C4 (j:=12) (L:=W) rfl rfl)).trans ?_
   rfl
  ·have h1:=fu 32 (W.take 12)
   have h2:=Fu (k:=20) fun w hw=>g9 (hw12 w hw)
   have h3:(W.take 12).length<=12:=by rw[List.length_take];omega
   omega
 ·rw[decide_eq_false z] at tg
  exact⟨W,_,_,_,head (v_iteF tg),gd,by omega⟩
theorem law_true (ns:List Int) (hl:ns.length<=63):∃μ,f_law [.lst (ns.map .int)] []=.ok (.bl true) μ:=by
 obtain⟨W,em,hWl,hWm⟩:=af6 ns
 have hwk:∀w∈W,Wk w:=fun w hw=>cq w (hWm w hw)
 have tg:j8 (j0 gEq (j0 Jl (j9 u6 (mCons (mVar 0) (mCons (mC (.int 59)) mNil))) (mC (.int 2))) (mC (.int 0))) [some (sc ns),some tb,some (.ref 0),none,none,none,none,none,none] [.lst (W.map .str)]=.ok (mix ns 59 % 2==0) [.lst (W.map .str)]:=v_test (v_bin (v_mod (W2 (k:=59) rfl rfl rfl) (by decide)) rfl (Kn _ _))
 have head:∀{r:MSt}{o:Res Out},r [some (sc ns),some tb,some (.ref 0),none,none,none,none,none,none] [.lst (W.map .str)]=o->j7 (jr 1 (j9 qf mNil)) (j7 (jr 2 (j9 fg (mCons (mVar 0) (mCons (mVar 1) mNil)))) r) [some (sc ns),none,none,none,none,none,none,none,none] []=o:=fun{r o} h=>(v_set 1 (v_call rfl (gram_eq []))).trans ((v_set 2 (v_call rfl em)).trans h)
 cases hq:(mix ns 59 % 2==0) with
 |true =>
  rw[hq] at tg
  obtain⟨V,e3,e4,e5,ec,gd,hj⟩:=aG1 (ns:=ns) (μ:=[.lst (W.map .str)]) (wv:=.ref 0)
  have hgl:=gd.len
  obtain⟨μ',et⟩:=cf (ns:=ns) (W:=V) (μ:=[.lst (W.map .str)]) (wv:=sL V) (e3:=e3) (e4:=e4) (e5:=e5) rfl gd.wk (by omega) (fun p hp=>by have:=ak7 gd.mx p (by omega);omega) hj
  exact⟨μ',u3 8 (head ((v_seqN ((v_iteT tg).trans ec)).trans et))⟩
 |false =>
  rw[hq] at tg
  have h1:=fu 32 W
  have h2:=Fu (k:=20) fun w hw=>g9 (hwk w hw)
  obtain⟨μ',et⟩:=cf (ns:=ns) (W:=W) (μ:=[.lst (W.map .str)]) (wv:=.ref 0) (e3:=none) (e4:=none) (e5:=none) rfl hwk (by omega) (fun p hp=>by have:=ak8 (W.map wd) p;omega) (by omega)
  exact⟨μ',u3 8 (head ((v_skip tg).trans et))⟩
end K11
noncomputable def PySem.W.Fast.tw11122623024210881780:Unit:=()
noncomputable def PySem.W.Fast.tw7280915162466720742:Unit:=()
noncomputable def PySem.W.Fast.tw5794123220057102449:Unit:=()
noncomputable def PySem.W.Fast.tw17323022028491819115:Unit:=()
noncomputable def PySem.W.Fast.tw11985012770358461377:PySem.Program:=PySem.Challenge.pw_netsieve_k11_whole_language
theorem PySem.W.Fast.te11985012770358461377:PySem.Challenge.pw_netsieve_k11_whole_language=PySem.W.Fast.tw11985012770358461377:=rfl
noncomputable def PySem.W.Fast.tw18358319771093421153:Unit:=()
noncomputable def PySem.W.Fast.tw9321765720595071986:Unit:=()
noncomputable def PySem.W.Fast.tw11859553792274491491:Unit:=()
noncomputable def PySem.W.Fast.tw1166171427648476021:Unit:=()
noncomputable def PySem.W.Fast.tw8515261989180001836:Unit:=()
noncomputable def PySem.W.Fast.tw9457571552202084103:Unit:=()
noncomputable def PySem.W.Fast.tw3254949448955160751:Unit:=()
noncomputable def PySem.W.Fast.tw4478139665552767290:Unit:=()
noncomputable def PySem.W.Fast.tw16124211681948540502:Unit:=()
noncomputable def PySem.W.Fast.tw7761253657139282906:Unit:=()
noncomputable def PySem.W.Fast.tw15193187856132589821:Unit:=()
noncomputable def PySem.W.Fast.tw11913570547539267177:Unit:=()
noncomputable def PySem.W.Fast.tw2128687913587366587:Unit:=()
noncomputable def PySem.W.Fast.tw8912419153846908313:Unit:=()
noncomputable def PySem.W.Fast.tw6212376812132349301:Unit:=()
noncomputable def PySem.W.Fast.tw17623855315334658782:Unit:=()
noncomputable def PySem.W.Fast.tw15389946774270596829:Unit:=()
noncomputable def PySem.W.Fast.tw10318527032059480780:Unit:=()
noncomputable def PySem.W.Fast.tw116510895380715003:Unit:=()
open PySem PySem.W PyProof.Rows
set_option maxRecDepth 100000 in
set_option maxHeartbeats 0 in
theorem PySem.Challenge.cw_netsieve_k11_whole_language_holds : PySem.Challenge.rw_netsieve_k11_whole_language.Holds := by
 w_on;o_law;k_head;(case hw=>w_witness2)
 k_fill
 refine M.walk_lawM (l:=PySem.Challenge.rw_netsieve_k11_whole_language) (k:=138) (x:="_law_script") (φ:=K11.f_law) rfl rfl ⟨rfl,by decide,by decide⟩ (fun w h Y=>PySem.W.kIn_of Y) ?F (fun ns hl=>K11.law_true ns hl)
 case F =>
  intro w mg fa h KX G hmg
  refine K11.finish hmg ?T
  refine' K11.mkT KX G ?n_len ?n_range ?n_any ?n_int ?n_str ?n_all ?n_isinstance ?n_bool ?n_ValueError ?a_LONG_SIGNS ?l_LONG_SIGNS ?a_MOST_FIGURES ?a_ROUND ?a_NAMES ?l_NAMES ?a_SIGNS ?l_SIGNS ?a_MOST_WITHIN ?a_SUM_OPS ?l_SUM_OPS ?h_SUM_OPS ?a_PRODUCT_OPS ?l_PRODUCT_OPS ?h_PRODUCT_OPS ?a_LOAD_SIZES ?l_LOAD_SIZES ?h_LOAD_SIZES ?a_COMPARISONS ?l_COMPARISONS ?h_COMPARISONS ?a_SieveError ?a_Reader ?a_BadFilter ?a_TooDeep ?a_Stuck ?a_NotLetIn ?a_BadLine ?i_BadFilter ?l_BadFilter ?c_BadFilter ?k_BadFilter ?o_BadFilter ?v_BadFilter ?y1_BadFilter ?y2_BadFilter ?y3_BadFilter ?y4_BadFilter ?y5_BadFilter ?y6_BadFilter ?y7_BadFilter ?y8_BadFilter ?u1_SieveError ?u2_SieveError ?u3_SieveError ?h1_SieveError ?h2_SieveError ?h3_SieveError ?s_BadFilter_SieveError ?z1_BadFilter ?z2_BadFilter ?z3_BadFilter ?z4_BadFilter ?k_BadFilter_BadFilter ?k_BadFilter_ValueError ?k_BadFilter_BadLine_NotLetIn_Stuck_TooDeep ?p1_Reader ?p2_Reader ?p3_Reader ?p4_Reader ?na_Reader_words ?na_Reader_place ?i_p_Reader__init__ ?l_p_Reader__init__ ?c_p_Reader__init__ ?k_p_Reader__init__ ?m1_p_Reader__init__ ?m2_p_Reader__init__ ?m3_p_Reader__init__ ?i_m_Reader_ahead ?l_m_Reader_ahead ?c_m_Reader_ahead ?k_m_Reader_ahead ?m2_m_Reader_ahead ?i_m_Reader_step_over ?l_m_Reader_step_over ?c_m_Reader_step_over ?k_m_Reader_step_over ?m2_m_Reader_step_over ?i_m_Reader_refuse ?l_m_Reader_refuse ?c_m_Reader_refuse ?k_m_Reader_refuse ?m2_m_Reader_refuse ?i_m_Reader_step_into ?l_m_Reader_step_into ?c_m_Reader_step_into ?k_m_Reader_step_into ?m2_m_Reader_step_into ?i_m_Reader_expect ?l_m_Reader_expect ?c_m_Reader_expect ?k_m_Reader_expect ?m2_m_Reader_expect ?i_m_Reader_expect_end ?l_m_Reader_expect_end ?c_m_Reader_expect_end ?k_m_Reader_expect_end ?m2_m_Reader_expect_end ?d_grammar ?d_menu ?d_cell ?d_mix ?d_begins ?d_next ?d_kind ?d_made ?d_sign ?d_told ?d_inner ?d_op ?d_number ?d_truth ?d_wrong ?d_p_end_of_figures ?d_p_end_of_letters ?d_p_end_of_word ?d_p_is_whole ?d_p_is_number ?d_p_number_of ?d_p_word_of ?d_p_words_of ?d_p_read_sum ?d_p_read_product ?d_p_read_plain ?d_p_read_load ?d_p_read_bracket ?d_p_read_comparison ?d_p_read_filter ?d_p_read_tests ?d_p_read_test ?d_p_read_so ?d_p_read ?d_whole ?d_law
  (case n_len=>k_is);(case n_range=>k_is);(case n_any=>k_is);(case n_int=>k_is)
  (case n_str=>k_is);(case n_all=>k_is);(case n_isinstance=>k_is);(case n_bool=>k_is)
  (case n_ValueError=>k_is);(case a_LONG_SIGNS=>k_is);(case l_LONG_SIGNS=>k_is);(case a_MOST_FIGURES=>k_is)
  (case a_ROUND=>k_is);(case a_NAMES=>k_is);(case l_NAMES=>k_is);(case a_SIGNS=>k_is)
  (case l_SIGNS=>k_is);(case a_MOST_WITHIN=>k_is);(case a_SUM_OPS=>k_is);(case l_SUM_OPS=>k_is)
  (case h_SUM_OPS=>rfl);(case a_PRODUCT_OPS=>k_is);(case l_PRODUCT_OPS=>k_is);(case h_PRODUCT_OPS=>rfl)
  (case a_LOAD_SIZES=>k_is);(case l_LOAD_SIZES=>k_is);(case h_LOAD_SIZES=>rfl);(case a_COMPARISONS=>k_is)
  (case l_COMPARISONS=>k_is);(case h_COMPARISONS=>rfl);(case a_SieveError=>k_is);(case a_Reader=>k_is)
  (case a_BadFilter=>k_is);(case a_TooDeep=>k_is);(case a_Stuck=>k_is);(case a_NotLetIn=>k_is)
  (case a_BadLine=>k_is);(case i_BadFilter=>k_is);(case l_BadFilter=>k_is);(case c_BadFilter=>k_is)
  (case k_BadFilter=>k_is);(case o_BadFilter=>kernel_rfl);(case v_BadFilter=>kernel_rfl);(case y1_BadFilter=>k_is)
  (case y2_BadFilter=>k_is);(case y3_BadFilter=>k_is);(case y4_BadFilter=>k_is);(case y5_BadFilter=>k_is)
  (case y6_BadFilter=>k_is);(case y7_BadFilter=>k_is);(case y8_BadFilter=>k_is);(case u1_SieveError=>k_is)
  (case u2_SieveError=>k_is);(case u3_SieveError=>k_is);(case h1_SieveError=>k_is);(case h2_SieveError=>kernel_rfl)
  (case h3_SieveError=>k_is);(case s_BadFilter_SieveError=>k_is);(case z1_BadFilter=>k_is);(case z2_BadFilter=>k_is)
  (case z3_BadFilter=>k_is);(case z4_BadFilter=>k_is);(case k_BadFilter_BadFilter=>kernel_rfl);(case k_BadFilter_ValueError=>kernel_rfl)
  (case k_BadFilter_BadLine_NotLetIn_Stuck_TooDeep=>kernel_rfl);(case p1_Reader=>kernel_rfl);(case p2_Reader=>k_is);(case p3_Reader=>k_is)
  (case p4_Reader=>k_is);(case na_Reader_words=>k_is);(case na_Reader_place=>k_is);(case i_p_Reader__init__=>k_is)
  (case l_p_Reader__init__=>k_is);(case c_p_Reader__init__=>k_is);(case k_p_Reader__init__=>k_is);(case m1_p_Reader__init__=>k_is)
  (case m2_p_Reader__init__=>k_is);(case m3_p_Reader__init__=>k_is);(case i_m_Reader_ahead=>k_is);(case l_m_Reader_ahead=>k_is)
  (case c_m_Reader_ahead=>k_is);(case k_m_Reader_ahead=>k_is);(case m2_m_Reader_ahead=>k_is);(case i_m_Reader_step_over=>k_is)
  (case l_m_Reader_step_over=>k_is);(case c_m_Reader_step_over=>k_is);(case k_m_Reader_step_over=>k_is);(case m2_m_Reader_step_over=>k_is)
  (case i_m_Reader_refuse=>k_is);(case l_m_Reader_refuse=>k_is);(case c_m_Reader_refuse=>k_is);(case k_m_Reader_refuse=>k_is)
  (case m2_m_Reader_refuse=>k_is);(case i_m_Reader_step_into=>k_is);(case l_m_Reader_step_into=>k_is);(case c_m_Reader_step_into=>k_is)
  (case k_m_Reader_step_into=>k_is);(case m2_m_Reader_step_into=>k_is);(case i_m_Reader_expect=>k_is);(case l_m_Reader_expect=>k_is)
  (case c_m_Reader_expect=>k_is);(case k_m_Reader_expect=>k_is);(case m2_m_Reader_expect=>k_is);(case i_m_Reader_expect_end=>k_is)
  (case l_m_Reader_expect_end=>k_is);(case c_m_Reader_expect_end=>k_is);(case k_m_Reader_expect_end=>k_is);(case m2_m_Reader_expect_end=>k_is)
  (case d_grammar=>walk_at "dm");(case d_menu=>walk_at "dm");(case d_cell=>walk_at "dm");(case d_mix=>walk_at "dm")
  (case d_begins=>walk_at "dm");(case d_next=>walk_at "dm");(case d_kind=>walk_at "dm");(case d_made=>walk_at "dm")
  (case d_sign=>walk_at "dm");(case d_told=>walk_at "dm");(case d_inner=>walk_at "dm");(case d_op=>walk_at "dm")
  (case d_number=>walk_at "dm");(case d_truth=>walk_at "dm");(case d_wrong=>walk_at "dm");(case d_p_end_of_figures=>walk_at "dm")
  (case d_p_end_of_letters=>walk_at "dm");(case d_p_end_of_word=>walk_at "dm");(case d_p_is_whole=>walk_at "dm");(case d_p_is_number=>walk_at "dm")
  (case d_p_number_of=>walk_at "dm");(case d_p_word_of=>walk_at "dm");(case d_p_words_of=>walk_at "dm");(case d_p_read_sum=>walk_at "dm")
  (case d_p_read_product=>walk_at "dm");(case d_p_read_plain=>walk_at "dm");(case d_p_read_load=>walk_at "dm");(case d_p_read_bracket=>walk_at "dm")
  (case d_p_read_comparison=>walk_at "dm");(case d_p_read_filter=>walk_at "dm");(case d_p_read_tests=>walk_at "dm");(case d_p_read_test=>walk_at "dm")
  (case d_p_read_so=>walk_at "dm");(case d_p_read=>walk_at "dm");(case d_whole=>walk_at "dm");(case d_law=>walk_at "dm")
