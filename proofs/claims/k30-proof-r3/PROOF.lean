import PyProof.Rows.All
import Wide.All
import OpenK.AllK
import Wide.FinOn
import Lean
import PyProof.EqAt
import PyProof.EqKinds
import PyProof.TupleCall
import PySem.Challenge.RW_netsieve_k30_whole_shrunk
noncomputable section
set_option Elab.async false
set_option linter.all false
set_option maxRecDepth 100000
section
open PySem PySem.Spec PyProof.Rows
abbrev VG:=@wpAny_bind
abbrev VH:=@Heap.get?_push_of_some
abbrev VI:=@List.getElem?_eq_getElem
abbrev VJ:=@if_pos
abbrev VL:=@Nat.le_refl
abbrev VM:=@Heap.lt_size
abbrev VN:=@if_neg
abbrev VO:=@wpAny_pure
abbrev VQ:=@List.getElem?_append_right
abbrev VR:=@List.not_mem_nil
abbrev VS:=@List.length_map
abbrev VT:=@List.size_toArray
abbrev VU:=@List.append_assoc
abbrev VW:=@List.map_cons
abbrev VX:=@decide_eq_true
abbrev VY:=@decide_eq_false
abbrev VZ:=@Heap.get?_push_size
abbrev W0:=@Bool.and_eq_true
abbrev W1:=@List.length_cons
abbrev W2:=@List.forall_mem_cons
abbrev W3:=@Nat.ne_of_lt
abbrev W4:=@Nat.lt_of_lt_of_le
abbrev W5:=@List.mem_append_left
abbrev W6:=@List.mem_cons_of_mem
abbrev W7:=@List.getD_eq_getElem?_getD
abbrev W8:=@List.mem_append_right
abbrev W9:=@Heap.get?_update_other
abbrev Wa:=@PySem.W.mg_none_of
abbrev Wb:=@sizeLine_eq
abbrev Wc:=@List.lookup_cons
abbrev Wd:=@List.mem_cons
abbrev We:=@false_implies
abbrev Wf:=@List.singleton_append
abbrev Wg:=@List.mem_cons_self
abbrev Wh:=@Nat.le_trans
abbrev Wi:=@List.getElem?_set_self
abbrev Wj:=@wpAny_mono
abbrev Wk:=@List.getElem?_map
abbrev Wl:=@Option.bind_some
abbrev Wm:=@Nat.sub_self
abbrev Wn:=@implies_true
abbrev Wo:=@List.idxOf_lt_length_of_mem
abbrev Wp:=@List.getElem?_set_ne
abbrev Wq:=@wpAny_field
abbrev Wr:=@Ne.symm
abbrev Ws:=@Int.emod_nonneg
abbrev Wt:=@Heap.get?_update_self
abbrev Wu:=@List.replicate_succ
abbrev Wv:=@List.getElem?_append_left
abbrev Ww:=@PySem.W.kia_one
abbrev Wx:=@Eq.trans
abbrev Wy:=@List.length_append
abbrev Wz:=@Int.emod_lt_of_pos
abbrev WA:=@wpAny_truthy_bool
abbrev WB:=@wpAny_newObj_type
abbrev WC:=@List.append_nil
abbrev WD:=@wpAny_holding
abbrev WE:=@PyProof.Rows.callWith_type1
abbrev WF:=@List.mem_of_getElem?
abbrev WG:=@Option.map_eq_some_iff
abbrev WH:=@List.set_append_right
abbrev WI:=@and_true
abbrev WJ:=@beq_eq_false_iff_ne
abbrev WK:=@Nat.zero_le
abbrev WL:=@or_false
abbrev WM:=@PySem.W.Looks.here
abbrev WN:=@List.set_cons_zero
abbrev WO:=@List.set_cons_succ
abbrev WP:=@Nat.ne_of_gt
abbrev WQ:=@PySem.W.mg_of
abbrev WR:=@Heap.get?_none_of_le
abbrev WS:=@Heap.size_push
abbrev WT:=@wpAny_setField
abbrev WU:=@List.nil_append
abbrev WV:=@List.find?_cons
abbrev WW:=@List.map_append
abbrev WX:=@PySem.mem_of_lookup
abbrev WY:=@List.range_succ_eq_map
abbrev WZ:=@List.any_cons
abbrev X0:=@PySem.W.any_some
abbrev X1:=@wpAny_Call_Name_kw
abbrev X2:=@wpAny_seqItems
abbrev X3:=@List.getElem?_toArray
abbrev X4:=@wpAny_passesOwn
abbrev X5:=@Int.toNat_natCast
abbrev X6:=@List.flatten_cons
abbrev X7:=@List.map_nil
abbrev X8:=@of_decide_eq_true
abbrev X9:=@wpAny_loadPart_at
abbrev Xa:=@codeAny_call_builtin
abbrev Xb:=@List.getElem?_replicate
abbrev Xc:=@wpAny_callSpecial?_slot
abbrev Xd:=@List.range'_succ
abbrev Xe:=@List.cons_append
abbrev Xf:=@Int.eq_ofNat_of_zero_le
abbrev Xg:=@Nat.le_of_eq
abbrev Xh:=@tupleKind_room_in1
abbrev Xi:=@wpAny_setField_rec
abbrev Xj:=@List.map_map
abbrev Xk:=@Bool.false_eq_true
abbrev Xl:=@wpAny_execs_nil
abbrev Xm:=@Nat.lt_irrefl
abbrev Xn:=@wpAny_attempt
abbrev Xo:=@PySem.F.slot_zip_next
abbrev Xp:=@List.getElem?_eq_none
abbrev Xq:=@List.lookup_cons_self
abbrev Xr:=@PySem.W.Looks.andThen
abbrev Xs:=@wpAny_pyIter_list
abbrev Xt:=@if_true
abbrev Xu:=@List.isEmpty_cons
abbrev Xv:=@decide_eq_true_eq
abbrev Xw:=@Bool.not_eq_true'
abbrev Xx:=@PySem.W.looks_findIn
abbrev Xy:=@wpAny_call
abbrev Xz:=@beq_iff_eq
abbrev XA:=@decide_true
abbrev XB:=@Nat.le_add_right
abbrev XC:=@Option.getD_some
abbrev XD:=@decide_false
abbrev XE:=@List.drop_eq_getElem_cons
abbrev XF:=@List.filterMap_cons
abbrev XG:=@List.length_zipWith
abbrev XJ:=@Int.toNat_of_nonneg
abbrev XM:=@List.replicate_zero
abbrev XN:=@PySem.F.args_tuple_add_2
abbrev XO:=@if_false
abbrev XQ:=@Bool.false_or
abbrev XR:=@List.length_set
abbrev XS:=@List.foldl_cons
abbrev XT:=@List.length_zip
abbrev XU:=@PassesOwn.never
abbrev XV:=@Option.map_some
abbrev XW:=@Bool.false_ne_true
abbrev XX:=@List.not_mem_cons_of_ne_of_not_mem
abbrev XY:=@List.contains_cons
abbrev XZ:=@List.getElem_idxOf
abbrev Y0:=@Nat.le_succ
abbrev Y1:=@PySem.F.entry_tuple_add
abbrev Y2:=@Option.bind_eq_some_iff
abbrev Y3:=@PySem.F.slot_tuple_add
abbrev Y4:=@Bool.not_false
abbrev Y5:=@List.drop_eq_nil_of_le
abbrev Y6:=@PySem.F.slot_tuple_iterator_next
abbrev Y7:=@Nat.testBit_eq_decide_div_mod_eq
abbrev Y8:=@Nat.toNat_testBit
abbrev Y9:=@plainObj_wpAny_Assign_Attribute
abbrev Ya:=@PyProof.Rows.slot_tuple_getitem
abbrev Yb:=@List.length_replicate
abbrev Yc:=@List.length_singleton
abbrev Yd:=@PySem.F.slot_dict_get
abbrev Ye:=@PyProof.Rows.callWith_builtin1
abbrev Yf:=@wpAny_call_entry
abbrev Yg:=@Option.getD_none
abbrev Yh:=@wpAny_isInstance
abbrev Yi:=@List.isEmpty_nil
abbrev Yj:=@Nat.mod_pow_succ
abbrev Yk:=@Nat.mod_eq_of_lt
abbrev Yl:=@wpAny_standAt
abbrev Ym:=@Bool.or_false
abbrev Yn:=@wpAny_onRaise
abbrev Yo:=@Bool.not_true
abbrev Yp:=@wpAny_updateSeq_pair
abbrev Yq:=@Bool.or_eq_false_iff
abbrev Yr:=@List.length_nil
abbrev Ys:=@List.nodup_cons
abbrev Yt:=@PyProof.Rows.boot_isinstance
abbrev Yu:=@List.forIn_cons
abbrev Yv:=@Array.length_toList
abbrev Yw:=@PySem.W.looks_clsIn
abbrev Yx:=@Heap.SameBut.update
abbrev Yy:=@codeAny_mono
abbrev Yz:=@wpAny_typeOf
abbrev YA:=@Nat.min_self
abbrev YB:=@Calls.Name_function_global
abbrev YC:=@Int.natCast_nonneg
abbrev YD:=@Int.fdiv_eq_ediv_of_nonneg
abbrev YE:=@Calls.spliced_cons
abbrev YF:=@List.zip_cons_cons
abbrev YG:=@List.length_range'
abbrev YH:=@PySem.W.kitx_list
abbrev YI:=@Option.isSome_map
abbrev YJ:=@wpAny_of_eq
abbrev YK:=@Heap.get?_push_at
abbrev YL:=@Paired.length
abbrev YM:=@wpAny_comprehension_free
abbrev YN:=@wpAny_execs_cons
abbrev YO:=@Nat.lt_succ_self
abbrev YQ:=@List.length_take
abbrev YR:=@noFill_tuple_add
abbrev YS:=@List.length_drop
abbrev YT:=@PySem.F.args_dict_get_3
abbrev YU:=@List.map_fst_zip
abbrev YV:=@PySem.F.args_zip_next_1
abbrev YW:=@List.getElem_mem
abbrev YX:=@beq_self_eq_true
abbrev YY:=@Nat.le_of_lt
abbrev YZ:=@wpAny_pyNext_list_item
abbrev Z0:=@wpAny_pyNext_range_end
abbrev Z1:=@wpAny_pyIter_rangeiter
abbrev Z2:=@PySem.W.cellsFrom_some
abbrev Z3:=@concat_meets
abbrev Z4:=@subscriptTail_builtinR
abbrev Z5:=@Calls.callWith_builtin
abbrev Z6:=@PySem.F.entry_dict_get
abbrev Z7:=@wpAny_rule
abbrev Z8:=@PySem.F.entry_zip_next
abbrev Z9:=@List.zipWith_cons_cons
abbrev Za:=@Bool.or_true
abbrev Zb:=@wpAny_mkText
abbrev Zc:=@PySem.Str.empty_append
abbrev Zd:=@Int.pow_succ
abbrev Ze:=@List.of_mem_zip
abbrev Zf:=@wpAny_isTrue_Compare1
abbrev Zg:=@wpAny_pyNext_list_end
abbrev Zh:=@builtinLookup_eq_fast
abbrev Zi:=@PyProof.Rows.boot_int
abbrev Zj:=@PyProof.Rows.boot_all
abbrev Zk:=@Bool.and_eq_false_iff
abbrev Zl:=PySem.W.Frag
end
section
open PySem PySem.Spec PyProof.Rows
abbrev Zm:=Value->Shared->Prop
abbrev Zn:=Str->Option Value
abbrev Zo:=List (Addr×Obj)
abbrev Zp:=Array (Option Value)
abbrev Zq:=List (Str×Value)
abbrev Zr:=List Addr
abbrev Zs:=Option Value
abbrev Zt:=List Value
abbrev Zu:=List Nat
abbrev Zv:=List Str
abbrev Zw:=Option Addr
abbrev Zx:=List Expr
abbrev Zy:=List Env
abbrev Zz:=List Stmt
abbrev ZA:=Unit->Shared->Prop
abbrev ZB:=Array Value
abbrev ZC:=List Int
abbrev ZD:=List Bool
end
namespace L2
open PySem PySem.Spec PyProof.Rows
abbrev Key:=Sum Int Str
def tY:Key->Value->Bool
 |.inl k,v=>Value.isInt k v
 |.inr x,v=>Value.isStrOf x v
def UJ (w:World):Key->Int
 |.inl k=>hashInt k
 |.inr x=>hashStr w x
theorem cD:∀{k:Key}{v:Value},tY k v=true->(∃i t,k=Sum.inl i/\v=Value.int i t)\/(∃x t,k=Sum.inr x/\v=Value.str x t)
 |.inl i,v,h=>by
  obtain⟨t,e⟩:=Value.isInt_shape (k:=i) (v:=v) h;exact .inl ⟨i,t,rfl,e⟩
 |.inr x,v,h=>by
  obtain⟨t,e⟩:=Value.isStrOf_shape (x:=x) (v:=v) h;exact .inr ⟨x,t,rfl,e⟩
theorem EL (i:Int) (t:Tok):tY (.inl i) (.int i t)=true:=by simp[tY,Value.isInt]
theorem EK (x:Str) (t:Tok):tY (.inr x) (.str x t)=true:=by simp[tY,Value.isStrOf]
theorem Qh (a b:Int):decide ((Sum.inl a:Key)=Sum.inl b)=(a==b):=by
 by_cases e:a=b
 ·subst e;simp
 ·have h:¬(Sum.inl a:Key)=Sum.inl b:=fun q=>e (Sum.inl.inj q)
  rw[VY h];exact(beq_eq_false_iff_ne.mpr e).symm
theorem Qe (a b:Str):decide ((Sum.inr a:Key)=Sum.inr b)=decide (a=b):=by
 by_cases e:a=b
 ·subst e;simp
 ·have h:¬(Sum.inr a:Key)=Sum.inr b:=fun q=>e (Sum.inr.inj q)
  rw[VY h,VY e]
theorem Qg (a:Int) (b:Str):decide ((Sum.inl a:Key)=Sum.inr b)=false:=VY (fun q=>nomatch q)
theorem Qf (a:Str) (b:Int):decide ((Sum.inr a:Key)=Sum.inl b)=false:=VY (fun q=>nomatch q)
def mixKind (prog:Program) (w:World):PySem.KeyKind prog w Key where
 is:=tY
 hash:=UJ w
 inj:=fun v a b ha hb=>by
  rcases cD ha with⟨i,t,rfl,rfl⟩|⟨x,t,rfl,rfl⟩
  ·rcases cD hb with⟨j,u,rfl,e⟩|⟨y,u,rfl,e⟩
   ·injection e with e1 _;rw[e1]
   ·exact nomatch e
  ·rcases cD hb with⟨j,u,rfl,e⟩|⟨y,u,rfl,e⟩
   ·exact nomatch e
   ·injection e with e1 _;rw[e1]
 byValue:=fun k v h=>by
  rcases cD h with⟨i,t,rfl,rfl⟩|⟨x,t,rfl,rfl⟩<;>rfl
 pyHash:=fun hv h=>by
  rcases cD hv with⟨i,t,rfl,rfl⟩|⟨x,t,rfl,rfl⟩
  ·exact wpAny_pyHash_int h
  ·exact wpAny_pyHash_str h
 eqBool:=fun hu hv h=>by
  rcases cD hu with⟨i,t,rfl,rfl⟩|⟨x,t,rfl,rfl⟩
  ·rcases cD hv with⟨j,u,rfl,rfl⟩|⟨y,u,rfl,rfl⟩
   ·rw[Qh] at h;exact wpAny_eqBool_int h
   ·rw[Qg] at h;exact SeqAt.EqAt.int_str i t y u _ _ _ _ h
  ·rcases cD hv with⟨j,u,rfl,rfl⟩|⟨y,u,rfl,rfl⟩
   ·rw[Qf] at h;exact SeqAt.EqAt.str_int x t j u _ _ _ _ h
   ·rw[Qe] at h;exact wpAny_eqBool_str h
 «strs»:=fun k x t v h=>by
  rcases cD h with⟨i,u,rfl,e⟩|⟨y,u,rfl,e⟩
  ·exact nomatch e
  ·injection e with e1 _
   subst e1;cases v<;>rfl
theorem yi (prog:Program) (w:World) (i:Int) (t:Tok):(mixKind prog w).is (.inl i) (.int i t)=true:=EL i t
theorem yh (prog:Program) (w:World) (x:Str) (t:Tok):(mixKind prog w).is (.inr x) (.str x t)=true:=EK x t
inductive V where
 |non|bl (b:Bool)|int (i:Int)|str (x:Str)|byt (b:Array UInt8)|flt (b:UInt64)|ref (a:Addr)|ty (n:String)
 deriving DecidableEq
def aV:V->Value->Prop
 |.non,u=>u=Value.none
 |.bl b,u=>u=Value.bool b
 |.int i,u=>∃t,u=Value.int i t
 |.str x,u=>∃t,u=Value.str x t
 |.byt b,u=>∃t,u=Value.bytes b t
 |.flt b,u=>∃t,u=Value.float b t
 |.ref a,u=>u=Value.ref a
 |.ty n,u=>u=Value.type n
abbrev aW:List V->Zt->Prop:=Paired aV
theorem aW.length {xs:List V}{us:Zt}(r:aW xs us):xs.length=us.length:=YL r
theorem aW.get:∀{xs:List V}{us:Zt}{i:Nat}{x:V},aW xs us->xs[i]? =some x->∃u,us[i]? =some u/\aV x u
 |_,_,_,_,.nil,e=>by simp at e
 |_,_,0,_,.cons r _,e=>by simp at e;subst e;exact⟨_,rfl,r⟩
 |_,_,i+1,x,.cons _ t,e=>by
  obtain⟨u,h1,h2⟩:=aW.get (i:=i) (x:=x) t (by simpa using e);exact⟨u,by simpa using h1,h2⟩
theorem aW.set {x:V}{u:Value}(r:aV x u):∀{xs:List V}{us:Zt}(i:Nat),aW xs us->aW (xs.set i x) (us.set i u)
 |_,_,_,.nil=>.nil
 |_,_,0,.cons _ t=>.cons r t
 |_,_,i+1,.cons q t=>.cons q (aW.set r i t)
theorem aW.append:∀{xs ys:List V}{us ws:Zt},aW xs us->aW ys ws->aW (xs++ys) (us++ws)
 |_,_,_,_,.nil,s=>s
 |_,_,_,_,.cons r t,s=>.cons r (aW.append t s)
theorem aW.take:∀{xs:List V}{us:Zt}(n:Nat),aW xs us->aW (xs.take n) (us.take n)
 |_,_,0,_=>.nil
 |_,_,_+1,.nil=>.nil
 |_,_,n+1,.cons r t=>.cons r (aW.take n t)
theorem aW.drop:∀{xs:List V}{us:Zt}(n:Nat),aW xs us->aW (xs.drop n) (us.drop n)
 |_,_,0,r=>r
 |_,_,_+1,.nil=>.nil
 |_,_,n+1,.cons _ t=>aW.drop n t
def kx:Option V->Zs->Prop
 |some v,some u=>aV v u
 |none,none=>True
 |_,_=>False
def KV {κ:Type}:List (κ×V)->List (κ×Value)->Prop:=Paired fun(p:κ×V) (q:κ×Value)=>p.1=q.1/\aV p.2 q.2
def kV:Key->V
 |.inl i=>.int i
 |.inr x=>.str x
inductive HO where
 |lst (xs:List V)
 |tup (xs:List V)
 |dK (kvs:List (Key×V))|dT (kvs:List (List Key×V))
 |set (S:Int->Bool) (n:Nat)
 |ins (C dx:Addr) (fs:List (Str×V))
 |own (x:Addr)
 |xd (fs:List (Str×V))
 |met (f x:Addr)
 |rng (lo hi:Int)
 |frz (o:Obj) (u:HO)
 |tbl (ps:ZB)
 |ext (φ:Heap->Prop)
abbrev Hp:=Addr->Option HO
def b6 (H:Hp) (a:Addr) (o:HO):Hp:=fun b=>if b=a then some o else H b
theorem aw {H:Hp}{a:Addr}{o:HO}:b6 H a o a=some o:=by unfold b6;rw[VJ rfl]
theorem ak {H:Hp}{a b:Addr}{o:HO}(h:b≠a):b6 H a o b=H b:=by unfold b6;rw[VN h]
theorem uI {H:Hp}{a:Addr}{o u:HO}:b6 (b6 H a o) a u=b6 H a u:=by
 funext b;unfold b6;split<;>rfl
theorem Sw {H:Hp}{a b:Addr}{o u:HO}(h:H a=some o) (h':H b=some u) (d:o≠u):a≠b:=by
 intro e;subst e;rw[h] at h';exact d (Option.some.inj h')
theorem az {H:Hp}{a b:Addr}{o:HO}(h:H a=some o) (h':H b=none):a≠b:=by
 intro e;subst e;rw[h] at h';cases h'
section
variable (P:Program) (w:World)
def cH (H:Hp) (h:Heap) (a:Addr):HO->Prop
 |.lst xs=>xs.length<=sizeLine/\∃(its:Zt) (n:Nat),aW xs its/\h.get? a=some { cls:=.type "list",data:=.seq its.toArray n}
 |.tup xs=>xs.length<=sizeLine/\∃its:Zt,aW xs its/\IsTup h a its.toArray
 |.dK kvs=>kvs.length<=sizeLine/\(a==sysModules)=false/\∃vs,KV kvs vs/\h.DictOf (mixKind P w) a vs
 |.dT kvs=>kvs.length<=sizeLine/\(a==sysModules)=false/\∃xs:List (List Key×Addr×Value),
   Paired (fun(p:List Key×V) (q:List Key×Addr×Value)=>p.1=q.1/\H q.2.1=some (.tup (p.1.map kV))/\aV p.2 q.2.2) kvs xs /\
   ∃o es ep,h.get? a=some o/\o.ExactDict/\o.data=.dict es ep/\es.toList=xs.map (entryOfKey (tupleKind (mixKind P w)))/\(xs.map (·.1)).Nodup
 |.set S n=>h.SetOf (intKind P w) a S n
 |.ins C dx fs=>H dx=some (.own a)/\fs.length<=1000/\dx≠a/\h.get? a=some (PySem.W.instObj C dx) /\
   ∃mA,h.Ns1 dx mA/\(∀f,kx (fs.lookup f) (mA f))/\PySem.Within mA (fs.map (·.1))
 |.own _=>∃o,h.get? a=some o
 |.xd fs=>∃mA,h.Ns1 a mA/\∀f,kx (fs.lookup f) (mA f)
 |.rng lo hi=>∃t u v,h.get? a=some { cls:=.type "range",data:=.fields #[.int lo t,.int hi u,.int 1 v]}
 |.frz o u=>h.get? a=some o/\cH H h a u
 |.tbl ps=>h.get? a=some { cls:=.none,data:=.fields ps}
 |.met f x=>h.get? a=some (PySem.W.methodObj (.ref f) (.ref x))
 |.ext φ=>φ h/\(∃o,h.get? a=some o)/\∀h1 h2:Heap,φ h1->(∀o,h1.get? a=some o->h2.get? a=some o)->φ h2
def jn (H:Hp) (h:Heap):Prop:=∀a o,H a=some o->cH P w H h a o
end
section
variable {P:Program}{w:World}{H H':Hp}{h h':Heap}{a:Addr}{o:HO}
theorem cH.lt (x:cH P w H h a o):a<h.objs.size:=by
 cases o with
 |lst xs=>obtain⟨_,_,_,_,e⟩:=x;exact VM e
 |tup xs=>obtain⟨_,_,_,p⟩:=x;exact p.lt
 |dK kvs=>obtain⟨_,_,_,_,o,_,_,e,_⟩:=x;exact VM e
 |dT kvs=>obtain⟨_,_,_,_,o,_,_,e,_⟩:=x;exact VM e
 |set S n=>obtain⟨o,_,_,_,e,_⟩:=x;exact VM e
 |ins C dx fs=>obtain⟨_,_,_,e,_⟩:=x;exact VM e
 |own y=>obtain⟨_,e⟩:=x;exact VM e
 |xd fs=>obtain⟨_,⟨_,_,_,e,_⟩,_⟩:=x;exact VM e
 |rng lo hi=>obtain⟨_,_,_,e⟩:=x;exact VM e
 |frz ob u=>obtain⟨e,_⟩:=x;exact VM e
 |tbl ps=>exact VM (show h.get? a=some _ from x)
 |met f y=>exact VM (show h.get? a=some _ from x)
 |ext φ=>obtain⟨_,⟨_,e⟩,_⟩:=x;exact VM e
theorem Paired.mapP {O β:Type}{F G:O->β->Prop}:∀{l₁:List O}{l₂:List β},Paired F l₁ l₂->(∀a b,F a b->G a b)->Paired G l₁ l₂
 |_,_,.nil,_=>.nil
 |_,_,.cons r t,f=>.cons (f _ _ r) (Paired.mapP t f)
theorem cH.stay (x:cH P w H h a o) (k:∀b u,(b=a\/H b=some (.own a))->h.get? b=some u->h'.get? b=some u)
  (ho:∀b,H b=some (.own a)->H' b=some (.own a)) (ht:∀b xs,H b=some (.tup xs)->H' b=some (.tup xs)):cH P w H' h' a o:=by
 induction o with
 |lst xs=>obtain⟨z,its,n,r,e⟩:=x;exact⟨z,its,n,r,k _ _ (.inl rfl) e⟩
 |tup xs=>obtain⟨z,its,r,ob,e,c⟩:=x;exact⟨z,its,r,ob,k _ _ (.inl rfl) e,c⟩
 |dK kvs=>obtain⟨z,y,vs,r,ob,es,ep,e,c⟩:=x;exact⟨z,y,vs,r,ob,es,ep,k _ _ (.inl rfl) e,c⟩
 |dT kvs =>
  obtain⟨z,y,xs,r,ob,es,ep,e,c⟩:=x;exact⟨z,y,xs,Paired.mapP r fun p q z=>⟨z.1,ht _ _ z.2.1,z.2.2⟩,ob,es,ep,k _ _ (.inl rfl) e,c⟩
 |set S n=>obtain⟨ob,es,ep,t,e,c⟩:=x;exact⟨ob,es,ep,t,k _ _ (.inl rfl) e,c⟩
 |ins C dx fs =>
  obtain⟨d,z,ne,e,mA,⟨od,es,ep,e2,c⟩,r⟩:=x;exact⟨ho _ d,z,ne,k _ _ (.inl rfl) e,mA,⟨od,es,ep,k _ _ (.inr d) e2,c⟩,r⟩
 |own y=>obtain⟨ob,e⟩:=x;exact⟨ob,k _ _ (.inl rfl) e⟩
 |xd fs=>obtain⟨mA,⟨od,es,ep,e,c⟩,r⟩:=x;exact⟨mA,⟨od,es,ep,k _ _ (.inl rfl) e,c⟩,r⟩
 |rng lo hi=>obtain⟨t,u,v,e⟩:=x;exact⟨t,u,v,k _ _ (.inl rfl) e⟩
 |frz ob u ih=>obtain⟨e,q⟩:=x;exact⟨k _ _ (.inl rfl) e,ih q⟩
 |tbl ps =>
  have e:h.get? a=some { cls:=.none,data:=.fields ps}:=x;show h'.get? a=some { cls:=.none,data:=.fields ps};exact k a _ (.inl rfl) e
 |met f y =>
  have e:h.get? a=some (PySem.W.methodObj (.ref f) (.ref y)):=x;show h'.get? a=some (PySem.W.methodObj (.ref f) (.ref y));exact k a _ (.inl rfl) e
 |ext φ=>obtain⟨p,⟨o,e⟩,st⟩:=x;exact⟨st _ _ p fun o q=>k _ _ (.inl rfl) q,⟨o,k _ _ (.inl rfl) e⟩,st⟩
theorem jn.lt (x:jn P w H h) (e:H a=some o):a<h.objs.size:=(x a o e).lt
theorem jn.fresh (x:jn P w H h) (e:h.objs.size<=a):H a=none:=by
 cases q:H a with
 |none=>rfl
 |some u=>exact absurd (W4 (x.lt q) e) (Xm _)
theorem jn.kept (x:jn P w H h) (k:∀b u,h.get? b=some u->h'.get? b=some u):jn P w H h':=fun a o e =>
 (x a o e).stay (fun b u _ q=>k b u q) (fun _ q=>q) fun _ _ q=>q
theorem jn.laid (x:jn P w H h) (k:∀b u,h.get? b=some u->h'.get? b=some u) (hp:h.objs.size<=a) (new:cH P w (b6 H a o) h' a o):jn P w (b6 H a o) h':=fun b u e=>by
 have hn:=x.fresh hp;by_cases hb:b=a
 ·subst hb;rw[aw] at e;cases e;exact new
 ·rw[ak hb] at e;exact(x b u e).stay (fun c v _ q=>k c v q) (fun c q=>by rw[ak (az q hn)];exact q) fun c xs q=>by rw[ak (az q hn)];exact q
end
def Rd (H:Hp) (a:Addr) (u:HO):Prop:=H a=some u\/∃o,H a=some (.frz o u)
theorem Rd.ok {P:Program}{w:World}{H:Hp}{h:Heap}{a:Addr}{u:HO}(r:Rd H a u) (x:jn P w H h):cH P w H h a u:=by
 rcases r with r|⟨o,r⟩
 ·exact x a u r
 ·obtain⟨_,q⟩:=x a _ r;exact q
def TC:Option HO->Prop
 |some (.lst _)=>True
 |some (.dK _)=>True
 |some (.dT _)=>True
 |some (.set _ _)=>True
 |some (.ins _ _ _)=>True
 |some (.ext _)=>True
 |_=>False
section
variable {P:Program}{w:World}{H:Hp}{h h':Heap}{x e:Addr}{o':HO}
theorem jn.write (ok:jn P w H h) (mu:TC (H x)) (he:e=x\/H e=some (.own x)) (k:∀b u,b≠e->h.get? b=some u->h'.get? b=some u) (heo:∃u,h'.get? e=some u)
  (new:cH P w (b6 H x o') h' x o'):jn P w (b6 H x o') h':=fun b u q=>by
 have nown:∀c y,H c=some (.own y)->c≠x:=fun c y r z=>by subst z;rw[r] at mu;exact mu
 have ntup:∀c xs,H c=some (.tup xs)->c≠x:=fun c xs r z=>by subst z;rw[r] at mu;exact mu
 by_cases hb:b=x
 ·subst hb;rw[aw] at q;cases q;exact new
 ·rw[ak hb] at q;by_cases hbe:b=e
  ·have q':H b=some (.own x):=by
    rcases he with z|z
    ·exact absurd (hbe.trans z) hb
    ·rw[hbe];exact z
   rw[q] at q';cases q';obtain⟨v,hv⟩:=heo;exact⟨v,by rw[hbe];exact hv⟩
  ·refine(ok b u q).stay (fun c v hc r=>k c v ?_ r) (fun c r=>by rw[ak (nown c b r)];exact r) fun c xs r=>by rw[ak (ntup c xs r)];exact r
   rcases hc with rfl|hc
   ·exact hbe
   ·rintro rfl
    rcases he with z|z
    ·exact nown c b hc z
    ·rw[hc] at z;cases z;exact hb rfl
end
structure Un (fs ex:Zr) (H H':Hp) (h h':Heap):Prop where
 keep:∀b o,h.get? b=some o->H b=none->b∉fs->b∉ex->h'.get? b=some o
 slot:∀b o,h.get? b=some o->H b=none->b∈fs->b∉ex->∃sl,h'.get? b=some { o with slots:=sl}
 free:∀b o,h.get? b=some o->H b=none->b∉ex->H' b=none
 there:∀b o,h.get? b=some o->b∉ex->∃o',h'.get? b=some o'
 tups:∀b xs,H b=some (.tup xs)->H' b=some (.tup xs)
 frzs:∀b o u,H b=some (.frz o u)->H' b=some (.frz o u)
 tbls:∀b ps,H b=some (.tbl ps)->∃more,H' b=some (.tbl (ps++more))
section
variable {fs fs' ex ex':Zr}{H H1 H2:Hp}{h h1 h2 h':Heap}{a x e:Addr}{o:HO}
theorem Un.any (u:Un fs ex H H1 h h1) {b:Addr}{ob:Obj}(q:h.get? b=some ob) (n:H b=none) (hx:b∉ex):∃sl,h1.get? b=some { ob with slots:=sl}:=by
 by_cases hb:b∈fs
 ·exact u.slot b ob q n hb hx
 ·exact⟨ob.slots,u.keep b ob q n hb hx⟩
theorem Un.trans (a:Un fs ex H H1 h h1) (b:Un fs ex H1 H2 h1 h2):Un fs ex H H2 h h2 where
 keep:=fun c ob q n hc hx=>b.keep c ob (a.keep c ob q n hc hx) (a.free c ob q n hx) hc hx
 slot:=fun c ob q n hc hx=>by
  obtain⟨sl,e1⟩:=a.slot c ob q n hc hx;obtain⟨sl',e2⟩:=b.slot c _ e1 (a.free c ob q n hx) hc hx;exact⟨sl',e2⟩
 free:=fun c ob q n hx=>by
  obtain⟨o',e1⟩:=a.there c ob q hx;exact b.free c o' e1 (a.free c ob q n hx) hx
 there:=fun c ob q hx=>by
  obtain⟨o',e1⟩:=a.there c ob q hx;exact b.there c o' e1 hx
 tups:=fun c xs q=>b.tups c xs (a.tups c xs q)
 frzs:=fun c ob xs q=>b.frzs c ob xs (a.frzs c ob xs q)
 tbls:=fun c ps q=>by
  obtain⟨m1,e1⟩:=a.tbls c ps q;obtain⟨m2,e2⟩:=b.tbls c _ e1;exact⟨m1++m2,by rw[e2,Array.append_assoc]⟩
theorem Un.kept (k:∀b u,h.get? b=some u->h'.get? b=some u):Un fs ex H H h h' :=
 ⟨fun b ob q _ _ _=>k b ob q,fun b ob q _ _ _=>⟨ob.slots,k b ob q⟩,fun _ _ _ n _=>n,fun b ob q _=>⟨ob,k b ob q⟩,fun _ _ q=>q,fun _ _ _ q=>q,fun _ ps q=>⟨#[],by rw[q];simp⟩⟩
theorem Un.refl:Un fs ex H H h h:=Un.kept fun _ _ q=>q
theorem Un.laid (k:∀b u,h.get? b=some u->h'.get? b=some u) (hp:h.objs.size<=a) (hn:H a=none):Un fs ex H (b6 H a o) h h' where
 keep:=fun b u q _ _ _=>k b u q
 slot:=fun b u q _ _ _=>⟨u.slots,k b u q⟩
 free:=fun b u q n _=>by rw[ak (W3 (W4 (VM q) hp))];exact n
 there:=fun b u q _=>⟨u,k b u q⟩
 tups:=fun b xs q=>by rw[ak (az q hn)];exact q
 frzs:=fun b u xs q=>by rw[ak (az q hn)];exact q
 tbls:=fun b ps q=>⟨#[],by rw[ak (az q hn),q];simp⟩
theorem Un.write (mu:TC (H x)) (he:e=x\/H e=some (.own x)) (k:∀b u,b≠e->h.get? b=some u->h'.get? b=some u) (heo:∃u,h'.get? e=some u):Un fs ex H (b6 H x o) h h':=by
 have hx:∀b,H b=none->b≠x:=fun b n z=>by subst z;rw[n] at mu;exact mu
 have hb:∀b,H b=none->b≠e:=fun b n z=>by
  subst z;rcases he with r|r
  ·exact hx b n r
  ·rw[n] at r;cases r
 have hm:∀b u,H b=some u->¬TC (some u)->b≠x:=fun b u q nm z=>by subst z;rw[q] at mu;exact nm mu
 refine⟨fun b u q n _ _=>k b u (hb b n) q,fun b u q n _ _=>⟨u.slots,k b u (hb b n) q⟩,fun b u q n _=>by rw[ak (hx b n)];exact n,fun b u q _=>?_,
  fun b xs q=>by rw[ak (hm b _ q fun z=>z)];exact q,fun b u xs q=>by rw[ak (hm b _ q fun z=>z)];exact q,fun b ps q=>⟨#[],by rw[ak (hm b _ q fun z=>z),q];simp⟩⟩
 by_cases hbe:b=e
 ·subst hbe;exact heo
 ·exact⟨u,k b u hbe q⟩
end
def TW (h:Heap) (H:Hp):Zr:=(List.range h.objs.size).filter fun a=>(H a).isSome
def vG (h:Heap) (H:Hp):Heap:=PySem.W.hideAll h (TW h H)
theorem ES (h:Heap) (H:Hp):(vG h H).objs.size=h.objs.size:=PySem.W.hideAll_size _ _
theorem J1 {h:Heap}{H:Hp}{b:Addr}{o:Obj}(e:h.get? b=some o) (n:H b=none):(vG h H).get? b=some o :=
 PySem.W.hideAll_get _ e fun hm=>by
  have q:(H b).isSome=true:=(List.mem_filter.mp hm).2;rw[n] at q;simp at q
theorem Ln {h:Heap}{H:Hp}{b:Addr}{o:Obj}(e:(vG h H).get? b=some o):h.get? b=some o/\H b=none:=by
 have e':h.get? b=some o:=PySem.W.of_hideAll (TW h H) e;refine⟨e',?_⟩;cases q:H b with
 |none=>rfl
 |some x =>
  have hm:b∈TW h H:=List.mem_filter.mpr ⟨List.mem_range.mpr (VM e'),by simp[q]⟩;have z:(vG h H).get? b=none:=PySem.W.hideAll_none (TW h H) hm;rw[z] at e;cases e
def MF (g h:Heap) (L:Addr):Zo:=(List.range h.objs.size).filterMap fun a=>if a=L\/(g.get? a).isSome=true then none else(h.get? a).map fun o=>(a,o)
def rest (g h:Heap) (L d:Addr):Zo:=(MF g h L).filter fun p=>decide (p.1≠d)
structure Mod (K:Zl) (mg:Zn) (base:Heap):Prop where
 kin:K.In base
 glob:base.Ns mainGlobals mg
 blt:∃mb,base.Ns builtinsNs mb/\∀x:Str,x≠"__name__"->mb x=bootBuiltins x
 nolimit:base.NoLimit
structure Cx where
 prog:Program
 w:World
 K:Zl
 mg:Zn
 base:Heap
 A:Around
 N:Zv
 s₀:Shared
 H₀:Hp
 env:Env
 outer:Zy
 stack:Zy
 ex:Zr
 fn:Str->Bool
 calm:Bool
 pn:Zo
 xe:Zm
 kn:Option (Zn):=none
def Cx.nd (X:Cx):Prop:=X.N.Nodup/\X.kn=none
def oR (l:Zy):Zr:=l.filterMap (·.frame)
abbrev Cx.fs (X:Cx):Zr:=oR X.outer
def MH (sc:Scope) (x:Str):Prop:=sc.names.lookup x=some .local\/sc.names.lookup x=some .cell\/sc.names.lookup x=some .free
def zD (sc:Scope) (x:Str):Prop:=sc.names.lookup x=some .local\/sc.names.lookup x=some .cell
def TH (env:Env) (h:Heap) (m:Zn) (x:Str) (u:Value):Prop :=
 (env.kindOf x=some .local/\m x=some u)\/((env.kindOf x=some .cell\/env.kindOf x=some .free)/\∃c,env.cells.lookup x=some c/\h.IsCell c (some u))
structure Cx.Ok (X:Cx):Prop where
 mod:Mod X.K X.mg X.base
 kind:X.env.scope.kind=.function
 glob:X.env.globals=mainGlobals
 blt:X.env.builtins=builtinsNs
 above:X.s₀.heap.objs.size<=X.env.locals
 inj:∀x y c,X.env.cells.lookup x=some c->X.env.cells.lookup y=some c->x=y
 has:∀x,(X.env.kindOf x=some .cell\/X.env.kindOf x=some .free)->∃c,X.env.cells.lookup x=some c
 cab:∀x c,X.fn x=true->X.env.cells.lookup x=some c->X.s₀.heap.objs.size<=c
 hd:X.calm=true->X.A.handled=none
 frames:X.A.frames=some X.stack
 stk:X.stack=X.outer\/(X.stack=X.env::X.outer/\X.env.frame=some X.env.locals)
 exf:∀b∈X.ex,b≠X.env.locals/\∀x c,X.env.cells.lookup x=some c->c≠b
 bs:∀b o,X.base.get? b=some o->X.s₀.heap.get? b=some o/\X.H₀ b=none
 bsz:X.base.objs.size<=X.s₀.heap.objs.size
 noex:∀b o,X.base.get? b=some o->b∉X.ex
 exfs:∀b∈X.ex,b∉X.fs
 funs:X.s₀.heap.FunFrames X.base X.outer
 frf:∀b∈X.fs,X.H₀ b=none
structure Inv (X:Cx) (pins:Zo) (σ:List (Option V)) (H:Hp) (s:Shared):Prop where
 ok:X.Ok
 os:s.os=X.s₀.os
 bare:AllBare s.gens
 base:Un X.fs X.ex X.H₀ H X.s₀.heap s.heap
 loc:∃m,s.heap.Ns X.env.locals m/\∀(i:Nat) (x:Str) (v:V),X.N[i]? =some x->σ[i]? =some (some v)->MH X.env.scope x->∃u,aV v u/\TH X.env s.heap m x u
 cell:∀x c,X.env.cells.lookup x=some c->∃v,s.heap.IsCell c v
 free:H X.env.locals=none
 freeC:∀x c,X.env.cells.lookup x=some c->H c=none
 pin:∀p∈X.pn++pins,s.heap.get? p.1=some p.2/\H p.1=none/\p.1≠X.env.locals/\p.1∉X.fs/\∀v,p.2.data≠.cell v
 hok:jn X.prog X.w H s.heap
 len:σ.length=X.N.length
 fx:∀f,X.kn=some f->s.heap.Ns X.env.locals f
section
variable {X:Cx}{pins:Zo}{σ:List (Option V)}{H H':Hp}{s:Shared}{h':Heap}
theorem Cx.Ok.nofr (ok:X.Ok) {b:Addr}{o:Obj}(e:X.base.get? b=some o):b∉X.fs:=fun hb=>by
 have:=(ok.funs.mem hb).1;rw[e] at this;cases this
theorem Inv.bs (I:Inv X pins σ H s):∀b o,X.base.get? b=some o->s.heap.get? b=some o/\H b=none:=fun b o e =>
 ⟨I.base.keep b o (I.ok.bs b o e).1 (I.ok.bs b o e).2 (I.ok.nofr e) (I.ok.noex b o e),I.base.free b o (I.ok.bs b o e).1 (I.ok.bs b o e).2 (I.ok.noex b o e)⟩
theorem Inv.bk (I:Inv X pins σ H s):∀b o,X.base.get? b=some o->s.heap.get? b=some o:=fun b o e=>(I.bs b o e).1
theorem Inv.mod (I:Inv X pins σ H s):Mod X.K X.mg X.base:=I.ok.mod
theorem Inv.kIn (I:Inv X pins σ H s):X.K.In s.heap:=I.ok.mod.kin.keeps I.bk
theorem Inv.fr (I:Inv X pins σ H s):∃m,Fr X.base X.env.locals s.heap m :=
 let⟨m,hn,_⟩:=I.loc
 ⟨m,hn,I.bk,Wh I.ok.bsz I.ok.above⟩
theorem Inv.lt (I:Inv X pins σ H s):X.env.locals<s.heap.objs.size:=let⟨_,hn,_⟩:=I.loc;hn.lt
theorem Inv.sz (I:Inv X pins σ H s):X.s₀.heap.objs.size<=s.heap.objs.size:=Wh I.ok.above (YY I.lt)
theorem Inv.nofs (I:Inv X pins σ H s) {a:Addr}(h:s.heap.objs.size<=a):a∉X.fs:=fun hb=>by
 obtain⟨_,o,ho,_⟩:=I.ok.funs.mem hb;exact absurd (W4 (VM ho) (Wh I.sz h)) (Xm _)
theorem Inv.cne (I:Inv X pins σ H s):∀x c,X.env.cells.lookup x=some c->c≠X.env.locals:=fun x c e z=>by
 obtain⟨v,o,ho,hd⟩:=I.cell x c e;obtain⟨m,⟨o',es,ep,ho',hd',_⟩,_⟩:=I.loc;rw[z,ho'] at ho;cases ho;rw[hd'] at hd;cases hd
theorem Inv.funs (I:Inv X pins σ H s):s.heap.FunFrames X.base X.outer:=by
 have all:∀(l:Zy),(∀b∈oR l,b∈X.fs)->X.s₀.heap.FunFrames X.base l->s.heap.FunFrames X.base l:=by
  intro l
  induction l with
  |nil=>intro _ _;trivial
  |cons env r ih =>
   intro hs hl;obtain⟨hk,⟨L,o,hf,hn,ho,hd⟩,hr⟩:=hl;have hL:L∈X.fs:=hs L (by unfold oR;rw[XF,hf];exact Wg);obtain⟨sl,e⟩:=I.base.slot L o ho (I.ok.frf L hL) hL fun z=>I.ok.exfs L z hL
   exact⟨hk,⟨L,_,hf,hn,e,hd⟩,ih (fun b hb=>hs b (by unfold oR;rw[XF,hf];exact W6 _ hb)) hr⟩
 exact all X.outer (fun _ hb=>hb) I.ok.funs
theorem Inv.stack (I:Inv X pins σ H s):s.heap.FunFrames X.base X.stack:=by
 rcases I.ok.stk with e|⟨e,hf⟩
 ·rw[e];exact I.funs
 ·rw[e];obtain⟨m,hn,_⟩:=I.loc;refine .cons (by rw[I.ok.kind];decide) hf hn ?_ I.funs;exact WR (Wh I.ok.bsz I.ok.above)
theorem Inv.stkSub (I:Inv X pins σ H s):∀b∈oR X.stack,b∈X.env.locals::X.fs:=fun b hb=>by
 rcases I.ok.stk with e|⟨e,hf⟩
 ·rw[e] at hb;exact W6 _ hb
 ·rw[e] at hb;unfold oR at hb;rw[XF,hf] at hb;exact hb
theorem Inv.stkFree (I:Inv X pins σ H s):∀b∈oR X.stack,H b=none:=fun b hb=>by
 rcases List.mem_cons.mp (I.stkSub b hb) with e|hb
 ·rw[e];exact I.free
 ·obtain⟨_,o,ho,_⟩:=I.ok.funs.mem hb;exact I.base.free b o ho (I.ok.frf b hb) fun z=>I.ok.exfs b z hb
theorem Inv.step {g':Array GenState}{t':Nat}{d':Drawn}{ch:Zr}(I:Inv X pins σ H s)
  (hch:∀b∈ch,(b∈X.ex\/X.s₀.heap.objs.size<=b)/\b≠X.env.locals/\(∀x c,X.env.cells.lookup x=some c->c≠b)/\∀p∈X.pn++pins,p.1≠b)
  (keep:∀b o,b≠X.env.locals->b∉X.fs->b∉ch->s.heap.get? b=some o->H b=none->h'.get? b=some o)
  (slot:∀b o,b≠X.env.locals->b∈X.fs->b∉ch->s.heap.get? b=some o->H b=none->∃sl,h'.get? b=some { o with slots:=sl}) (free:∀b o,b∉ch->s.heap.get? b=some o->H b=none->H' b=none)
  (there:∀b o,b∉ch->s.heap.get? b=some o->∃o',h'.get? b=some o')
  (tups:∀b xs,H b=some (.tup xs)->H' b=some (.tup xs)) (frzs:∀b o u,H b=some (.frz o u)->H' b=some (.frz o u)) (tbls:∀b ps,H b=some (.tbl ps)->∃more,H' b=some (.tbl (ps++more)))
  (ns:∀m,s.heap.Ns X.env.locals m->h'.Ns X.env.locals m) (hok:jn X.prog X.w H' h') (hg:AllBare g') :
  Inv X pins σ H' { s with heap:=h',gens:=g',drawn:=d',toks:=t'}:=by
 have neL:∀b o,X.s₀.heap.get? b=some o->b≠X.env.locals:=fun b o e=>W3 (W4 (VM e) I.ok.above)
 have neC:∀b o,X.s₀.heap.get? b=some o->b∉X.ex->b∉ch:=fun b o e hx hb=>by
  rcases(hch b hb).1 with z|z
  ·exact hx z
  ·exact absurd (W4 (VM e) z) (Xm _)
 have cellK:∀x c,X.env.cells.lookup x=some c->∀v,s.heap.IsCell c v->h'.IsCell c v:=fun x c e v ⟨o,ho,hd⟩=>by
  have nch:c∉ch:=fun z=>(hch c z).2.2.1 x c e rfl
  by_cases hc:c∈X.fs
  ·obtain⟨sl,q⟩:=slot c o (I.cne x c e) hc nch ho (I.freeC x c e);exact⟨_,q,hd⟩
  ·exact⟨o,keep c o (I.cne x c e) hc nch ho (I.freeC x c e),hd⟩
 refine⟨I.ok,I.os,hg,⟨fun b o e n hb hx=>?_,fun b o e n hb hx=>?_,fun b o e n hx=>?_,fun b o e hx=>?_,fun b xs e=>tups b xs (I.base.tups b xs e),fun b o xs e=>frzs b o xs (I.base.frzs b o xs e),fun b ps e=>?_⟩,?_,fun x c e=>?_,?_,fun x c e=>?_,fun p hp=>?_,hok,I.len,fun f e=>ns f (I.fx f e)⟩
 ·exact keep b o (neL b o e) hb (neC b o e hx) (I.base.keep b o e n hb hx) (I.base.free b o e n hx)
 ·obtain⟨sl,e1⟩:=I.base.slot b o e n hb hx;obtain⟨sl',e2⟩:=slot b _ (neL b o e) hb (neC b o e hx) e1 (I.base.free b o e n hx);exact⟨sl',e2⟩
 ·obtain⟨o',e1⟩:=I.base.there b o e hx;exact free b o' (neC b o e hx) e1 (I.base.free b o e n hx)
 ·obtain⟨o',e1⟩:=I.base.there b o e hx;exact there b o' (neC b o e hx) e1
 ·obtain⟨m1,e1⟩:=I.base.tbls b ps e;obtain⟨m2,e2⟩:=tbls b _ e1;exact⟨m1++m2,by rw[e2,Array.append_assoc]⟩
 ·obtain⟨m,hn,hl⟩:=I.loc;refine⟨m,ns m hn,fun i x v e1 e2 e3=>?_⟩;obtain⟨u,r,l⟩:=hl i x v e1 e2 e3;refine⟨u,r,?_⟩;rcases l with l|⟨k,c,e,z⟩
  ·exact .inl l
  ·exact .inr ⟨k,c,e,cellK x c e _ z⟩
 ·obtain⟨v,z⟩:=I.cell x c e;exact⟨v,cellK x c e v z⟩
 ·obtain⟨m,⟨o,_,_,ho,_⟩,_⟩:=I.loc;exact free _ o (fun z=>(hch _ z).2.1 rfl) ho I.free
 ·obtain⟨v,o,ho,hd⟩:=I.cell x c e;exact free c o (fun z=>(hch c z).2.2.1 x c e rfl) ho (I.freeC x c e)
 ·obtain⟨e,n,ne,nf,d⟩:=I.pin p hp;have nch:p.1∉ch:=fun z=>(hch p.1 z).2.2.2 p hp rfl
  exact⟨keep p.1 p.2 ne nf nch e n,free p.1 p.2 nch e n,ne,nf,d⟩
theorem Inv.un {t':Nat}(I:Inv X pins σ H s) (u:Un X.fs [] H H' s.heap h') (hok:jn X.prog X.w H' h'):Inv X pins σ H' { s with heap:=h',toks:=t'}:=by
 obtain⟨m,⟨o,es,ep,ho,r⟩,_⟩:=id I.loc;obtain⟨sl,hL⟩:=u.any ho I.free (by simp);exact I.step (g':=s.gens) (d':=s.drawn) (ch:=[]) (fun _ z=>nomatch z) (fun b o _ hb _ e n=>u.keep b o e n hb (by simp)) (fun b o _ hb _ e n=>u.slot b o e n hb (by simp)) (fun b o _ e n=>u.free b o e n (by simp)) (fun b o _ e=>u.there b o e (by simp)) u.tups u.frzs u.tbls (fun m' hm=>by
  obtain⟨o',es',ep',ho',r'⟩:=hm;rw[ho] at ho';cases ho';exact⟨_,es',ep',hL,r'⟩) hok I.bare
theorem Inv.call {g':Array GenState}{t':Nat}{d':Drawn}{ch:Zr}(I:Inv X pins σ H s) (u:Un (oR X.stack) ch H H' s.heap h') (hok:jn X.prog X.w H' h') (hg:AllBare g')
  (hch:∀b∈ch,(b∈X.ex\/X.s₀.heap.objs.size<=b)/\b≠X.env.locals/\(∀x c,X.env.cells.lookup x=some c->c≠b)/\∀p∈X.pn++pins,p.1≠b) :
  Inv X pins σ H' { s with heap:=h',gens:=g',drawn:=d',toks:=t'}:=by
 obtain⟨m,⟨o,es,ep,ho,r⟩,_⟩:=id I.loc;obtain⟨sl,hL⟩:=u.any ho I.free fun z=>(hch _ z).2.1 rfl
 exact I.step (ch:=ch) hch (fun b o hL hb hc e n=>u.keep b o e n (fun z=>(List.mem_cons.mp (I.stkSub b z)).elim hL hb) hc) (fun b o _ _ hc e n=>u.any e n hc) (fun b o hc e n=>u.free b o e n hc) (fun b o hc e=>u.there b o e hc) u.tups u.frzs u.tbls (fun m' hm=>by
  obtain⟨o',es',ep',ho',r'⟩:=hm;rw[ho] at ho';cases ho';exact⟨_,es',ep',hL,r'⟩) hok hg
theorem Inv.turned {t':Nat}{it:Addr}(I:Inv X pins σ H s) (k:∀b o,b≠it->s.heap.get? b=some o->h'.get? b=some o) (hn:H it=none) (hL:it≠X.env.locals)
  (h1:it∈X.ex\/X.s₀.heap.objs.size<=it) (h2:∀x c,X.env.cells.lookup x=some c->c≠it) (h3:∀p∈X.pn++pins,p.1≠it):Inv X pins σ H { s with heap:=h',toks:=t'}:=by
 have nit:∀b u,H b=some u->b≠it:=fun b u e z=>by rw[z,hn] at e;cases e
 refine I.step (g':=s.gens) (d':=s.drawn) (ch:=[it]) (fun b hb=>?_) (fun b o _ _ hc e _=>k b o (fun z=>hc (by simp[z])) e) (fun b o _ _ hc e _=>⟨o.slots,k b o (fun z=>hc (by simp[z])) e⟩) (fun _ _ _ _ n=>n)
  (fun b o hc e=>⟨o,k b o (fun z=>hc (by simp[z])) e⟩) (fun _ _ e=>e) (fun _ _ _ e=>e) (fun b ps e=>⟨#[],by rw[e];simp⟩) (fun m hm=>?_) (fun b u e=>?_) I.bare
 ·have e:b=it:=by simpa using hb
  subst e;exact⟨h1,hL,h2,h3⟩
 ·obtain⟨o,es,ep,ho,r⟩:=hm;exact⟨o,es,ep,k _ o (Wr hL) ho,r⟩
 ·refine(I.hok b u e).stay (fun c v hc q=>k c v ?_ q) (fun _ q=>q) fun _ _ q=>q
  rcases hc with z|z
  ·rw[z];exact nit b u e
  ·exact nit c _ z
theorem Inv.tok (I:Inv X pins σ H s) (t:Nat):Inv X pins σ H { s with toks:=t}:=I.un (h':=s.heap) (t':=t) Un.refl I.hok
theorem Inv.kept {t':Nat}(I:Inv X pins σ H s) (k:∀b u,s.heap.get? b=some u->h'.get? b=some u):Inv X pins σ H { s with heap:=h',toks:=t'}:=I.un (Un.kept k) (I.hok.kept k)
theorem Inv.laid {a:Addr}{o:HO}{t':Nat}(I:Inv X pins σ H s) (k:∀b u,s.heap.get? b=some u->h'.get? b=some u) (hp:s.heap.objs.size<=a) (new:cH X.prog X.w (b6 H a o) h' a o) :
  Inv X pins σ (b6 H a o) { s with heap:=h',toks:=t'}:=I.un (Un.laid k hp (I.hok.fresh hp)) (I.hok.laid k hp new)
theorem Inv.write {x e:Addr}{o:HO}{t':Nat}(I:Inv X pins σ H s) (mu:TC (H x)) (he:e=x\/H e=some (.own x)) (k:∀b u,b≠e->s.heap.get? b=some u->h'.get? b=some u) (heo:∃u,h'.get? e=some u)
  (new:cH X.prog X.w (b6 H x o) h' x o):Inv X pins σ (b6 H x o) { s with heap:=h',toks:=t'}:=I.un (Un.write mu he k heo) (I.hok.write mu he k heo new)
theorem Inv.pins_of {pins':Zo}(I:Inv X pins σ H s) (h:∀p∈pins',s.heap.get? p.1=some p.2/\H p.1=none/\p.1≠X.env.locals/\p.1∉X.fs/\∀v,p.2.data≠.cell v):Inv X pins' σ H s :=
 ⟨I.ok,I.os,I.bare,I.base,I.loc,I.cell,I.free,I.freeC,fun p hp=>(List.mem_append.mp hp).elim (fun z=>I.pin p (W5 _ z)) (h p),I.hok,I.len,I.fx⟩
theorem qN {N:Zv}(hN:N.Nodup) {i j:Nat}{x:Str}(a:N[i]? =some x) (b:N[j]? =some x):i=j:=by
 obtain⟨h1,e1⟩:=List.getElem?_eq_some_iff.mp a;obtain⟨h2,e2⟩:=List.getElem?_eq_some_iff.mp b;exact(List.getElem_inj hN).mp (e1.trans e2.symm)
theorem tw {M:Model}{A:Around}{E:Zm}{i:Nat}{x:Str}{v:V}{u:Value}{Q:ZA}(I:Inv X pins σ H s) (hN:X.nd) (hi:X.N[i]? =some x) (hx:zD X.env.scope x) (r:aV v u)
  (h:∀s',Inv X pins (σ.set i (some v)) H s'->(∃a,Heap.SameBut a s.heap s'.heap/\(a=X.env.locals\/X.env.cells.lookup x=some a))->Q () s') (hf:X.fn x=true\/X.env.scope.names.lookup x=some .local:=by first|exact .inl rfl|exact .inr rfl|assumption):wpAny M A (storeName X.env x u) Q E s:=by
 obtain⟨m,hn,hl⟩:=id I.loc;have hcls:(X.env.scope.kind==.class||(X.env.scope.kind==.module&&X.env.locals != X.env.globals))=false:=by rw[I.ok.kind];rfl
 have hiσ:i<σ.length:=by rw[I.len];exact(List.getElem?_eq_some_iff.mp hi).1
 have cne:=I.cne;have tracked:∀{a:Addr}{h':Heap},(∃o,s.heap.get? a=some o/\H a=none)->Heap.SameBut a s.heap h'->jn X.prog X.w H h':=fun{a h'} ha hs b ob e=>by
  obtain⟨_,_,hfree⟩:=ha;refine(I.hok b ob e).stay (fun c w' hc q=>(hs.2 c ?_).trans q) (fun _ q=>q) fun _ _ q=>q
  rintro rfl
  rcases hc with rfl|hc
  ·rw[hfree] at e;cases e
  ·rw[hfree] at hc;cases hc
 rcases hx with hk|hk
 ·refine wpAny_storeName_local hk hn (fun h' hn' hs=>?_) hcls;obtain⟨oL,_,_,hoL,_⟩:=id hn;refine h _ ⟨I.ok,I.os,I.bare,⟨fun b o e n hb hx=>?_,fun b o e n hb hx=>?_,I.base.free,fun b o e hx=>?_,I.base.tups,I.base.frzs,I.base.tbls⟩,⟨_,hn',fun j y v' e1 e2 e3=>?_⟩,fun y c e=>?_,I.free,I.freeC,fun p hp=>?_,tracked ⟨oL,hoL,I.free⟩ hs,by simpa using I.len,fun f e=>by rw[hN.2] at e;cases e⟩ ⟨_,hs,.inl rfl⟩
  ·exact(hs.2 b (W3 (W4 (VM e) I.ok.above))).trans (I.base.keep b o e n hb hx)
  ·obtain⟨sl,e1⟩:=I.base.slot b o e n hb hx;exact⟨sl,(hs.2 b (W3 (W4 (VM e) I.ok.above))).trans e1⟩
  ·obtain⟨o',e1⟩:=I.base.there b o e hx;exact⟨o',(hs.2 b (W3 (W4 (VM e) I.ok.above))).trans e1⟩
  ·by_cases hj:j=i
   ·subst hj;rw[hi] at e1;cases e1;rw[Wi hiσ] at e2;cases e2;exact⟨u,r,.inl ⟨hk,by simp⟩⟩
   ·rw[Wp (Wr hj)] at e2;obtain⟨u',r',q⟩:=hl j y v' e1 e2 e3;refine⟨u',r',?_⟩;rcases q with⟨k,e⟩|⟨k,c,e,z⟩
    ·refine .inl ⟨k,?_⟩;have:y≠x:=fun e=>hj (qN hN.1 e1 (e▸hi))
     simp[this,e]
    ·exact .inr ⟨k,c,e,z.sameBut hs (cne y c e)⟩
  ·obtain⟨w',z⟩:=I.cell y c e;exact⟨w',z.sameBut hs (cne y c e)⟩
  ·obtain⟨e,n,ne,nf,d⟩:=I.pin p hp;exact⟨(hs.2 p.1 ne).trans e,n,ne,nf,d⟩
 ·have hfn:X.fn x=true:=by
   rcases hf with z|z
   ·exact z
   ·rw[z] at hk;cases hk
  obtain⟨c,hc⟩:=I.ok.has x (.inl hk);obtain⟨w',z⟩:=I.cell x c hc;refine wpAny_storeName_cell I.ok.kind hk hc z (fun h' hc' hs=>?_);obtain⟨oc,hoc,hocd⟩:=id z;refine h { s with heap:=h'} ⟨I.ok,I.os,I.bare,⟨fun b o e n hb hx=>?_,fun b o e n hb hx=>?_,I.base.free,fun b o e hx=>?_,I.base.tups,I.base.frzs,I.base.tbls⟩,⟨m,hn.sameBut hs (Wr (cne x c hc)),fun j y v' e1 e2 e3=>?_⟩,fun y c' e=>?_,I.free,I.freeC,fun p hp=>?_,tracked ⟨oc,hoc,I.freeC x c hc⟩ hs,by simpa using I.len,fun f e=>by rw[hN.2] at e;cases e⟩ ⟨c,hs,.inr hc⟩
  ·exact(hs.2 b (W3 (W4 (VM e) (I.ok.cab x c hfn hc)))).trans (I.base.keep b o e n hb hx)
  ·obtain⟨sl,e1⟩:=I.base.slot b o e n hb hx;exact⟨sl,(hs.2 b (W3 (W4 (VM e) (I.ok.cab x c hfn hc)))).trans e1⟩
  ·obtain⟨o',e1⟩:=I.base.there b o e hx;exact⟨o',(hs.2 b (W3 (W4 (VM e) (I.ok.cab x c hfn hc)))).trans e1⟩
  ·by_cases hj:j=i
   ·subst hj;rw[hi] at e1;cases e1;rw[Wi hiσ] at e2;cases e2;exact⟨u,r,.inr ⟨.inl hk,c,hc,hc'⟩⟩
   ·rw[Wp (Wr hj)] at e2;obtain⟨u',r',q⟩:=hl j y v' e1 e2 e3;refine⟨u',r',?_⟩;rcases q with q|⟨k,c',e,z'⟩
    ·exact .inl q
    ·refine .inr ⟨k,c',e,z'.sameBut hs ?_⟩
     rintro rfl
     exact hj (qN hN.1 e1 (I.ok.inj _ _ _ e hc▸hi))
  ·by_cases hcc:c'=c
   ·subst hcc;exact⟨_,hc'⟩
   ·obtain⟨w2,z2⟩:=I.cell y c' e;exact⟨w2,z2.sameBut hs hcc⟩
  ·obtain⟨e,n,ne,nf,d⟩:=I.pin p hp;refine⟨(hs.2 p.1 ?_).trans e,n,ne,nf,d⟩;intro q;rw[q,hoc] at e;have q':oc=p.2:=Option.some.inj e;exact d w' (by rw[←q'];exact hocd)
theorem lS {M:Model}{A:Around}{E:Zm}{i:Nat}{x:Str}{v:V}{u:Value}{Q:ZA}(I:Inv X pins σ H s) (hN:X.nd) (hi:X.N[i]? =some x) (hx:zD X.env.scope x) (r:aV v u)
  (h:∀s',Inv X pins (σ.set i (some v)) H s'->Q () s') (hf:X.fn x=true\/X.env.scope.names.lookup x=some .local:=by first|exact .inl rfl|exact .inr rfl|assumption):wpAny M A (storeName X.env x u) Q E s :=
 tw I hN hi hx r (fun s' I' _=>h s' I') hf
theorem Inv.call' {s':Shared}{ch:Zr}(I:Inv X pins σ H s) (ho:s'.os=s.os) (u:Un (oR X.stack) ch H H' s.heap s'.heap) (hok:jn X.prog X.w H' s'.heap) (hg:AllBare s'.gens)
  (hch:∀b∈ch,(b∈X.ex\/X.s₀.heap.objs.size<=b)/\b≠X.env.locals/\(∀x c,X.env.cells.lookup x=some c->c≠b)/\∀p∈X.pn++pins,p.1≠b):Inv X pins σ H' s':=by
 obtain⟨h',g',d',t',o'⟩:=s';have e:o'=s.os:=ho;subst e;exact I.call (g':=g') (t':=t') (d':=d') u hok hg hch
end
abbrev XK:=Value->Zw->Hp->Prop
abbrev St:=List (Option V)
abbrev VK:=V->Hp->Prop
abbrev TE:=St->Hp->VK->Prop
abbrev TT:=St->Hp->(Bool->Hp->Prop)->Prop
abbrev TA:=St->Hp->(List V->Hp->Prop)->Prop
structure Bq where
 nx:St->Hp->Prop
 rt:VK
 bk:St->Hp->Prop:=fun _ _=>False
 ct:St->Hp->Prop:=fun _ _=>False
abbrev TS:=Bq->St->Hp->Prop
def EP (X:Cx) (pins:Zo) (σ:St) (Q:VK) (u:Value) (s':Shared):Prop:=∃v H',Inv X pins σ H' s'/\aV v u/\Q v H'
def TP (X:Cx) (pins:Zo) (σ:St) (Q:Bool->Hp->Prop) (b:Bool) (s':Shared):Prop:=∃H',Inv X pins σ H' s'/\Q b H'
def AP (X:Cx) (pins:Zo) (σ:St) (Q:List V->Hp->Prop) (us:Zt) (s':Shared):Prop:=∃vs H',Inv X pins σ H' s'/\aW vs us/\Q vs H'
def SP (X:Cx) (pins:Zo) (D:Bq) (f:Flow) (s':Shared):Prop :=
 match f with
 |.next=>∃σ' H',Inv X pins σ' H' s'/\D.nx σ' H'
 |.brk=>∃σ' H',Inv X pins σ' H' s'/\D.bk σ' H'
 |.cont=>∃σ' H',Inv X pins σ' H' s'/\D.ct σ' H'
 |.ret u=>∃v σ' H',Inv X pins σ' H' s'/\aV v u/\D.rt v H'
def PE (X:Cx) (e:Expr) (t:TE):Prop :=
 ∀(pins:Zo) (s:Shared) (σ:St) (H:Hp) (Q:VK),Inv X pins σ H s->t σ H Q->wpAny (model X.prog X.w) X.A (eval e X.env) (EP X pins σ Q) X.xe s
def PT (X:Cx) (e:Expr) (t:TT):Prop :=
 ∀(pins:Zo) (s:Shared) (σ:St) (H:Hp) (Q:Bool->Hp->Prop),Inv X pins σ H s->t σ H Q->wpAny (model X.prog X.w) X.A (isTrue e X.env (eval e X.env)) (TP X pins σ Q) X.xe s
def PW (X:Cx) (e:Expr) (t:TT):Prop :=
 ∀(whole:Sem Value) (pins:Zo) (s:Shared) (σ:St) (H:Hp) (Q:Bool->Hp->Prop),Inv X pins σ H s->t σ H Q->wpAny (model X.prog X.w) X.A (isTrue e X.env whole) (TP X pins σ Q) X.xe s
theorem PW.pt {X:Cx}{e:Expr}{t:TT}(h:PW X e t):PT X e t:=h _
def PA (X:Cx) (es:Zx) (t:TA):Prop :=
 ∀(pos:Pos) (pins:Zo) (s:Shared) (σ:St) (H:Hp) (Q:List V->Hp->Prop),Inv X pins σ H s->t σ H Q->wpAny (model X.prog X.w) X.A (spliced (backTo pos (starEach es X.env))) (AP X pins σ Q) X.xe s
def PS (X:Cx) (st:Stmt) (t:TS):Prop :=
 ∀(pins:Zo) (s:Shared) (σ:St) (H:Hp) (D:Bq),Inv X pins σ H s->t D σ H->wpAny (model X.prog X.w) X.A (exec st X.env) (SP X pins D) X.xe s
def Dr (X:Cx) (st:Zz) (t:TS):Prop :=
 ∀(pins:Zo) (s:Shared) (σ:St) (H:Hp) (D:Bq),Inv X pins σ H s->t D σ H->wpAny (model X.prog X.w) X.A (execs st X.env) (SP X pins D) X.xe s
theorem bP {O:Type}{t:Sem O}{Q Q':O->Shared->Prop}{M:Model}{A:Around}{E:Zm}{s:Shared}(h:wpAny M A t Q E s) (hQ:∀a s,Q a s->Q' a s):wpAny M A t Q' E s:=Wj h hQ fun _ _ x=>x
section
variable {X:Cx}
def sQ (i:Nat):TE:=fun σ H Q=>∃v,σ[i]? =some (some v)/\Q v H
def tC (v:V):TE:=fun _ H Q=>Q v H
theorem uU {i:Nat}{x:Str}{pos:Pos}(hN:X.N[i]? =some x) (hv:MH X.env.scope x) (hd:(x==("__debug__":Str))=false:=by decide) (hcd:(x==("__classdict__":Str))=false:=by decide):PE X (.Name x pos) (sQ i):=by
 intro pins s σ H Q I h;obtain⟨v,e,h⟩:=h;obtain⟨m,hn,hl⟩:=I.loc;obtain⟨u,r,l⟩:=hl i x v hN e hv;have fin:EP X pins σ Q u s:=⟨v,H,I,r,h⟩
 rcases l with⟨hk,hm⟩|⟨hk,c,hc,hcell⟩
 ·exact wpAny_Name (wpAny_loadName_local I.ok.kind hk hn hm fin) hd
 ·rcases hk with hk|hk
  ·exact wpAny_Name (wpAny_loadName_cell I.ok.kind hk hc hcell fin) hd
  ·exact wpAny_Name (wpAny_loadName_free I.ok.kind hk hc hcell fin hcd) hd
theorem Hf {i j pos}:PE X (.Constant (.int i) j pos) (tC (.int i)):=fun _ _ _ H _ I h=>wpAny_Constant_int ⟨.int i,H,I.tok _,⟨_,rfl⟩,h⟩
theorem Sc {b j pos}:PE X (.Constant (.bool b) j pos) (tC (.bl b)):=fun _ _ _ H _ I h=>Constant_bool ⟨.bl b,H,I,rfl,h⟩
theorem P9 {j pos}:PE X (.Constant .none j pos) (tC .non):=fun _ _ _ H _ I h=>Constant_none ⟨.non,H,I,rfl,h⟩
theorem Ha {x j pos}:PE X (.Constant (.str x) j pos) (tC (.str x)):=fun _ _ _ H _ I h=>Calls.Constant_str ⟨.str x,H,I.tok _,⟨_,rfl⟩,h⟩
def Gl (X:Cx) (x:Str):Prop:=X.env.kindOf x=some .globalImplicit
theorem gc {E:Zm}{pins:Zo}{s:Shared}{σ:St}{H:Hp}{x:Str}{u:Value}{pos:Pos}{Q:Zm}(I:Inv X pins σ H s) (hg:Gl X x) (hm:X.mg x=some u) (h:Q u s)
  (hd:(x==("__debug__":Str))=false:=by decide):wpAny (model X.prog X.w) X.A (eval (.Name x pos) X.env) Q E s :=
 YB I.ok.kind hg (Calls.loadGlobal_global (by rw[I.ok.glob];exact I.mod.glob.keeps I.bk) hm h) hd
theorem jU {E:Zm}{pins:Zo}{s:Shared}{σ:St}{H:Hp}{x:Str}{u:Value}{pos:Pos}{Q:Zm}(I:Inv X pins σ H s) (hg:Gl X x) (hm:X.mg x=none) (hv:bootBuiltins x=some u) (h:Q u s)
  (hn:x≠"__name__":=by decide) (hd:(x==("__debug__":Str))=false:=by decide):wpAny (model X.prog X.w) X.A (eval (.Name x pos) X.env) Q E s:=by
 obtain⟨mb,h1,h2⟩:=I.mod.blt;exact YB I.ok.kind hg (Calls.loadGlobal_builtin (by rw[I.ok.glob];exact I.mod.glob.keeps I.bk) hm (by rw[I.ok.blt];exact h1.keeps I.bk) ((h2 x hn).trans hv) h) hd
theorem BU {x:Str}{v:V}{u:Value}{pos:Pos}(hg:Gl X x) (hm:X.mg x=some u) (r:aV v u) (hd:(x==("__debug__":Str))=false:=by decide):PE X (.Name x pos) (tC v) :=
 fun _ _ _ H _ I h=>gc I hg hm ⟨v,H,I,r,h⟩ hd
theorem KU {x:Str}{v:V}{u:Value}{pos:Pos}(hg:Gl X x) (hm:X.mg x=none) (hv:bootBuiltins x=some u) (r:aV v u) (hn:x≠"__name__":=by decide) (hd:(x==("__debug__":Str))=false:=by decide):PE X (.Name x pos) (tC v) :=
 fun _ _ _ H _ I h=>jU I hg hm hv ⟨v,H,I,r,h⟩ hn hd
variable {a b:Expr}{ta tb:TE}{pos:Pos}
def PC (X:Cx) (op:CmpOp) (a b:Expr) (t:TE):Prop :=
 ∀(pins:Zo) (s:Shared) (σ:St) (H:Hp) (Q:VK),Inv X pins σ H s->t σ H Q ->
  wpAny (model X.prog X.w) X.A (eval a X.env) (fun v s₁=>wpAny (model X.prog X.w) X.A (eval b X.env) (fun u s₂=>wpAny (model X.prog X.w) X.A (compareOp op v u) (EP X pins σ Q) X.xe s₂) X.xe s₁) X.xe s
theorem y9 (b:Expr) {op:CmpOp}(h:op≠.In) (h2:op≠.NotIn):behindInMarks op b=false:=by
 have e1:(op==CmpOp.In)=false:=by cases op<;>first|rfl|exact absurd rfl h
 have e2:(op==CmpOp.NotIn)=false:=by cases op<;>first|rfl|exact absurd rfl h2
 cases b<;>simp[behindInMarks,e1,e2]
def Rx (ta:TE):TE:=fun σ H Q=>ta σ H fun x H1=>Q (.bl (decide (x=.non))) H1
def MY (ta:TE):TE:=fun σ H Q=>ta σ H fun x H1=>Q (.bl (!decide (x=.non))) H1
theorem aV.none_iff {x:V}{v:Value}(r:aV x v):(v==Value.none)=decide (x=.non):=by
 cases x with
 |non=>cases r;rfl
 |bl _=>cases r;rfl
 |int _=>obtain⟨t,rfl⟩:=r;rfl
 |str _=>obtain⟨t,rfl⟩:=r;rfl
 |byt _=>obtain⟨t,rfl⟩:=r;rfl
 |flt _=>obtain⟨t,rfl⟩:=r;rfl
 |ref _=>cases r;rfl
 |ty _=>cases r;rfl
theorem Hm {j pos'} (ha:PE X a ta):PC X .Is a (.Constant .none j pos') (Rx ta):=by
 intro pins s σ H Q I h;refine bP (ha pins s σ H _ I h) fun v s1 ⟨x,H1,I1,r1,q1⟩=>?_
 exact Constant_none (is_none_gen ⟨.bl _,H1,I1,by rw[r1.none_iff];rfl,q1⟩)
theorem BX {j pos'} (ha:PE X a ta):PC X .IsNot a (.Constant .none j pos') (MY ta):=by
 intro pins s σ H Q I h;refine bP (ha pins s σ H _ I h) fun v s1 ⟨x,H1,I1,r1,q1⟩=>?_
 exact Constant_none (isnot_none_gen ⟨.bl _,H1,I1,by rw[r1.none_iff];rfl,q1⟩)
def tB (t:TE):TT:=fun σ H Q=>t σ H fun x H1=>∃c,x=.bl c/\Q c H1
theorem Hj {op:CmpOp}{t:TE}(h:PC X op a b t) (h1:behindInMarks op b=false:=by first|exact y9 _ (by decide) (by decide)|rfl):PE X (.Compare a [op] [b] pos) t:=fun pins s σ H Q I hw=>wpAny_Compare1 (h pins s σ H Q I hw) h1
theorem qA {op:CmpOp}{t:TE}(h:PC X op a b t) (h1:behindInMarks op b=false:=by first|exact y9 _ (by decide) (by decide)|rfl):PT X (.Compare a [op] [b] pos) (tB t):=by
 intro pins s σ H Q I hw;refine Zf (bP (h pins s σ H _ I hw) fun v s1 h1=>bP h1 fun u s2 h2=>bP h2 fun c s3 ⟨x,H1,I1,r1,q1⟩=>?_) h1;obtain⟨d,rfl,q⟩:=q1;cases r1;exact WA ⟨H1,I1,q⟩
variable {tA tB':TT}{rest:Zx}
def Uw (t u:TT):TT:=fun σ H Q=>t σ H fun c H1=>if c=true then u σ H1 Q else Q false H1
def Vp (t u:TT):TT:=fun σ H Q=>t σ H fun c H1=>if c=true then Q true H1 else u σ H1 Q
def Up (t:TT):TT:=fun σ H Q=>t σ H fun c H1=>Q (!c) H1
theorem KE (ha:PT X a tA):PW X (.BoolOp .And [a] pos) tA:=by
 intro wh pins s σ H Q I h;refine isTrue_and (bP (ha pins s σ H Q I h) fun c s1 e=>?_);cases c with
 |true=>exact isTrue_and_nil e
 |false=>exact e
theorem OT (ha:PT X a tA):PW X (.BoolOp .Or [a] pos) tA:=by
 intro wh pins s σ H Q I h;refine isTrue_or (bP (ha pins s σ H Q I h) fun c s1 e=>?_);cases c with
 |false=>exact isTrue_or_nil e
 |true=>exact e
theorem OU (ha:PT X a tA) (hb:PW X (.BoolOp .And (b::rest) pos) tB'):PW X (.BoolOp .And (a::b::rest) pos) (Uw tA tB'):=by
 intro wh pins s σ H Q I h;refine isTrue_and (bP (ha pins s σ H _ I h) fun c s1 ⟨H1,I1,q1⟩=>?_);cases c with
 |true=>exact hb wh pins s1 σ H1 Q I1 q1
 |false=>exact⟨H1,I1,q1⟩
theorem S0 (ha:PT X a tA) (hb:PW X (.BoolOp .Or (b::rest) pos) tB'):PW X (.BoolOp .Or (a::b::rest) pos) (Vp tA tB'):=by
 intro wh pins s σ H Q I h;refine isTrue_or (bP (ha pins s σ H _ I h) fun c s1 ⟨H1,I1,q1⟩=>?_);cases c with
 |true=>exact⟨H1,I1,q1⟩
 |false=>exact hb wh pins s1 σ H1 Q I1 q1
theorem OV (ha:PT X a tA):PT X (.UnaryOp .Not a pos) (Up tA):=by
 intro pins s σ H Q I h;exact isTrue_not (ha pins s σ H (fun c H1=>Q (!c) H1) I h)
def RG (ta tb:TE):TE:=fun σ H Q=>ta σ H fun x H1=>∃c,x=.bl c/\if c=true then tb σ H1 Q else Q (.bl false) H1
def Uo (ta tb:TE):TE:=fun σ H Q=>ta σ H fun x H1=>∃c,x=.bl c/\if c=true then Q (.bl true) H1 else tb σ H1 Q
def Ru (ta:TE):TE:=fun σ H Q=>ta σ H fun x H1=>∃c,x=.bl c/\Q (.bl (!c)) H1
theorem P7 {op} {t:TE}(h:PE X a t):PE X (.BoolOp op [a] pos) t:=fun pins s σ H Q I hw=>BoolOp_one (h pins s σ H Q I hw)
theorem Pb (ha:PE X a ta) (hb:PE X (.BoolOp .And (b::rest) pos) tb):PE X (.BoolOp .And (a::b::rest) pos) (RG ta tb):=by
 intro pins s σ H Q I h;refine BoolOp_and (bP (ha pins s σ H _ I h) fun v s1 ⟨x,H1,I1,r1,q1⟩=>?_);obtain⟨c,rfl,q1⟩:=q1;cases r1;refine WA ?_;cases c with
 |true=>exact hb pins s1 σ H1 Q I1 q1
 |false=>exact⟨.bl false,H1,I1,rfl,q1⟩
theorem S9 (ha:PE X a ta) (hb:PE X (.BoolOp .Or (b::rest) pos) tb):PE X (.BoolOp .Or (a::b::rest) pos) (Uo ta tb):=by
 intro pins s σ H Q I h;refine BoolOp_or (bP (ha pins s σ H _ I h) fun v s1 ⟨x,H1,I1,r1,q1⟩=>?_);obtain⟨c,rfl,q1⟩:=q1;cases r1;refine WA ?_;cases c with
 |false=>exact hb pins s1 σ H1 Q I1 q1
 |true=>exact⟨.bl true,H1,I1,rfl,q1⟩
theorem P8 (ha:PE X a ta):PE X (.UnaryOp .Not a pos) (Ru ta):=by
 intro pins s σ H Q I h;refine UnaryOp_ (bP (ha pins s σ H _ I h) fun v s1 ⟨x,H1,I1,r1,q1⟩=>?_);obtain⟨c,rfl,q1⟩:=q1;cases r1;exact not_of (WA ⟨.bl (!c),H1,I1,rfl,q1⟩)
def Vq (t:TT) (ta tb:TE):TE:=fun σ H Q=>t σ H fun c H1=>if c=true then ta σ H1 Q else tb σ H1 Q
theorem Hg {c:Expr}(hc:PT X c tA) (ha:PE X a ta) (hb:PE X b tb):PE X (.IfExp c a b pos) (Vq tA ta tb):=by
 intro pins s σ H Q I h;refine wpAny_IfExp (bP (hc pins s σ H _ I h) fun d s1 ⟨H1,I1,q1⟩=>?_);cases d with
 |true=>exact ha pins s1 σ H1 Q I1 q1
 |false=>exact hb pins s1 σ H1 Q I1 q1
end
def gR (K:Zl) (H:Hp) (a:Addr) (xs:List V):Prop :=
 Rd H a (.lst xs) \/
  ∃(o:Obj) (its:ZB) (n:Nat),K.lookup a=some o/\o.cls=.type "list"/\o.dict=none/\o.data=.seq its n/\its.size<=sizeLine/\aW xs its.toList
def SqT (K:Zl) (H:Hp) (a:Addr) (xs:List V):Prop :=
 Rd H a (.tup xs) \/
  ∃(o:Obj) (its:ZB) (n:Nat),K.lookup a=some o/\o.cls=.type "tuple"/\o.data=.seq its n/\its.size<=sizeLine/\aW xs its.toList
def UU:Value->Option V
 |.none=>some .non
 |.bool b=>some (.bl b)
 |.int i _=>some (.int i)
 |.str x _=>some (.str x)
 |.bytes b _=>some (.byt b)
 |.float b _=>some (.flt b)
 |.ref a=>some (.ref a)
 |.type n=>some (.ty n)
 |_=>none
theorem aV.abs {x:V}{u:Value}(r:aV x u):UU u=some x:=by
 cases x with
 |non=>cases r;rfl
 |bl _=>cases r;rfl
 |int _=>obtain⟨t,rfl⟩:=r;rfl
 |str _=>obtain⟨t,rfl⟩:=r;rfl
 |byt _=>obtain⟨t,rfl⟩:=r;rfl
 |flt _=>obtain⟨t,rfl⟩:=r;rfl
 |ref _=>cases r;rfl
 |ty _=>cases r;rfl
theorem aV.inj {x y:V}{u:Value}(r:aV x u) (q:aV y u):x=y:=Option.some.inj (r.abs.symm.trans q.abs)
theorem aW.inj:∀{xs ys:List V}{us:Zt},aW xs us->aW ys us->xs=ys
 |_,_,_,.nil,.nil=>rfl
 |_,_,_,.cons r t,.cons r' t'=>by rw[r.inj r',aW.inj t t']
section
variable {X:Cx}{pins:Zo}{σ:St}{H:Hp}{s:Shared}{a:Addr}{xs ys:List V}
theorem gR.of {K:Zl}(h:H a=some (.lst xs)):gR K H a xs:=.inl (.inl h)
theorem SqT.of {K:Zl}(h:H a=some (.tup xs)):SqT K H a xs:=.inl (.inl h)
theorem Inv.list (I:Inv X pins σ H s) (h:gR X.K H a xs):∃its:Zt,aW xs its/\PlainL s.heap a its.toArray/\xs.length<=sizeLine:=by
 rcases h with h|⟨o,its,n,hk,hc,hd,hs,hz,r⟩
 ·obtain⟨z,its,n,r,e⟩:=h.ok I.hok;exact⟨its,r,⟨_,n,e,rfl,rfl,rfl⟩,z⟩
 ·refine⟨its.toList,r,⟨o,n,I.kIn a o hk,hc,hd,by simpa using hs⟩,?_⟩;have e:=r.length;simp only[Yv] at e;omega
theorem Inv.tuple (I:Inv X pins σ H s) (h:SqT X.K H a xs):∃its:Zt,aW xs its/\IsTup s.heap a its.toArray/\xs.length<=sizeLine:=by
 rcases h with h|⟨o,its,n,hk,hc,hs,hz,r⟩
 ·obtain⟨z,its,r,p⟩:=h.ok I.hok;exact⟨its,r,p,z⟩
 ·refine⟨its.toList,r,⟨o,I.kIn a o hk,hc,n,by simpa using hs⟩,?_⟩;have e:=r.length;simp only[Yv] at e;omega
theorem Inv.list_inj (I:Inv X pins σ H s) (h:gR X.K H a xs) (h':gR X.K H a ys):xs=ys:=by
 obtain⟨its,r,⟨o,n,e,_,_,d⟩,_⟩:=I.list h;obtain⟨its',r',⟨o',n',e',_,_,d'⟩,_⟩:=I.list h';rw[e] at e';cases e';rw[d] at d';injection d' with d1 _
 have:its=its':=by simpa using congrArg Array.toList d1
 subst this;exact r.inj r'
theorem Inv.tuple_inj (I:Inv X pins σ H s) (h:SqT X.K H a xs) (h':SqT X.K H a ys):xs=ys:=by
 obtain⟨its,r,⟨o,e,_,n,d⟩,_⟩:=I.tuple h;obtain⟨its',r',⟨o',e',_,n',d'⟩,_⟩:=I.tuple h';rw[e] at e';cases e';rw[d] at d';injection d' with d1 _
 have:its=its':=by simpa using congrArg Array.toList d1
 subst this;exact r.inj r'
end
abbrev Cx.wish (X:Cx) (E:Zm):Cx:={ X with xe:=E}
abbrev Cx.nox (X:Cx):Cx:=X.wish fun _ _=>False
theorem Cx.Ok.wish {X:Cx}(ok:X.Ok) (E:Zm):(X.wish E).Ok :=
 ⟨ok.mod,ok.kind,ok.glob,ok.blt,ok.above,ok.inj,ok.has,ok.cab,ok.hd,ok.frames,ok.stk,ok.exf,ok.bs,ok.bsz,ok.noex,ok.exfs,ok.funs,ok.frf⟩
theorem Cx.Ok.unwish {X:Cx}{E:Zm}(ok:(X.wish E).Ok):X.Ok :=
 ⟨ok.mod,ok.kind,ok.glob,ok.blt,ok.above,ok.inj,ok.has,ok.cab,ok.hd,ok.frames,ok.stk,ok.exf,ok.bs,ok.bsz,ok.noex,ok.exfs,ok.funs,ok.frf⟩
section
variable {X:Cx}{pins:Zo}{σ:St}{H:Hp}{s:Shared}{E:Zm}
theorem Inv.wish (I:Inv X pins σ H s) (E:Zm):Inv (X.wish E) pins σ H s:=⟨I.ok.wish E,I.os,I.bare,I.base,I.loc,I.cell,I.free,I.freeC,I.pin,I.hok,I.len,I.fx⟩
theorem Inv.unwish (I:Inv (X.wish E) pins σ H s):Inv X pins σ H s:=⟨I.ok.unwish,I.os,I.bare,I.base,I.loc,I.cell,I.free,I.freeC,I.pin,I.hok,I.len,I.fx⟩
theorem SP.unwish {D:Bq}{f:Flow}{s':Shared}(h:SP (X.wish E) pins D f s'):SP X pins D f s':=by
 cases f with
 |next=>obtain⟨σ',H',I,q⟩:=h;exact⟨σ',H',I.unwish,q⟩
 |brk=>obtain⟨σ',H',I,q⟩:=h;exact⟨σ',H',I.unwish,q⟩
 |cont=>obtain⟨σ',H',I,q⟩:=h;exact⟨σ',H',I.unwish,q⟩
 |ret u=>obtain⟨v,σ',H',I,r,q⟩:=h;exact⟨v,σ',H',I.unwish,r,q⟩
theorem Dr.nox {st:Zz}{t:TS}(h:Dr X.nox st t):Dr X st t:=fun pins s σ H D I hw =>
 Wj (h pins s σ H D (I.wish _) hw) (fun _ _ q=>q.unwish) fun _ _ z=>False.elim z
end
section
variable {X:Cx}{st:Stmt}{rest:Zz}{t u:TS}{e:Expr}{te:TE}{pos:Pos}
def Rv:TS:=fun D σ H=>D.nx σ H
def Uk (t u:TS):TS:=fun D σ H=>t { D with nx:=u D} σ H
theorem KG:Dr X [] Rv:=fun _ _ σ H _ I h=>Xl ⟨σ,H,I,h⟩
theorem xL (h1:PS X st t) (h2:Dr X rest u):Dr X (st::rest) (Uk t u):=by
 intro pins s σ H D I h;refine YN (bP (h1 pins s σ H { D with nx:=u D} I h) fun f s1 q=>?_);cases f with
 |next =>
  obtain⟨σ',H',I',q⟩:=q;exact h2 pins s1 σ' H' D I' q
 |ret v=>exact q
 |brk=>exact q
 |cont=>exact q
theorem BR (h1:PS X st t):Dr X [st] t:=by
 intro pins s σ H D I h;refine YN (bP (h1 pins s σ H D I h) fun f s1 q=>?_);cases f with
 |next=>exact Xl q
 |ret v=>exact q
 |brk=>exact q
 |cont=>exact q
def RC:TS:=fun D σ H=>D.ct σ H
theorem xM:PS X (.Continue pos) RC:=fun _ _ σ H _ I h=>wpAny_Continue ⟨σ,H,I,h⟩
theorem Inv.quiet {pins:Zo}{σ:St}{H:Hp}{s:Shared}(I:Inv X pins σ H s):interactive X.env=false:=by simp[interactive,I.ok.kind]
def Ry (te:TE):TS:=fun D σ H=>te σ H fun _ H1=>D.nx σ H1
theorem BS (he:PE X e te) (hs:swapsWith e none pos.line X.env=pure false:=by rfl):PS X (.Expr e pos) (Ry te):=by
 intro pins s σ H D I h;exact wpAny_Expr_any (bP (he pins s σ H _ I h) fun v s1 ⟨x,H1,I1,r1,q1⟩=>⟨σ,H1,I1,q1⟩) I.quiet hs
def Um (te:TE):TS:=fun D σ H=>te σ H D.rt
theorem OX (he:PE X e te):PS X (.Return (some e) pos) (Um te):=by
 intro pins s σ H D I h;exact wpAny_Return_some (bP (he pins s σ H _ I h) fun v s1 ⟨x,H1,I1,r1,q1⟩=>⟨x,σ,H1,I1,r1,q1⟩)
def Ur (c:TT) (t u:TS):TS:=fun D σ H=>c σ H fun b H1=>if b=true then t D σ H1 else u D σ H1
theorem S5 {c:Expr}{a b:Zz}{tc:TT}(hc:PT X c tc) (ha:Dr X a t) (hb:Dr X b u):PS X (.If c a b pos) (Ur tc t u):=by
 intro pins s σ H D I h;refine wpAny_If (bP (hc pins s σ H _ I h) fun d s1 ⟨H1,I1,q1⟩=>?_);cases d with
 |true=>exact ha pins s1 σ H1 D I1 q1
 |false=>exact hb pins s1 σ H1 D I1 q1
end
abbrev TG:=V->St->Hp->(St->Hp->Prop)->Prop
abbrev NV:=List V->St->Hp->(St->Hp->Prop)->Prop
def PG (X:Cx) (target:Expr) (t:TG):Prop :=
 ∀(pins:Zo) (s:Shared) (σ:St) (H:Hp) (v:V) (u:Value) (Q:St->Hp->Prop),Inv X pins σ H s->aV v u->t v σ H Q ->
  wpAny (model X.prog X.w) X.A (assign target X.env u) (fun _ s'=>∃σ' H',Inv X pins σ' H' s'/\Q σ' H') X.xe s
def TB (X:Cx) (ts:Zx) (t:NV):Prop :=
 ∀(pins:Zo) (s:Shared) (σ:St) (H:Hp) (vs:List V) (us:Zt) (Q:St->Hp->Prop),Inv X pins σ H s->aW vs us->t vs σ H Q ->
  wpAny (model X.prog X.w) X.A (assignInOrder ((assignEach ts X.env).map (·.2)) us) (fun _ s'=>∃σ' H',Inv X pins σ' H' s'/\Q σ' H') X.xe s
abbrev QT:=V->V->V->Hp->(Hp->Prop)->Prop
def Tv (X:Cx) (t:QT):Prop :=
 ∀(pins:Zo) (s:Shared) (σ:St) (H:Hp) (o i v:V) (ov iv u:Value) (Q:Hp->Prop),Inv X pins σ H s->aV o ov->aV i iv->aV v u->t o i v H Q ->
  wpAny (model X.prog X.w) X.A (setItem ov iv u) (fun _ s'=>∃H',Inv X pins σ H' s'/\Q H') X.xe s
section
variable {X:Cx}{pos:Pos}
def NI (i:Nat):TG:=fun v σ H Q=>Q (σ.set i (some v)) H
theorem KP {i:Nat}{x:Str}(hN:X.nd) (hi:X.N[i]? =some x) (hx:zD X.env.scope x) (hf:X.fn x=true\/X.env.scope.names.lookup x=some .local:=by first|exact .inl rfl|exact .inr rfl|assumption):PG X (.Name x pos) (NI i):=by
 intro pins s σ H v u Q I r h;exact wpAny_assign_Name (lS I hN hi hx r (fun s' I'=>⟨_,H,I',h⟩) hf)
def T7:NV:=fun vs σ H Q=>vs=[]/\Q σ H
def T8 (t:TG) (u:NV):NV:=fun vs σ H Q=>∃v r,vs=v::r/\t v σ H fun σ' H'=>u r σ' H' Q
theorem KO:TB X [] T7:=by
 intro pins s σ H vs us Q I r h;obtain⟨e,h⟩:=h;subst e;cases r;exact assignInOrder_nil ⟨σ,H,I,h⟩
theorem H9 {e:Expr}{es:Zx}{t:TG}{u:NV}(h1:PG X e t) (h2:TB X es u)
  (hs:(assignEach (e::es) X.env).map (·.2)=assign e X.env::(assignEach es X.env).map (·.2):=by rfl):TB X (e::es) (T8 t u):=by
 intro pins s σ H vs us Q I r h;obtain⟨v,vr,e1,h⟩:=h;subst e1;cases r with
 |cons r rr =>
  rw[hs];refine assignInOrder_cons (bP (h1 pins s σ H _ _ _ I r h) fun _ s1 ⟨σ1,H1,I1,q1⟩=>?_);exact h2 pins s1 σ1 H1 _ _ Q I1 rr q1
def UM (K:Zl) (n:Nat) (t:NV):TG:=fun v σ H Q=>∃a xs,v=.ref a/\SqT K H a xs/\xs.length=n/\t xs σ H Q
theorem P4 {es:Zx}{k:Nat}{t:NV}{n:Nat}(hc:X.calm=true) (h:TB X es t)
  (hn:(assignEach es X.env).length=n:=by rfl) (hst:(assignEach es X.env).findIdx? (·.1)=none:=by rfl):PG X (.Tuple es k pos) (UM X.K n t):=by
 intro pins s σ H v u Q I r hw;obtain⟨a,xs,e1,hq,hl,hw⟩:=hw;subst e1;cases r;obtain⟨its,rv,ht,hz⟩:=I.tuple hq;refine assign_Tuple_tuple (I.ok.hd hc) ht (by simp[hn,←hl,rv.length]) hst fun h' hx=>?_
 have I1:Inv X pins σ H { s with heap:=h'}:=I.kept (t':=s.toks) fun b o e=>hx b o (W3 (VM e)) e
 exact h pins _ σ H xs _ Q I1 (by simpa using rv) hw
def dn (to ti:TE) (t:QT):TG:=fun v σ H Q=>to σ H fun o H1=>ti σ H1 fun i H2=>t o i v H2 fun H3=>Q σ H3
theorem P5 {o i:Expr}{to ti:TE}{t:QT}(ho:PE X o to) (hi:PE X i ti) (hs:Tv X t)
  (ha:∀v,assign (.Subscript o i pos) X.env v=(do
   let ov ←holding [v] (eval o X.env)
   let iv ←holding [v,ov] (eval i X.env)
   standAt pos
   holding [v,ov,iv] (setItem ov iv v)
   release [v,ov,iv] []):=by intro _;rfl):PG X (.Subscript o i pos) (dn to ti t):=by
 intro pins s σ H v u Q I r h;rw[ha];refine VG (WD (bP (ho pins s σ H _ I h) fun ov s1 ⟨x,H1,I1,r1,q1⟩=>?_));refine VG (WD (bP (hi pins s1 σ H1 _ I1 q1) fun iv s2 ⟨y,H2,I2,r2,q2⟩=>?_));refine VG (Yl (VG (WD (bP (hs pins s2 σ H2 x y v ov iv u _ I2 r1 r2 r q2) fun _ s3 ⟨H3,I3,q3⟩=>?_))));exact wpAny_release ⟨σ,H3,I3,q3⟩
def RF (te:TE) (g:TG):TS:=fun D σ H=>te σ H fun x H1=>g x σ H1 D.nx
theorem P0 {tg e:Expr}{te:TE}{g:TG}(he:PE X e te) (hg:PG X tg g) (hs:swapsWithSole [tg] e pos.line X.env=pure false:=by rfl) (hw:swappedStores [tg] e X.env=pure none:=by rfl)
  (h1:(assignEach [tg] X.env).map (·.2)=[assign tg X.env]:=by rfl):PS X (.Assign [tg] e pos) (RF te g):=by
 intro pins s σ H D I h;refine wpAny_Assign_stores (bP (he pins s σ H _ I h) fun v s1 ⟨x,H1,I1,r1,q1⟩=>?_) hs hw;rw[h1];exact bP (hg pins s1 σ H1 x v _ I1 r1 q1) fun _ s2 q=>q
theorem OW {i:Nat}{x:Str}{e:Expr}{te:TE}{pos':Pos}(hN:X.nd) (hi:X.N[i]? =some x) (hx:zD X.env.scope x) (he:PE X e te) (hs:swapsWith e (some (.Name x pos')) pos.line X.env=pure false:=by rfl) (hf:X.fn x=true\/X.env.scope.names.lookup x=some .local:=by first|exact .inl rfl|exact .inr rfl|assumption) :
  PS X (.Assign [.Name x pos'] e pos) (RF te (NI i)):=by
 intro pins s σ H D I h;refine wpAny_Assign_Name (bP (he pins s σ H _ I h) fun v s1 ⟨y,H1,I1,r1,q1⟩=>?_) hs;exact lS I1 hN hi hx r1 (fun s2 I2=>⟨_,H1,I2,q1⟩) hf
end
section
variable {X:Cx}{pos:Pos}
def Oq (c:TT) (tb:TS):TS:=fun D σ H=>∃W:Nat->St->Hp->Prop,(∃m,W m σ H)/\∀m σ H,W m σ H ->
 c σ H fun b H1=>if b=true then ∃N:St->Hp->Prop,(∀σ' H',N σ' H'->∃m',m'<m/\W m' σ' H')/\tb { D with nx:=N,ct:=N,bk:=D.nx} σ H1 else D.nx σ H1
theorem GY {c:Expr}{body:Zz}{tc:TT}{tb:TS}(hp:PassesOwn (model X.prog X.w) X.A X.env X.xe) (hc:PT X c tc) (hb:Dr X body tb):PS X (.While c body [] pos) (Oq tc tb):=by
 intro pins s σ H D I h;obtain⟨W,⟨m0,w0⟩,turn⟩:=h;refine wpAny_While (codeAny_whileLoop (fun n s'=>∃σ' H',Inv X pins σ' H' s'/\W n σ' H') ?_ m0 ⟨σ,H,I,w0⟩)
 rintro n s1 ⟨σ1,H1,I1,w1⟩
 refine X4 hp (bP (hc pins s1 σ1 H1 _ I1 (turn n σ1 H1 w1)) fun b s2 ⟨H2,I2,q2⟩=>?_);cases b with
 |true =>
  obtain⟨N,hN,q2⟩:=q2;rw[VJ rfl];refine X4 hp (bP (hb pins s2 σ1 H2 _ I2 q2) fun f s3 q3=>?_);cases f with
  |next =>
   obtain⟨σ3,H3,I3,n3⟩:=q3;obtain⟨m',hm,w3⟩:=hN σ3 H3 n3;exact⟨m',hm,σ3,H3,I3,w3⟩
  |cont =>
   obtain⟨σ3,H3,I3,n3⟩:=q3;obtain⟨m',hm,w3⟩:=hN σ3 H3 n3;exact⟨m',hm,σ3,H3,I3,w3⟩
  |brk=>exact q3
  |ret v=>exact q3
 |false =>
  rw[VN XW];exact Xl ⟨σ1,H2,I2,q2⟩
end
structure It where
 go:Nat->Hp->Prop
 yld:Nat->Hp->V->Hp->Prop
 stop:Nat->Hp->Prop
def je (X:Cx) (pins:Zo) (H:Hp) (b:Addr):Prop :=
 H b=none/\b≠X.env.locals/\b∉X.fs/\(b∈X.ex\/X.s₀.heap.objs.size<=b)/\(∀x c,X.env.cells.lookup x=some c->c≠b)/\∀p∈X.pn++pins,p.1≠b
theorem Inv.fpOk {X:Cx}{pins:Zo}{σ:St}{H H':Hp}{s:Shared}{b:Addr}(I:Inv X pins σ H s) (hb:s.heap.objs.size<=b) (hn:H' b=none):je X pins H' b:=by
 refine⟨hn,WP (W4 I.lt hb),I.nofs hb,.inr (Wh I.sz hb),fun x c e z=>?_,fun p hp z=>?_⟩
 ·obtain⟨v,q⟩:=I.cell x c e;exact absurd (W4 q.lt (by rw[z];exact hb)) (Xm _)
 ·exact absurd (W4 (VM (I.pin p hp).1) (by rw[z];exact hb)) (Xm _)
structure wR (P:Program) (w:World) (K:Zl) (tg:Expr) (J:It) (fp:Zr) (it:Addr) (tn:Nat->Heap->Prop):Prop where
 mem:it∈fp
 obj:∀i h,tn i h->∀b∈fp,∃o,h.get? b=some o/\∀v,o.data≠.cell v
 keep:∀i h h',tn i h->(∀b∈fp,∀o,h.get? b=some o->h'.get? b=some o)->tn i h'
 item:∀(X:Cx),X.prog=P->X.w=w->X.K=K->X.calm=true->∀(i:Nat) (pins:Zo) (s:Shared) (σ:St) (H:Hp) (E:Zm),Inv X pins σ H s->(∀b∈fp,je X pins H b)->tn i s.heap->J.go i H ->
  wpAny (model P w) X.A (pyNext (.ref it)) (fun r s1=>∃u,r=some u /\
   wpAny (model P w) X.A (letOwnedTupleGo tg (.ref it) u) (fun _ s2=>∃x H',Inv X pins σ H' s2/\aV x u/\J.yld i H x H'/\tn (i+1) s2.heap/\∀b∈fp,H' b=none) E s1) E s
 done:∀(X:Cx),X.prog=P->X.w=w->X.K=K->X.calm=true->∀(i:Nat) (pins:Zo) (s:Shared) (σ:St) (H:Hp) (E:Zm),Inv X pins σ H s->(∀b∈fp,je X pins H b)->tn i s.heap->J.stop i H ->
  wpAny (model P w) X.A (pyNext (.ref it)) (fun r s1=>r=none/\Inv X pins σ H s1) E s
 self:∀(A:Around) (i:Nat) (s:Shared) (Q:Zm) (E:Zm),tn i s.heap->Q (.ref it) s->wpAny (model P w) A (pyIter (.ref it)) Q E s
abbrev TI:=St->Hp->(It->Hp->Prop)->Prop
def Tz (X:Cx) (pins:Zo) (σ:St) (tg:Expr) (R:It->Hp->Prop) (itv:Value) (s2:Shared):Prop :=
 ∃(it:Addr) (fp:Zr) (tn:Nat->Heap->Prop) (J:It) (H':Hp),itv=.ref it/\Inv X pins σ H' s2/\wR X.prog X.w X.K tg J fp it tn/\tn 0 s2.heap/\(∀b∈fp,je X pins H' b)/\R J H'
def PI (X:Cx) (tg iter:Expr) (wi:TI):Prop :=
 ∀(pins:Zo) (s:Shared) (σ:St) (H:Hp) (R:It->Hp->Prop),Inv X pins σ H s->wi σ H R ->
  wpAny (model X.prog X.w) X.A (eval iter X.env) (fun v s1=>wpAny (model X.prog X.w) X.A (pyIter v) (Tz X pins σ tg R) X.xe s1) X.xe s
theorem J3 {M:Model}{A:Around}{E:Zm}{s:Shared}{tg:Expr}{it:Addr}{u:Value}{o:Obj}{n:String}{vs:ZB}{Q:ZA}(ho:s.heap.get? it=some o) (hc:o.cls=.type n) (hd:o.data=.fields vs)
    (hn:["enumerate","zip","dict_itemiterator","dict_reverseitemiterator","odict_iterator","itertools.zip_longest","itertools.pairwise"].contains n=false) (hQ:Q () s):wpAny M A (letOwnedTupleGo tg (.ref it) u) Q E s:=by
  unfold letOwnedTupleGo;cases tg<;>first
    |exact VO hQ
    | (cases u<;>first
        |exact VO hQ
        | (refine VG (wpAny_load ho ?_)
           rw[hc,hd];show wpAny M A (if(["enumerate","zip","dict_itemiterator","dict_reverseitemiterator","odict_iterator","itertools.zip_longest","itertools.pairwise"].contains n&&vs[0]? == some (rawInt _))=true then _ else _) Q E s;rw[VN (by intro h;rw[hn,Bool.false_and] at h;cases h)];exact VO hQ))
def V0 (K:Zl) (a:Addr):It :=
 ⟨fun i H=>∃xs x,gR K H a xs/\xs[i]? =some x,fun i H x H'=>H'=H/\∀xs,gR K H a xs->xs[i]? =some x,fun i H=>∃xs,gR K H a xs/\xs.length<=i⟩
def Rf (lo:Int) (n:Nat):It:=⟨fun i _=>i<n,fun i H x H'=>H'=H/\x=.int (lo+i),fun i _=>n<=i⟩
theorem DH {P:Program}{w:World}{K:Zl}{tg:Expr}(a it:Addr):wR P w K tg (V0 K a) [it] it (fun i h=>h.IsListIter it a i) where
 mem:=by simp
 obj:=fun i h st b hb=>by
  have e:b=it:=by simpa using hb
  subst e;obtain⟨o,e,c,d⟩:=st;exact⟨o,e,fun v z=>by rw[d] at z;cases z⟩
 keep:=fun i h h' st k=>st.at fun o e=>k it (by simp) o e
 item:=by
  intro X hP hw hK hc i pins s σ H E I hf st hg;subst hP hw hK;obtain⟨xs,x,hq,hx⟩:=hg;obtain⟨its,rv,p,hz⟩:=I.list hq;obtain⟨u,hu,ru⟩:=rv.get hx;obtain⟨f0,f1,f2,f3,f4,f5⟩:=hf it (by simp);refine YZ st p.isList (x:=u) (by simpa using hu) fun h' st' sb=>?_
  have I1:Inv X pins σ H { s with heap:=h'}:=I.turned (t':=s.toks) (fun b o hb e=>(sb.2 b hb).trans e) f0 f1 f3 f4 f5;obtain⟨o,e,c,d⟩:=id st';exact⟨u,rfl,J3 (s:={ s with heap:=h'}) e c d (by decide) ⟨x,H,I1,ru,⟨rfl,fun ys hy=>by rw[I.list_inj hy hq];exact hx⟩,st',fun b hb=>(hf b hb).1⟩⟩
 done:=by
  intro X hP hw hK hc i pins s σ H E I hf st hg;subst hP hw hK;obtain⟨xs,hq,hx⟩:=hg;obtain⟨its,rv,p,hz⟩:=I.list hq;obtain⟨f0,f1,f2,f3,f4,f5⟩:=hf it (by simp);have hl:=rv.length;exact Zg (I.ok.hd hc) st p.isList (by simp;omega) fun h' eb=>⟨rfl,I.turned (t':=s.toks) (fun b o hb e=>eb b o hb e) f0 f1 f3 f4 f5⟩
 self:=fun _ _ _ _ _ st h=>wpAny_pyIter_listiter st h
theorem A4 {P:Program}{w:World}{K:Zl}{tg:Expr}(it:Addr) (lo:Int) (n:Nat):wR P w K tg (Rf lo n) [it] it (fun i h=>IsRangeIter h it (lo+(i:Nat)*1) ((n:Int)-(i:Nat)) 1) where
 mem:=by simp
 obj:=fun i h st b hb=>by
  have e:b=it:=by simpa using hb
  subst e;exact⟨_,st,fun v z=>by
   have z':Data.fields _=Data.cell v:=z;cases z'⟩
 keep:=fun i h h' st k=>k it (by simp) _ st
 item:=by
  intro X hP hw hK hc i pins s σ H E I hf st hg;subst hP hw hK;obtain⟨f0,f1,f2,f3,f4,f5⟩:=hf it (by simp);have W:=Walks.range (prog:=X.prog) (w:=X.w) (I.ok.hd hc) it lo 1 n;refine W.item i s _ _ hg st fun v h' tk hv st' kk=>?_
  obtain⟨t,rfl⟩:=hv;have I1:Inv X pins σ H { s with heap:=h',toks:=tk}:=I.turned (fun b o hb e=>kk b o (by simpa using hb) e) f0 f1 f3 f4 f5;refine⟨_,rfl,J3 (s:={ s with heap:=h',toks:=tk}) (n:="range_iterator") st' rfl rfl (by decide) ⟨.int (lo+i),H,I1,⟨t,?_⟩,⟨rfl,rfl⟩,st',fun b hb=>(hf b hb).1⟩⟩;rw[Int.mul_one]
 done:=by
  intro X hP hw hK hc i pins s σ H E I hf st hg;subst hP hw hK;obtain⟨f0,f1,f2,f3,f4,f5⟩:=hf it (by simp);exact Z0 (I.ok.hd hc) st (by have:n<=i:=hg;omega) fun h' eb=>⟨rfl,I.turned (t':=s.toks) (fun b o hb e=>eb b o hb e) f0 f1 f3 f4 f5⟩
 self:=fun _ _ _ _ _ st h=>Z1 st h
section
variable {X:Cx}{tg:Expr}
def T5 (K:Zl) (tl:TE):TI:=fun σ H R=>tl σ H fun x H1=>∃a,x=.ref a/\(∃xs,gR K H1 a xs)/\R (V0 K a) H1
theorem KN {l:Expr}{tl:TE}(hl:PE X l tl):PI X tg l (T5 X.K tl):=by
 intro pins s σ H R I h;refine bP (hl pins s σ H _ I h) fun v s1 ⟨x,H1,I1,r1,q1⟩=>?_
 obtain⟨a,e,⟨xs,hq⟩,q⟩:=q1;subst e;cases r1;obtain⟨its,rv,p,hz⟩:=I1.list hq;refine Xs p.isList ?_;refine⟨s1.heap.objs.size,[s1.heap.objs.size],_,_,H1,rfl,I1.kept (t':=s1.toks) fun b o e=>VH _ e,DH a _,⟨_,VZ _ rfl,rfl,rfl⟩,fun b hb=>?_,q⟩;have e:b=s1.heap.objs.size:=by simpa using hb
 subst e;exact I1.fpOk (VL _) (I1.hok.fresh (VL _))
theorem xH {pins:Zo}{σ:St}{H:Hp}{s:Shared}{R:It->Hp->Prop}{E:Zm}{lo hi:Int}{t u v:Tok}{tk:Nat}(I:Inv X pins σ H s) (h1:-(2 ^ 62)<=lo) (h2:lo<2 ^ 62) (h3:-(2 ^ 62)<=hi) (h4:hi<2 ^ 62)
  (q:R (Rf lo (hi-lo).toNat) H):wpAny (model X.prog X.w) X.A (pyIter (.ref s.heap.objs.size)) (Tz X pins σ tg R) E { s with heap:=s.heap.push { cls:=.type "range",data:=.fields #[.int lo t,.int hi u,.int 1 v]},toks:=tk}:=by
 refine wpAny_pyIter_range (IsRange.new ..) (small_one h1 h2 h3 h4) ?_;have I1:Inv X pins σ H { s with heap:=s.heap.push { cls:=.type "range",data:=.fields #[.int lo t,.int hi u,.int 1 v]},toks:=tk}:=I.kept fun b o e=>VH _ e
 refine⟨(s.heap.push { cls:=.type "range",data:=.fields #[.int lo t,.int hi u,.int 1 v]}).objs.size,[(s.heap.push { cls:=.type "range",data:=.fields #[.int lo t,.int hi u,.int 1 v]}).objs.size],_,_,H,rfl,
  I1.kept (t':=tk) fun b o e=>VH _ e,A4 _ lo (hi-lo).toNat,?_,fun b hb=>?_,q⟩
 ·have e1:lo+((0:Nat):Int)*1=lo:=by simp
  have e2:(((hi-lo).toNat:Nat):Int)-((0:Nat):Int)=Builtin.Range.rangeSize lo hi 1:=by rw[rangeSize_one];split<;>omega
  show IsRangeIter _ _ (lo+((0:Nat):Int)*1) ((((hi-lo).toNat:Nat):Int)-((0:Nat):Int)) 1;rw[e1,e2];exact VZ _ rfl
 ·have e:b=(s.heap.push { cls:=.type "range",data:=.fields #[.int lo t,.int hi u,.int 1 v]}).objs.size:=by simpa using hb
  subst e;exact I1.fpOk (VL _) (I1.hok.fresh (VL _))
def T4 (ta:TA):TI:=fun σ H R=>ta σ H fun vs H1=>∃j:Int,vs=[.int j]/\ -(2 ^ 62)<=j/\j<2 ^ 62/\R (Rf 0 j.toNat) H1
def T2 (ta:TA):TI:=fun σ H R=>ta σ H fun vs H1=>∃i j:Int,vs=[.int i,.int j]/\(-(2 ^ 62)<=i/\i<2 ^ 62/\ -(2 ^ 62)<=j/\j<2 ^ 62)/\R (Rf i (j-i).toNat) H1
theorem E6 {a:Expr}{ta:TA}{p pos:Pos}(hg:Gl X "range") (hm:X.mg "range"=none) (ha:PA X [a] ta) (hs:starEach [a] X.env=[(false,eval a X.env)]:=by rfl):PI X tg (.Call (.Name "range" p) [a] [] pos) (T4 ta):=by
 intro pins s σ H R I h;refine Call_ (jU I hg hm boot_range (WE (bP (ha pos pins s σ H _ I h) fun us s1 ⟨vs,H1,I1,r1,q1⟩=>?_) hs rfl));obtain⟨j,e,q1,q2,q⟩:=q1;subst e;cases r1 with
 |cons r rr =>
  cases rr;obtain⟨t,rfl⟩:=r;exact call_range_1 (xH I1 (by omega) (by omega) q1 q2 (by simpa using q))
theorem E5 {a b:Expr}{ta:TA}{p pos:Pos}(hg:Gl X "range") (hm:X.mg "range"=none) (ha:PA X [a,b] ta) (hs:starEach [a,b] X.env=[(false,eval a X.env),(false,eval b X.env)]:=by rfl) (hs2:starEach [b] X.env=[(false,eval b X.env)]:=by rfl) :
  PI X tg (.Call (.Name "range" p) [a,b] [] pos) (T2 ta):=by
 intro pins s σ H R I h;refine Call_ (jU I hg hm boot_range (WE (bP (ha pos pins s σ H _ I h) fun us s1 ⟨vs,H1,I1,r1,q1⟩=>?_) (by rw[hs,hs2]) (by rw[hs2];rfl)));obtain⟨i,j,e,⟨q1,q2,q3,q4⟩,q⟩:=q1;subst e;cases r1 with
 |cons r rr =>
  cases rr with
  |cons r' rr =>
   cases rr;obtain⟨t,rfl⟩:=r;obtain⟨t',rfl⟩:=r';exact call_range_2 (xH I1 q1 q2 q3 q4 q)
def Us (wi:TI) (g:TG) (tb:TS):TS:=fun D σ H=>wi σ H fun J H1=>∃W:Nat->Nat->St->Hp->Prop,(∃m,W 0 m σ H1)/\∀i m σ H,W i m σ H ->
 (J.stop i H/\D.nx σ H)\/(J.go i H/\∃N:St->Hp->Prop,(∀σ' H',N σ' H'->∃m',m'<m/\W (i+1) m' σ' H')/\∀x H',J.yld i H x H'->g x σ H' fun σ2 H2=>tb { D with nx:=N,ct:=N,bk:=D.nx} σ2 H2)
def qD (fp:Zr) (h:Heap):Zo:=fp.filterMap fun b=>(h.get? b).map fun o=>(b,o)
theorem iZ {fp:Zr}{h:Heap}{b:Addr}{o:Obj}(hb:b∈fp) (e:h.get? b=some o):(b,o)∈qD fp h:=List.mem_filterMap.mpr ⟨b,hb,by rw[e];rfl⟩
theorem Ek {fp:Zr}{h:Heap}{p:Addr×Obj}(hp:p∈qD fp h):p.1∈fp/\h.get? p.1=some p.2:=by
 obtain⟨b,hb,e⟩:=List.mem_filterMap.mp hp;cases q:h.get? b with
 |none=>rw[q] at e;cases e
 |some o =>
  rw[q] at e;have e':(b,o)=p:=Option.some.inj e;subst e';exact⟨hb,q⟩
theorem Inv.pinned {pins:Zo}{σ:St}{H:Hp}{s:Shared}{fp:Zr}(I:Inv X pins σ H s) (hf:∀b∈fp,je X pins H b) (ho:∀b∈fp,∃o,s.heap.get? b=some o/\∀v,o.data≠.cell v):Inv X (pins++qD fp s.heap) σ H s :=
 I.pins_of fun p hp=>(List.mem_append.mp hp).elim (fun z=>I.pin p (W8 _ z)) fun z=>by
  obtain⟨hb,e⟩:=Ek z;obtain⟨f0,f1,f2,_⟩:=hf p.1 hb;obtain⟨o,e',d⟩:=ho p.1 hb;rw[e] at e';cases e';exact⟨e,f0,f1,f2,d⟩
theorem Inv.unpinned {pins pl:Zo}{σ:St}{H:Hp}{s:Shared}(I:Inv X (pins++pl) σ H s):Inv X pins σ H s:=I.pins_of fun p hp=>I.pin p (W8 _ (W5 _ hp))
theorem OY {iter:Expr}{body:Zz}{wi:TI}{g:TG}{tb:TS}{pos:Pos}(hp:PassesOwn (model X.prog X.w) X.A X.env X.xe) (hc:X.calm=true) (hi:PI X tg iter wi) (hg:PG X tg g) (hb:Dr X body tb)
  (hs:∀x,foldedSetIterable iter X.env x=pure x:=by intro _;rfl):PS X (.For tg iter body [] pos) (Us wi g tb):=by
 intro pins s σ H D I h;refine wpAny_For (bP (hi pins s σ H _ I h) fun v s1 h1=>bP h1 fun itv s2 h2=>?_) hs;obtain⟨it,fp,tn,J,H2,e,I2,T,st2,f2,W,⟨m0,w0⟩,turn⟩:=h2;subst e;have stat:∀{H':Hp},(∀b∈fp,H' b=none)->∀b∈fp,je X pins H' b:=fun hn b hb=>⟨hn b hb,(f2 b hb).2⟩
 refine codeAny_forLoop_any (fun n s'=>∃i σ' H',Inv X pins σ' H' s'/\tn i s'.heap/\(∀b∈fp,H' b=none)/\W i n σ' H') ?_ m0 ⟨0,σ,H2,I2,st2,fun b hb=>(f2 b hb).1,w0⟩
 rintro n s3 ⟨i,σ3,H3,I3,st3,fr3,w3⟩
 rcases turn i n σ3 H3 w3 with⟨stop,qn⟩|⟨go,N,hN,step⟩
 ·refine X4 hp (bP (T.done X rfl rfl rfl hc i pins s3 σ3 H3 X.xe I3 (stat fr3) st3 stop) fun r s4 ⟨hr,I4⟩=>?_);subst hr;exact Xl ⟨σ3,H3,I4,qn⟩
 ·refine X4 hp (bP (T.item X rfl rfl rfl hc i pins s3 σ3 H3 X.xe I3 (stat fr3) st3 go) fun r s4 ⟨u,hr,h4⟩=>?_);subst hr;refine X4 hp (bP h4 fun _ s5 ⟨x,H5,I5,r5,y5,st5,fr5⟩=>?_);have I5':=I5.pinned (stat fr5) (T.obj _ _ st5);refine X4 hp (bP (hg _ s5 σ3 H5 x u _ I5' r5 (step x H5 y5)) fun _ s6 ⟨σ6,H6,I6,q6⟩=>?_);refine X4 hp (bP (hb _ s6 σ6 H6 _ I6 q6) fun f s7 q7=>?_);have again:∀{σ7:St}{H7:Hp},Inv X (pins++qD fp s5.heap) σ7 H7 s7->N σ7 H7->∃m,m<n/\∃i σ' H',Inv X pins σ' H' s7/\tn i s7.heap/\(∀b∈fp,H' b=none)/\W i m σ' H':=fun{σ7 H7} I7 n7=>by
   obtain⟨m',hm,w7⟩:=hN σ7 H7 n7;refine⟨m',hm,i+1,σ7,H7,I7.unpinned,T.keep _ _ _ st5 fun b hb o e=>(I7.pin (b,o) (W8 _ (W8 _ (iZ hb e)))).1,fun b hb=>?_,w7⟩;obtain⟨o,e,d⟩:=T.obj _ _ st5 b hb;exact(I7.pin (b,o) (W8 _ (W8 _ (iZ hb e)))).2.1
  cases f with
  |next=>obtain⟨σ7,H7,I7,n7⟩:=q7;exact again I7 n7
  |cont=>obtain⟨σ7,H7,I7,n7⟩:=q7;exact again I7 n7
  |brk=>obtain⟨σ7,H7,I7,q7⟩:=q7;exact⟨σ7,H7,I7.unpinned,q7⟩
  |ret v=>obtain⟨x7,σ7,H7,I7,r7,q7⟩:=q7;exact⟨x7,σ7,H7,I7.unpinned,r7,q7⟩
end
abbrev R2:=V->V->Hp->VK->Prop
def jl (X:Cx) (f:Value->Value->Sem Value) (r:R2):Prop :=
 ∀(pins:Zo) (s:Shared) (σ:St) (H:Hp) (x y:V) (v u:Value) (Q:VK),Inv X pins σ H s->aV x v->aV y u->r x y H Q ->
  wpAny (model X.prog X.w) X.A (f v u) (EP X pins σ Q) X.xe s
def UW (X:Cx) (f:Value->Sem Value) (r:V->Hp->VK->Prop):Prop :=
 ∀(pins:Zo) (s:Shared) (σ:St) (H:Hp) (x:V) (v:Value) (Q:VK),Inv X pins σ H s->aV x v->r x H Q ->
  wpAny (model X.prog X.w) X.A (f v) (EP X pins σ Q) X.xe s
def gP (X:Cx) (f:Value) (r:List V->Hp->VK->Prop):Prop :=
 ∀(pins:Zo) (s:Shared) (σ:St) (H:Hp) (xs:List V) (us:Zt) (Q:VK),Inv X pins σ H s->aW xs us->r xs H Q ->
  wpAny (model X.prog X.w) X.A (call f us) (EP X pins σ Q) X.xe s
def UX (X:Cx) (r:V->Hp->(Bool->Hp->Prop)->Prop):Prop :=
 ∀(pins:Zo) (s:Shared) (σ:St) (H:Hp) (x:V) (v:Value) (Q:Bool->Hp->Prop),Inv X pins σ H s->aV x v->r x H Q ->
  wpAny (model X.prog X.w) X.A (truthy v) (TP X pins σ Q) X.xe s
def Rt (r:R2) (ta tb:TE):TE:=fun σ H Q=>ta σ H fun x H1=>tb σ H1 fun y H2=>r x y H2 Q
def Vn (r:V->Hp->VK->Prop) (ta:TE):TE:=fun σ H Q=>ta σ H fun x H1=>r x H1 Q
def rI (C:Int->Int->Prop) (g:Int->Int->V):R2:=fun x y H Q=>∃i j,x=.int i/\y=.int j/\C i j/\Q (g i j) H
def DZ (g:Int->Int->V):R2:=fun x y H Q=>∃i j,x=.int i/\y=.int j/\Q (g i j) H
def rU (g:Int->V):V->Hp->VK->Prop:=fun x H Q=>∃i,x=.int i/\Q (g i) H
section
variable {X:Cx}{a b c:Expr}{ta tb tc:TE}{pos:Pos}
theorem QL (ha:PE X a ta) (hb:PE X b tb) {pins:Zo}{s:Shared}{σ:St}{H:Hp}{R:V->V->Hp->Prop}(I:Inv X pins σ H s)
  (h:ta σ H fun x H1=>tb σ H1 fun y H2=>R x y H2) {Q:Zm}{f:Value->Value->Sem Value}
  (hf:∀v u s2 x y H2,Inv X pins σ H2 s2->aV x v->aV y u->R x y H2->wpAny (model X.prog X.w) X.A (f v u) Q X.xe s2) :
  wpAny (model X.prog X.w) X.A (eval a X.env) (fun v s₁=>wpAny (model X.prog X.w) X.A (eval b X.env) (fun u s₂=>wpAny (model X.prog X.w) X.A (f v u) Q X.xe s₂) X.xe s₁) X.xe s:=by
 refine bP (ha pins s σ H _ I h) fun v s1 ⟨x,H1,I1,r1,q1⟩=>?_
 refine bP (hb pins s1 σ H1 _ I1 q1) fun u s2 ⟨y,H2,I2,r2,q2⟩=>?_
 exact hf v u s2 x y H2 I2 r1 r2 q2
theorem Hc {op:Operator}{r:R2}(ho:jl X (binaryOp op) r) (ha:PE X a ta) (hb:PE X b tb):PE X (.BinOp a op b pos) (Rt r ta tb):=by
 intro pins s σ H Q I h;exact wpAny_BinOp (QL ha hb I h fun v u s2 x y H2 I2 rx ry q=>ho pins s2 σ H2 x y v u Q I2 rx ry q)
theorem S8 {op:UnaryOp}{r:V->Hp->VK->Prop}(ho:UW X (unaryOp op) r) (ha:PE X a ta):PE X (.UnaryOp op a pos) (Vn r ta):=by
 intro pins s σ H Q I h;exact UnaryOp_ (bP (ha pins s σ H _ I h) fun v s1 ⟨x,H1,I1,r1,q1⟩=>ho pins s1 σ H1 x v Q I1 r1 q1)
theorem Su {f:Value->Value->Sem Value}{C:Int->Int->Prop}{g:Int->Int->Int}
  (rule:∀(i j:Int) (t u:Tok) (s:Shared) (Q:Zm) (E:Zm),C i j->Q (.int (g i j) s.toks) { s with toks:=s.toks+1}->wpAny (model X.prog X.w) X.A (f (.int i t) (.int j u)) Q E s) :
  jl X f (rI C fun i j=>.int (g i j)):=by
 intro pins s σ H x y v u Q I rx ry h;obtain⟨i,j,rfl,rfl,hc,q⟩:=h;obtain⟨t,rfl⟩:=rx;obtain⟨t',rfl⟩:=ry;exact rule i j t t' s _ _ hc ⟨.int (g i j),H,I.tok _,⟨_,rfl⟩,q⟩
theorem Hv {f:Value->Value->Sem Value}{g:Int->Int->Int}
  (rule:∀(i j:Int) (t u:Tok) (s:Shared) (Q:Zm) (E:Zm),Q (.int (g i j) s.toks) { s with toks:=s.toks+1}->wpAny (model X.prog X.w) X.A (f (.int i t) (.int j u)) Q E s) :
  jl X f (DZ fun i j=>.int (g i j)):=by
 intro pins s σ H x y v u Q I rx ry h;obtain⟨i,j,rfl,rfl,q⟩:=h;obtain⟨t,rfl⟩:=rx;obtain⟨t',rfl⟩:=ry;exact rule i j t t' s _ _ ⟨.int (g i j),H,I.tok _,⟨_,rfl⟩,q⟩
theorem La {f:Value->Value->Sem Value}{g:Int->Int->Bool}
  (rule:∀(i j:Int) (t u:Tok) (s:Shared) (Q:Zm) (E:Zm),Q (.bool (g i j)) s->wpAny (model X.prog X.w) X.A (f (.int i t) (.int j u)) Q E s) :
  jl X f (DZ fun i j=>.bl (g i j)):=by
 intro pins s σ H x y v u Q I rx ry h;obtain⟨i,j,rfl,rfl,q⟩:=h;obtain⟨t,rfl⟩:=rx;obtain⟨t',rfl⟩:=ry;exact rule i j t t' s _ _ ⟨.bl (g i j),H,I,rfl,q⟩
def MN (i j:Int):Prop:=0<=j/\j<=1000000/\i.natAbs<2 ^ 64
def FC (i j:Int):Prop:=(-(2 ^ 64)<i/\i<2 ^ 64)\/(-(2 ^ 64)<j/\j<2 ^ 64)
theorem FC.ok {i j:Int}(h:FC i j):IntMulOk i j:=by
 rcases h with⟨h1,h2⟩|⟨h1,h2⟩
 ·exact .of_left (intBits_le_64 h1 h2)
 ·exact .of_right (intBits_le_64 h1 h2)
theorem A3 (k:Nat):(0:Int)<=2 ^ k:=by
 rw[two_pow_cast];exact YC _
theorem Pz:jl X (binaryOp .Add) (DZ fun i j=>.int (i+j)):=Hv fun _ _ _ _ _ _ _ q=>add_int q
theorem Po:jl X (binaryOp .Sub) (DZ fun i j=>.int (i-j)):=Hv fun _ _ _ _ _ _ _ q=>sub_int q
theorem Pt:jl X (binaryOp .Mult) (rI FC fun i j=>.int (i*j)):=Su fun _ _ _ _ _ _ _ hc q=>mul_int q hc.ok
theorem Pu:jl X (binaryOp .Mod) (rI (fun _ j=>0<j) fun i j=>.int (i % j)):=Su fun i j _ _ _ _ _ hc q=>by
 have h1:(0:Int)<j:=hc;exact mod_int' (by omega) (by rw[Int.fmod_eq_emod_of_nonneg i (by omega)];exact q)
theorem Pq:jl X (binaryOp .LShift) (rI MN fun i j=>.int (i*2 ^ j.toNat)):=Su fun _ _ _ _ _ _ _ hc q=>lshift_int_small hc.1 hc.2.1 hc.2.2 q
theorem Pp:jl X (binaryOp .RShift) (rI (fun _ j=>0<=j) fun i j=>.int (i / 2 ^ j.toNat)):=Su fun i j _ _ _ _ _ hc q =>
 rshift_int hc (by rw[YD i (A3 _)];exact q)
theorem Py:jl X (binaryOp .BitAnd) (DZ fun i j=>.int (Builtin.bitAnd i j)):=Hv fun _ _ _ _ _ _ _ q=>and_int q
theorem Sn:jl X (binaryOp .BitOr) (DZ fun i j=>.int (Builtin.bitOr i j)):=Hv fun _ _ _ _ _ _ _ q=>or_int q
theorem Pn:jl X (binaryOp .BitXor) (DZ fun i j=>.int (Builtin.bitXor i j)):=Hv fun _ _ _ _ _ _ _ q=>xor_int q
theorem Vm {f:Value->Sem Value}{g:Int->Int}
  (rule:∀(i:Int) (t:Tok) (s:Shared) (Q:Zm) (E:Zm),Q (.int (g i) s.toks) { s with toks:=s.toks+1}->wpAny (model X.prog X.w) X.A (f (.int i t)) Q E s) :
  UW X f (rU fun i=>.int (g i)):=by
 intro pins s σ H x v Q I rx h;obtain⟨i,rfl,q⟩:=h;obtain⟨t,rfl⟩:=rx;exact rule i t s _ _ ⟨.int (g i),H,I.tok _,⟨_,rfl⟩,q⟩
theorem Oj:UW X (unaryOp .USub) (rU fun i=>.int (-i)):=Vm fun _ _ _ _ _ q=>neg_int q
end
section
variable {X:Cx}{a b c:Expr}{ta tb tc:TE}{pos:Pos}
theorem So:jl X (compareOp .Lt) (DZ fun i j=>.bl (decide (i<j))):=La fun _ _ _ _ _ _ _ q=>lt_int q
theorem Sq:jl X (compareOp .LtE) (DZ fun i j=>.bl (decide (i<=j))):=La fun _ _ _ _ _ _ _ q=>le_int q
theorem Sr:jl X (compareOp .Gt) (DZ fun i j=>.bl (decide (j<i))):=La fun _ _ _ _ _ _ _ q=>gt_int q
theorem Ss:jl X (compareOp .GtE) (DZ fun i j=>.bl (decide (j<=i))):=La fun _ _ _ _ _ _ _ q=>ge_int q
theorem jl.or {f:Value->Value->Sem Value}{r r':R2}(h:jl X f r) (h':jl X f r'):jl X f (fun x y H Q=>r x y H Q\/r' x y H Q):=by
 intro pins s σ H x y v u Q I rx ry q;rcases q with q|q
 ·exact h pins s σ H x y v u Q I rx ry q
 ·exact h' pins s σ H x y v u Q I rx ry q
theorem eY (b:Expr) {op:CmpOp}(h:op≠.In:=by decide) (h2:op≠.NotIn:=by decide):behindInMarks op b=false:=by
 have e1:(op==CmpOp.In)=false:=by cases op<;>first|rfl|exact absurd rfl h
 have e2:(op==CmpOp.NotIn)=false:=by cases op<;>first|rfl|exact absurd rfl h2
 cases b<;>simp[behindInMarks,e1,e2]
theorem KS {op:CmpOp}{r:R2}(ho:jl X (compareOp op) r) (ha:PE X a ta) (hb:PE X b tb) (hm:behindInMarks op b=false):PE X (.Compare a [op] [b] pos) (Rt r ta tb):=by
 intro pins s σ H Q I h;exact wpAny_Compare1 (QL ha hb I h fun v u s2 x y H2 I2 rx ry q=>ho pins s2 σ H2 x y v u Q I2 rx ry q) hm
def tTest (t:TE):TT:=fun σ H Q=>t σ H fun x H'=>∃k,x=.bl k/\Q k H'
theorem KF {op:CmpOp}{r:R2}(ho:jl X (compareOp op) r) (ha:PE X a ta) (hb:PE X b tb) (hm:behindInMarks op b=false):PT X (.Compare a [op] [b] pos) (tTest (Rt r ta tb)):=by
 intro pins s σ H Q I h;refine Zf (bP (ha pins s σ H _ I h) fun v s1 ⟨x,H1,I1,r1,q1⟩=>bP (hb pins s1 σ H1 _ I1 q1) fun u s2 ⟨y,H2,I2,r2,q2⟩ =>
  bP (ho pins s2 σ H2 x y v u _ I2 r1 r2 q2) fun c s3 ⟨z,H3,I3,r3,k,e,q3⟩=>?_) hm
 subst e;cases r3;exact WA ⟨H3,I3,q3⟩
def tChain (r r':R2) (ta tb tc:TE):TE:=fun σ H Q=>ta σ H fun x H1=>tb σ H1 fun y H2=>r x y H2 fun z H3=>∃k,z=.bl k /\
 (if k=true then tc σ H3 fun w' H4=>r' y w' H4 Q else Q (.bl false) H3)
theorem Hk {op op':CmpOp}{r r':R2}(ho:jl X (compareOp op) r) (ho':jl X (compareOp op') r') (ha:PE X a ta) (hb:PE X b tb) (hc:PE X c tc)
  (hm:lastMarks [op,op'] [b,c]=false:=by with_unfolding_all rfl):PE X (.Compare a [op,op'] [b,c] pos) (tChain r r' ta tb tc):=by
 intro pins s σ H Q I h;refine Compare_chain (bP (ha pins s σ H _ I h) fun v s1 ⟨x,H1,I1,r1,q1⟩=>chain_link (bP (hb pins s1 σ H1 _ I1 q1) fun u s2 ⟨y,H2,I2,r2,q2⟩ =>
  bP (ho pins s2 σ H2 x y v u _ I2 r1 r2 q2) fun d s3 ⟨z,H3,I3,r3,k,e,q3⟩=>?_)) hm
 subst e;cases r3;refine WA ?_;cases k with
 |false=>exact ite_ff ⟨.bl false,H3,I3,rfl,q3⟩
 |true=>exact ite_tt (chain_last (bP (hc pins s3 σ H3 _ I3 q3) fun w' s4 ⟨z',H4,I4,r4,q4⟩=>ho' pins s4 σ H4 y z' u w' Q I4 r2 r4 q4))
theorem GX {op op':CmpOp}{r r':R2}(ho:jl X (compareOp op) r) (ho':jl X (compareOp op') r') (ha:PE X a ta) (hb:PE X b tb) (hc:PE X c tc)
  (hm:lastMarks [op,op'] [b,c]=false:=by with_unfolding_all rfl):PT X (.Compare a [op,op'] [b,c] pos) (tTest (tChain r r' ta tb tc)):=by
 intro pins s σ H Q I h;refine isTrue_chain (bP (ha pins s σ H _ I h) fun v s1 ⟨x,H1,I1,r1,q1⟩=>test_link (bP (hb pins s1 σ H1 _ I1 q1) fun u s2 ⟨y,H2,I2,r2,q2⟩ =>
  bP (ho pins s2 σ H2 x y v u _ I2 r1 r2 q2) fun d s3 ⟨z,H3,I3,r3,k,e,q3⟩=>?_)) hm
 subst e;cases r3;refine WA ?_;cases k with
 |false =>
  obtain⟨k',e',q'⟩:=q3;cases e';exact ite_ff ⟨H3,I3,q'⟩
 |true =>
  refine ite_tt (test_last (bP (hc pins s3 σ H3 _ I3 q3) fun w' s4 ⟨z',H4,I4,r4,q4⟩=>bP (ho' pins s4 σ H4 y z' u w' _ I4 r2 r4 q4) fun d' s5 ⟨z2,H5,I5,r5,k2,e2,q5⟩=>?_));subst e2;cases r5;exact WA ⟨H5,I5,q5⟩
def QS (K:Zl) (x:V) (H:Hp) (k:Bool):Prop :=
 match x with
 |.non=>k=false
 |.bl b=>k=b
 |.int i=>k=(i != 0)
 |.str y=>y.length<=sizeLine/\k=((y.length:Int) != 0)
 |.byt y=>y.size<=sizeLine/\k=((y.size:Int) != 0)
 |.ref p=>(∃xs,gR K H p xs/\k= !xs.isEmpty)\/(∃xs,SqT K H p xs/\k= !xs.isEmpty)\/∃kvs,H p=some (.dK kvs)/\k= !kvs.isEmpty
 |_=>False
theorem AZ {κ:Type}{kvs:List (κ×V)}{vs:List (κ×Value)}(r:KV kvs vs):(!vs.isEmpty)= !kvs.isEmpty:=by
 cases r<;>rfl
theorem rq {xs:List V}{its:Zt}(r:aW xs its):(!its.toArray.isEmpty)= !xs.isEmpty:=by
 cases r<;>simp
theorem nF:(sizeLine:Nat)<2 ^ 63:=by rw[Wb];decide
theorem Op:UX X (fun x H Q=>∃k,QS X.K x H k/\Q k H):=by
 intro pins s σ H x v Q I rx h;obtain⟨k,e,q⟩:=h;have hl:=nF;have hs:sizeLine=16777216:=Wb;cases x with
 |non =>
  cases rx;have e':k=false:=e;subst e';exact truthy_none ⟨H,I,q⟩
 |bl b =>
  cases rx;have e':k=b:=e;subst e';exact WA ⟨H,I,q⟩
 |int i =>
  obtain⟨t,rfl⟩:=rx;have e':k=(i != 0):=e;subst e';exact PySem.P.truthy_int ⟨H,I,q⟩
 |str y =>
  obtain⟨t,rfl⟩:=rx;obtain⟨hy,e'⟩:y.length<=sizeLine/\k=((y.length:Int) != 0):=e;subst e';exact PySem.P.truthy_str (by omega) ⟨H,I.tok _,q⟩
 |byt y =>
  obtain⟨t,rfl⟩:=rx;obtain⟨hy,e'⟩:y.size<=sizeLine/\k=((y.size:Int) != 0):=e;subst e';exact PySem.W.truthy_bytes (by omega) ⟨H,I.tok _,q⟩
 |ref p =>
  cases rx;have e':(∃xs,gR X.K H p xs/\k= !xs.isEmpty)\/(∃xs,SqT X.K H p xs/\k= !xs.isEmpty)\/∃kvs,H p=some (.dK kvs)/\k= !kvs.isEmpty:=e;rcases e' with⟨xs,hx,e'⟩|⟨xs,hx,e'⟩|⟨kvs,hx,e'⟩
  ·subst e';obtain⟨its,r,pl,hz⟩:=I.list hx;have hlen:=r.length;exact wpAny_truthy_list pl.isList (by simp only[VT];omega) ⟨H,I.tok _,by rw[rq r];exact q⟩
  ·subst e';obtain⟨its,r,pl,hz⟩:=I.tuple hx;have hlen:=r.length;exact truthy_tuple pl (by simp only[VT];omega) ⟨H,I.tok _,by rw[rq r];exact q⟩
  ·subst e';obtain⟨hz,hS,vs,r,m⟩:kvs.length<=sizeLine/\(p==sysModules)=false/\∃vs,KV kvs vs/\s.heap.DictOf (mixKind X.prog X.w) p vs:=I.hok p _ hx;have hlen:kvs.length=vs.length:=YL r;exact wpAny_truthy_dict hS m (by omega) ⟨H,I.tok _,by rw[AZ r];exact q⟩
 |_=>exact(show False from e).elim
theorem GV (ha:PE X a ta) (he:∀whole,isTrue a X.env whole=(do let v ←whole;standAt a.pos;holding [v] (truthy v))) :
  PT X a (fun σ H Q=>ta σ H fun x H'=>∃k,QS X.K x H' k/\Q k H'):=by
 intro pins s σ H Q I h;exact isTrue_plain (bP (ha pins s σ H _ I h) fun v s1 ⟨x,H1,I1,r1,q1⟩=>Op pins s1 σ H1 x v Q I1 r1 q1) (he _)
theorem Ay:jl X (binaryOp .Add) (fun x y H Q=>∃i j,x=.str i/\y=.str j/\i.length+j.length<=sizeLine/\Q (.str (i++j)) H):=by
 intro pins s σ H x y v u Q I rx ry h;obtain⟨i,j,rfl,rfl,hz,q⟩:=h;obtain⟨t,rfl⟩:=rx;obtain⟨t',rfl⟩:=ry;exact add_str (fun t' tk=>⟨.str (i++j),H,I.tok _,⟨_,rfl⟩,q⟩) hz
theorem kT {x:V}{us:Zt}(r:aW [x] us):∃u,us=[u]/\aV x u:=by
 cases r with
 |cons r1 r2=>cases r2;exact⟨_,rfl,r1⟩
theorem q9 {x y:V}{us:Zt}(r:aW [x,y] us):∃u w',us=[u,w']/\aV x u/\aV y w':=by
 cases r with
 |cons r1 r2 =>
  cases r2 with
  |cons r3 r4=>cases r4;exact⟨_,_,rfl,r1,r3⟩
theorem Fj (hc:X.calm=true):gP X (.builtin "max") (fun xs H Q=>∃i j,xs=[.int i,.int j]/\Q (.int (if j>i then j else i)) H):=by
 intro pins s σ H xs us Q I r h;obtain⟨i,j,rfl,q⟩:=h;obtain⟨u,w',rfl,⟨t,rfl⟩,⟨t',rfl⟩⟩:=q9 r;refine max_two_ints (I.ok.hd hc) fun h' tk k=>⟨_,H,I.kept k,?_,q⟩
 by_cases hj:j>i
 ·rw[VJ hj,VJ hj];exact⟨_,rfl⟩
 ·rw[VN hj,VN hj];exact⟨_,rfl⟩
theorem Fi (hc:X.calm=true):gP X (.builtin "min") (fun xs H Q=>∃i j,xs=[.int i,.int j]/\Q (.int (if j<i then j else i)) H):=by
 intro pins s σ H xs us Q I r h;obtain⟨i,j,rfl,q⟩:=h;obtain⟨u,w',rfl,⟨t,rfl⟩,⟨t',rfl⟩⟩:=q9 r;refine min_two_ints (I.ok.hd hc) fun h' tk k=>⟨_,H,I.kept k,?_,q⟩
 by_cases hj:j<i
 ·rw[VJ hj,VJ hj];exact⟨_,rfl⟩
 ·rw[VN hj,VN hj];exact⟨_,rfl⟩
theorem Fk:gP X (.type "int") (fun xs H Q=>(∃i,xs=[.int i]/\Q (.int i) H)\/∃k,xs=[.bl k]/\Q (.int (if k then 1 else 0)) H):=by
 intro pins s σ H xs us Q I r h;rcases h with⟨i,rfl,q⟩|⟨k,rfl,q⟩
 ·obtain⟨u,rfl,t,rfl⟩:=kT r;exact call_int_int ⟨.int i,H,I,⟨_,rfl⟩,q⟩
 ·obtain⟨u,rfl,r1⟩:=kT r;cases r1;exact call_int_bool ⟨.int (if k then 1 else 0),H,I.tok _,⟨_,rfl⟩,q⟩
def UY (K:Zl) (x:V) (H:Hp) (n:Nat):Prop :=
 match x with
 |.str y=>y.length<=sizeLine/\n=y.length
 |.byt y=>y.size<=sizeLine/\n=y.size
 |.ref p=>(∃xs,gR K H p xs/\n=xs.length)\/∃xs,SqT K H p xs/\n=xs.length
 |_=>False
theorem Jw:gP X (.builtin "len") (fun xs H Q=>∃x n,xs=[x]/\UY X.K x H n/\Q (.int n) H):=by
 intro pins s σ H xs us Q I r h;obtain⟨x,n,rfl,e,q⟩:=h;obtain⟨u,rfl,rx⟩:=kT r;have hl:=nF;have hs:sizeLine=16777216:=Wb;cases x with
 |str y =>
  obtain⟨t,rfl⟩:=rx;obtain⟨hy,e'⟩:y.length<=sizeLine/\n=y.length:=e;subst e';exact len_str (by omega) ⟨.int _,H,I.tok _,⟨_,rfl⟩,q⟩
 |byt y =>
  obtain⟨t,rfl⟩:=rx;obtain⟨hy,e'⟩:y.size<=sizeLine/\n=y.size:=e;subst e';exact PySem.W.len_bytes (by omega) ⟨.int _,H,I.tok _,⟨_,rfl⟩,q⟩
 |ref p =>
  cases rx;have e':(∃xs,gR X.K H p xs/\n=xs.length)\/∃xs,SqT X.K H p xs/\n=xs.length:=e;rcases e' with⟨xs,hx,e'⟩|⟨xs,hx,e'⟩
  ·subst e';obtain⟨its,r',pl,hz⟩:=I.list hx;have hlen:=r'.length;exact Calls.call_len_list pl.isList (by simp only[VT];omega) ⟨.int xs.length,H,I.tok _,⟨_,by simp only[VT];rw[hlen]⟩,q⟩
  ·subst e';obtain⟨its,r',pl,hz⟩:=I.tuple hx;have hlen:=r'.length;exact len_tuple pl (by simp only[VT];omega) ⟨.int xs.length,H,I.tok _,⟨_,by simp only[VT];rw[hlen]⟩,q⟩
 |_=>exact(show False from e).elim
end
structure FA (h:Heap) (x dx C:Addr) (mA:Zn):Prop where
 obj:h.get? x=some (PySem.W.instObj C dx)
 ns:h.Ns1 dx mA
 ne:dx≠x
theorem tW {h:Heap}{dx:Addr}{mA:Zn}(n:h.Ns1 dx mA):∃od,h.get? dx=some od/\∀name,PySem.W.lookIn name od=some (mA name):=by
 obtain⟨o,es,ep,ho,hd,hk,_,hm⟩:=n;refine⟨o,ho,fun name=>?_⟩;have e:=hm name;unfold nsFind findBy at e;rw[←Array.find?_toList] at e;unfold PySem.W.lookIn;rw[hd];dsimp only;split
 ·rename_i y q;rw[q] at e;exact congrArg some e
 ·rename_i q;rw[q] at e;have a:es.toList.any (·.refKey)=false:=by
   rw[List.any_eq_false];intro y hy;obtain⟨z,t,hkey⟩:=hk y (Array.mem_toList_iff.mp hy);simp[DictEntry.refKey,hkey]
  have a':¬es.toList.any (·.refKey)=true:=by rw[a];exact XW
  rw[VN a'];exact congrArg some e
theorem FA.look {h:Heap}{x dx C:Addr}{mA:Zn}(I:FA h x dx C mA):∃od,PySem.W.InstAt h x (PySem.W.instObj C dx) C (some od)/\∀name,PySem.W.lookIn name od=some (mA name) :=
 let⟨od,ho,hl⟩:=tW I.ns
 ⟨od,⟨I.obj,rfl,rfl,ho⟩,hl⟩
section
variable {prog:Program}{w:World}{A:Around}{E:Zm}{s:Shared}{K:Zl}{x dx C f:Addr}{mA:Zn}{name:Str}{v:Value}
theorem M5 {expr:Bool}{Q:Zm}(X:K.In s.heap) (I:FA s.heap x dx C mA) (hg:PySem.W.plainGet K C name=true) (hh:PySem.W.hasDictIn K C=true)
  (ha:PySem.W.findIn K (.ref C) name=some none) (hv:mA name=some v) (hv':PySem.W.handedIn v=true) (h:Q v { s with toks:=s.toks+1}) :
  wpAny (model prog w) A (getAttr (.ref x) name expr) Q E s:=by
 obtain⟨od,J,hl⟩:=I.look;exact PySem.W.get_value X J (PySem.W.plainGet_of hg).1 (PySem.W.findObj_own hh ha rfl (by rw[hl,hv])) hv' h
theorem Ku {ns:Zv}{Q:ZA}(X:K.In s.heap) (I:FA s.heap x dx C mA)
  (hs:PySem.W.findIn K (.ref C) "__setattr__"=some (some (.builtin "object.__setattr__"))) (hp:PySem.W.plainOver K C=true) (ht:PySem.W.takerIn K C name=some none) (hh:PySem.W.hasDictIn K C=true)
  (hw:PySem.Within mA ns) (hsz:ns.length<=sizeLine)
  (h:∀h',FA h' x dx C (fun y=>if y=name then some v else mA y)->Heap.SameBut dx s.heap h'->Q () { s with heap:=h',toks:=s.toks+2}) :
  wpAny (model prog w) A (setAttr (.ref x) name v) Q E s:=by
 obtain⟨od,J,hl⟩:=I.look;refine PySem.W.set_plain X J hs (PySem.W.osa_open (s:={ s with toks:=s.toks+1}) (r:=none) X J hp ht fun b=>?_);obtain⟨cd,hc,hd'⟩:=X0 hh;have hx:s.heap.get? x=some ⟨.ref C,some dx,.plain,#[]⟩:=I.obj;refine VG (VO (VG (VG (wpAny_loadPart hx (VG (WM (s:={ s with toks:=s.toks+1}) (Yw X hc) ?_))))));rw[hd'];refine VO (a:=some dx) (VG (VO (VG ?_)));refine wpAny_nsSet1 (s:={ s with toks:=s.toks+1}) I.ns fun h' hn2 hs2=>?_
 obtain⟨oD,esD,epD,hoD,hdD,hcD⟩:=hn2.count (PySem.Within.cons name v hw);refine VG (wpAny_lookBehind hoD (by rw[hdD];exact pastItsLine_dict (Wh hcD (by rw[W1];omega))) ?_);exact VO (h _ ⟨(hs2.2 _ (Wr I.ne)).trans I.obj,hn2,I.ne⟩ hs2)
theorem Iw {R:Result->Shared->Prop}{vs:Zt}{kw:Zq}(X:K.In s.heap) (hm:PySem.W.makesIn K C=true)
  (hi:PySem.W.findIn K (.ref C) "__init__"=some (some (.ref f))) (hf:PySem.W.typeIn K (.ref f)=some (.type "function"))
  (h:codeAny (model prog w) (A.under (.builtin "type.__call__" ⟨.ref C::vs,kw⟩)) (.call (.ref f) ⟨.ref (s.heap.objs.size+1)::vs,kw⟩) (PySem.W.InitBack (s.heap.objs.size+1) R)
   { s with heap:=(s.heap.push PySem.W.emptyDict).push (PySem.W.instObj C s.heap.objs.size)}) :
  codeAny (model prog w) A (.call (.ref C) ⟨vs,kw⟩) R s:=by
 obtain⟨hh,g,d,t,os⟩:=s;exact PySem.W.make_core (PySem.W.makes_of X hm) (Xx X hi) (fun self=>PySem.W.bind_fn X self hf) (.inl rfl) h
end
def iF (f:Str) (v:V):List (Str×V)->List (Str×V)
 |[]=>[(f,v)]
 |(g,x)::r=>if g=f then(g,v)::r else(g,x)::iF f v r
theorem oE (f g:Str) (v:V):∀fs:List (Str×V),(iF f v fs).lookup g=if g=f then some v else fs.lookup g
 |[]=>by
  show List.lookup g [(f,v)]=_;by_cases h:g=f
  ·have hb:(g==f)=true:=beq_iff_eq.mpr h;simp only[List.lookup,hb,VJ h]
  ·have hb:(g==f)=false:=beq_eq_false_iff_ne.mpr h;simp only[List.lookup,hb,VN h]
 |(k,x)::r=>by
  have ih:=oE f g v r;rw[show iF f v ((k,x)::r)=(if k=f then(k,v)::r else(k,x)::iF f v r) from rfl];by_cases hk:k=f
  ·rw[VJ hk];by_cases h:g=k
   ·have hb:(g==k)=true:=beq_iff_eq.mpr h;simp only[List.lookup,hb,VJ (h.trans hk)]
   ·have hb:(g==k)=false:=beq_eq_false_iff_ne.mpr h;simp only[List.lookup,hb,VN (fun e:g=f=>h (e.trans hk.symm))]
  ·rw[VN hk];by_cases h:g=k
   ·have hb:(g==k)=true:=beq_iff_eq.mpr h;simp only[List.lookup,hb,VN (fun e:g=f=>hk (h.symm.trans e))]
   ·have hb:(g==k)=false:=beq_eq_false_iff_ne.mpr h;simp only[List.lookup,hb];exact ih
theorem nW (f:Str) (v:V):∀fs:List (Str×V),f∈(iF f v fs).map (·.1)/\∀g,g∈fs.map (·.1)->g∈(iF f v fs).map (·.1)
 |[]=>⟨by simp[iF],fun g h=>by simp at h⟩
 |(k,x)::r=>by
  obtain⟨i1,i2⟩:=nW f v r;rw[show iF f v ((k,x)::r)=(if k=f then(k,v)::r else(k,x)::iF f v r) from rfl];by_cases hk:k=f
  ·rw[VJ hk];subst hk;exact⟨by simp,fun g h=>by simpa using h⟩
  ·rw[VN hk];refine⟨?_,fun g h=>?_⟩
   ·rw[VW];exact W6 _ i1
   ·rw[VW] at h ⊢;rcases List.mem_cons.mp h with e|e
    ·exact List.mem_cons.mpr (.inl e)
    ·exact W6 _ (i2 g e)
theorem oF (f:Str) (v:V):∀fs:List (Str×V),(iF f v fs).length<=fs.length+1
 |[]=>by simp[iF]
 |(k,x)::r=>by
  have ih:=oF f v r;rw[show iF f v ((k,x)::r)=(if k=f then(k,v)::r else(k,x)::iF f v r) from rfl];by_cases hk:k=f
  ·rw[VJ hk,W1,W1];omega
  ·rw[VN hk,W1,W1];omega
theorem kx.some_of {v:V}{o:Zs}(r:kx (some v) o):∃u,o=some u/\aV v u:=by
 cases o with
 |none=>exact(show False from r).elim
 |some u=>exact⟨u,rfl,r⟩
theorem ug {v:V}{u:Value}(r:aV v u):PySem.W.handedIn u=true:=by
 cases v with
 |non=>cases(show u=Value.none from r);rfl
 |bl b=>cases(show u=Value.bool b from r);rfl
 |int i=>obtain⟨t,e⟩:=(show ∃t,u=Value.int i t from r);cases e;rfl
 |str x=>obtain⟨t,e⟩:=(show ∃t,u=Value.str x t from r);cases e;rfl
 |byt b=>obtain⟨t,e⟩:=(show ∃t,u=Value.bytes b t from r);cases e;rfl
 |flt b=>obtain⟨t,e⟩:=(show ∃t,u=Value.float b t from r);cases e;rfl
 |ref a=>cases(show u=Value.ref a from r);rfl
 |ty n=>cases(show u=Value.type n from r);rfl
section
variable {P:Program}{w:World}{H H':Hp}{h h':Heap}{a C dx:Addr}{fs fs':List (Str×V)}
theorem vE (hok:jn P w H h) (e:H a=some (.ins C dx fs)):∃mA,FA h a dx C mA/\(∀f,kx (fs.lookup f) (mA f))/\PySem.Within mA (fs.map (·.1))/\fs.length<=1000/\H dx=some (.own a):=by
 obtain⟨d,z,ne,ob,mA,n,r,q⟩:=(show cH P w H h a (.ins C dx fs) from hok a _ e)
 exact⟨mA,⟨ob,n,ne⟩,r,q,z,d⟩
end
structure K4 (K:Zl) (C:Addr):Prop where
 pg:PySem.W.plainGet K C Str.empty=true
 hd:PySem.W.hasDictIn K C=true
 po:PySem.W.plainOver K C=true
 sa:PySem.W.findIn K (.ref C) "__setattr__"=some (some (.builtin "object.__setattr__"))
theorem K4.get {K:Zl}{C:Addr}(c:K4 K C) (f:Str):PySem.W.plainGet K C f=true:=c.pg
def fg (K:Zl) (C:Addr) (f:Str):Prop:=PySem.W.findIn K (.ref C) f=some none
theorem fg.taker {K:Zl}{C:Addr}{f:Str}(n:fg K C f):PySem.W.takerIn K C f=some none:=by
 unfold PySem.W.takerIn;rw[show PySem.W.findIn K (.ref C) f=some none from n];rfl
section
variable {X:Cx}{pins:Zo}{σ:St}{H:Hp}{s:Shared}{a C dx:Addr}{fs:List (Str×V)}{f:Str}{v:V}{A:Around}{E:Zm}
theorem rH {b:Bool}{Q:Zm}(I:Inv X pins σ H s) (e:H a=some (.ins C dx fs)) (c:K4 X.K C) (n:fg X.K C f) (l:fs.lookup f=some v)
  (h:∀u s',Inv X pins σ H s'->aV v u->Q u s'):wpAny (model X.prog X.w) A (getAttr (.ref a) f b) Q E s:=by
 obtain⟨mA,Oo,r,_,_,_⟩:=vE I.hok e;obtain⟨u,hu,ru⟩:=kx.some_of (v:=v) (o:=mA f) (by rw[←l];exact r f);exact M5 I.kIn Oo (c.get f) c.hd n hu (ug ru) (h u _ (I.tok _) ru)
theorem qt {y:V}{u:Value}{Q:ZA}(I:Inv X pins σ H s) (e:H a=some (.ins C dx fs)) (c:K4 X.K C) (n:fg X.K C f) (hl:fs.length<1000) (ry:aV y u)
  (h:∀s',Inv X pins σ (b6 H a (.ins C dx (iF f y fs))) s'->Q () s'):wpAny (model X.prog X.w) A (setAttr (.ref a) f u) Q E s:=by
 obtain⟨mA,Oo,r,wi,_,ho⟩:=vE I.hok e;have hz:(fs.map (·.1)).length<=sizeLine:=by rw[VS,Wb];omega
 refine Ku I.kIn Oo c.sa c.po n.taker c.hd wi hz fun h' Oo' sb=>h _ ?_
 have hd:∃o,h'.get? dx=some o:=let⟨o,_,_,e',_⟩:=Oo'.ns;⟨o,e'⟩
 refine I.write (x:=a) (e:=dx) (by rw[e];exact True.intro) (.inr ho) (fun b q hb z=>(sb.2 b hb).trans z) hd ?_;refine⟨by rw[ak Oo.ne];exact ho,?_,Oo.ne,Oo'.obj,_,Oo'.ns,fun g=>?_,fun g hg=>?_⟩
 ·have:=oF f y fs;omega
 ·show kx ((iF f y fs).lookup g) (if g=f then some u else mA g);rw[oE];by_cases q:g=f
  ·rw[VJ q,VJ q];exact ry
  ·rw[VN q,VN q];exact r g
 ·by_cases q:g=f
  ·rw[q];exact(nW f y fs).1
  ·refine(nW f y fs).2 g (wi g fun z=>hg ?_);show(if g=f then some u else mA g)=none;rw[VN q];exact z
theorem Inv.made (I:Inv X pins σ H s):Inv X pins σ (b6 (b6 H s.heap.objs.size (.own (s.heap.objs.size+1))) (s.heap.objs.size+1) (.ins C s.heap.objs.size []))
  { s with heap:=(s.heap.push PySem.W.emptyDict).push (PySem.W.instObj C s.heap.objs.size)}:=by
 have e1:(s.heap.push PySem.W.emptyDict).get? s.heap.objs.size=some PySem.W.emptyDict:=VZ s.heap rfl;have e2:((s.heap.push PySem.W.emptyDict).push (PySem.W.instObj C s.heap.objs.size)).get? (s.heap.objs.size+1)=some (PySem.W.instObj C s.heap.objs.size):=by
  have:=VZ (s.heap.push PySem.W.emptyDict) (o:=PySem.W.instObj C s.heap.objs.size) rfl
  rwa [WS] at this
 have e3:(s.heap.push PySem.W.emptyDict).Ns s.heap.objs.size (fun _=>none):=⟨PySem.W.emptyDict,#[],_,e1,rfl,(fun e he=>absurd he (by simp)),fun _=>rfl⟩
 have I1:=I.laid (a:=s.heap.objs.size) (o:=.own (s.heap.objs.size+1)) (h':=s.heap.push PySem.W.emptyDict) (t':=s.toks) (fun b u q=>VH _ q) (VL _) ⟨_,e1⟩;refine I1.laid (a:=s.heap.objs.size+1) (o:=.ins C s.heap.objs.size []) (t':=s.toks) (fun b u q=>VH _ q) (Xg (WS _ _)) ?_;have ne:s.heap.objs.size≠s.heap.objs.size+1:=W3 (YO _);refine⟨by rw[ak ne,aw],WK _,ne,e2,fun _=>none,(Heap.Ns1.of_empty e3).at fun o q=>VH _ q,fun _=>True.intro,fun y hy=>absurd rfl hy⟩
theorem Dl {prog:Program}{w:World}{env:Env}{e:Expr}{f:Str}{pos:Pos}{s:Shared}{Q:Zm}(hb:attributeBase e f env (eval e env)=eval e env)
  (h:wpAny (model prog w) A (eval e env) (fun o s₁=>wpAny (model prog w) A (getAttr o f true) Q E s₁) E s):wpAny (model prog w) A (eval (.Attribute e f pos) env) Q E s :=
 Attribute_any_ h (by rw[arm_eval_Attribute,hb])
end
def Ut (K:Zl) (ta:TE) (f:Str):TE:=fun σ H Q=>ta σ H fun x H1=>∃a C dx fs v,x=.ref a/\H1 a=some (.ins C dx fs)/\K4 K C/\fg K C f/\fs.lookup f=some v/\Q v H1
def Ux (K:Zl) (ta tv:TE) (f:Str):TS:=fun D σ H=>tv σ H fun y H1=>ta σ H1 fun x H2=>∃a C dx fs,x=.ref a/\H2 a=some (.ins C dx fs)/\K4 K C/\fg K C f/\fs.length<1000 /\
 D.nx σ (b6 H2 a (.ins C dx (iF f y fs)))
def TK (X:Cx) (op:Operator) (rd:V->V->Hp->VK->Prop):Prop :=
 ∀(pins:Zo) (s:Shared) (σ:St) (H:Hp) (x y:V) (u v:Value) (Q:VK),Inv X pins σ H s->aV x u->aV y v->rd x y H Q->wpAny (model X.prog X.w) X.A (inplaceOp op u v) (EP X pins σ Q) X.xe s
def Kv (K:Zl) (ta tv:TE) (rd:V->V->Hp->VK->Prop) (f:Str):TS:=fun D σ H=>ta σ H fun x H1=>∃a C dx fs v,x=.ref a/\H1 a=some (.ins C dx fs)/\K4 K C/\fg K C f/\fs.lookup f=some v /\
 tv σ H1 fun y H2=>rd v y H2 fun z H3=>∃dx' fs',H3 a=some (.ins C dx' fs')/\fs'.length<1000/\D.nx σ (b6 H3 a (.ins C dx' (iF f z fs')))
section
variable {X:Cx}{o e value:Expr}{f:Str}{pos pos' tpos:Pos}{ta tv:TE}
theorem Pa (he:PE X e ta) (hb:attributeBase e f X.env (eval e X.env)=eval e X.env):PE X (.Attribute e f pos) (Ut X.K ta f):=by
 intro pins s σ H Q I h;refine Dl hb (bP (he pins s σ H _ I h) fun u s1 ⟨x,H1,I1,rx,a,C,dx,fs,v,ex,ea,c,n,l,q⟩=>?_);subst ex;obtain rfl:u=Value.ref a:=rx;exact rH I1 ea c n l fun u' s2 I2 ru=>⟨v,H1,I2,ru,q⟩
theorem OZ (ha:PE X o ta) (hv:PE X value tv) (hs:swapsWith value (some (.Attribute o f pos')) pos.line X.env=pure false):PS X (.Assign [.Attribute o f pos'] value pos) (Ux X.K ta tv f):=by
 intro pins s σ H D I h;refine Y9 (bP (hv pins s σ H _ I h) fun u s1 ⟨y,H1,I1,ry,q⟩=>bP (ha pins s1 σ H1 _ I1 q) fun ov s2 ⟨x,H2,I2,rx,a,C,dx,fs,ex,ea,c,n,l,q2⟩=>?_) hs;subst ex;obtain rfl:ov=Value.ref a:=rx;exact qt I2 ea c n l ry fun s3 I3=>⟨σ,_,I3,q2⟩
theorem E3 {op:Operator}{rd:V->V->Hp->VK->Prop}(ha:PE X o ta) (hv:PE X value tv) (hop:TK X op rd):PS X (.AugAssign (.Attribute o f tpos) op value pos) (Kv X.K ta tv rd f):=by
 intro pins s σ H D I h;refine wpAny_AugAssign_AttributeAny (bP (ha pins s σ H _ I h) fun ov s1 ⟨x,H1,I1,rx,a,C,dx,fs,v,ex,ea,c,n,l,q⟩=>?_);subst ex;obtain rfl:ov=Value.ref a:=rx;refine rH I1 ea c n l fun u s2 I2 ru=>bP (hv pins s2 σ H1 _ I2 q) fun w3 s3 ⟨y,H2,I3,ry,q3⟩=>bP (hop pins s3 σ H2 v y u w3 _ I3 ru ry q3) fun w4 s4 ⟨z,H3,I4,rz,dx',fs',ea',l',q4⟩=>?_
 exact qt I4 ea' c n l' rz fun s5 I5=>⟨σ,_,I5,q4⟩
def UC:V->V->Hp->VK->Prop:=fun x y H Q=>∃i j,x=.int i/\y=.int j/\Q (.int (i+j)) H
theorem Qp:TK X .Add UC:=by
 rintro pins s σ H x y u v Q I rx ry ⟨i,j,rfl,rfl,q⟩
 obtain⟨t,rfl⟩:=(show ∃t,u=Value.int i t from rx)
 obtain⟨t',rfl⟩:=(show ∃t',v=Value.int j t' from ry)
 exact PyProof.Rows.iadd_int ⟨.int (i+j),H,I.tok _,⟨_,rfl⟩,q⟩
end
section
variable {X:Cx}{pins:Zo}{σ:St}{H:Hp}{s:Shared}{A:Around}{E:Zm}{Q:Zm}{c:Value}{b:Bool}
inductive oW (K:Zl) (H:Hp):V->Value->Prop where
 |non:oW K H .non (.type "NoneType")
 |bl (x:Bool):oW K H (.bl x) (.type "bool")
 |int (i:Int):oW K H (.int i) (.type "int")
 |str (x:Str):oW K H (.str x) (.type "str")
 |flt (x:UInt64):oW K H (.flt x) (.type "float")
 |lst {a:Addr}{xs:List V}(e:H a=some (.lst xs)):oW K H (.ref a) (.type "list")
 |frz {a:Addr}{o:Obj}{xs:List V}(e:H a=some (.frz o (.lst xs))):oW K H (.ref a) (.type "list")
 |tup {a:Addr}{xs:List V}(e:H a=some (.tup xs)):oW K H (.ref a) (.type "tuple")
 |dK {a:Addr}{kvs:List (Key×V)}(e:H a=some (.dK kvs)):oW K H (.ref a) (.type "dict")
 |dT {a:Addr}{kvs:List (List Key×V)}(e:H a=some (.dT kvs)):oW K H (.ref a) (.type "dict")
 |ins {a C dx:Addr}{fs:List (Str×V)}(e:H a=some (.ins C dx fs)) (cl:K4 K C) (ha:PySem.W.findIn K (.ref C) "__class__"=some (some (.builtin "object.__class__")))
   (hn:PySem.W.specialIn K (.builtin "object.__class__") "__get__"=some (some (.builtin "getset_descriptor.__get__"))) (htk:PySem.W.takesIn K (.builtin "object.__class__")=some true)
   (hm:PySem.W.mroIn K C (.type "object")=some true):oW K H (.ref a) (.ref C)
theorem iI {x:V}{u t:Value}(I:Inv X pins σ H s) (rx:aV x u) (ty:oW X.K H x t) (e:PySem.W.kitOne X.K t c=some b) (h:∀tk,Q (.bool b) { s with toks:=tk}) :
  wpAny (model X.prog X.w) A (call (.builtin "isinstance") [u,c]) Q E s:=by
 cases ty with
 |non=>cases(show u=Value.none from rx);exact Ww PySem.W.kitx_none I.kIn True.intro e (fun z=>nomatch z) h
 |bl y=>cases(show u=Value.bool y from rx);exact Ww PySem.W.kitx_bool I.kIn True.intro e (fun z=>nomatch z) h
 |int i=>obtain⟨t,q⟩:=(show ∃t,u=Value.int i t from rx);cases q;exact Ww PySem.W.kitx_int I.kIn True.intro e (fun z=>nomatch z) h
 |str y=>obtain⟨t,q⟩:=(show ∃t,u=Value.str y t from rx);cases q;exact Ww PySem.W.kitx_str I.kIn True.intro e (fun z=>nomatch z) h
 |flt y=>obtain⟨t,q⟩:=(show ∃t,u=Value.float y t from rx);cases q;exact Ww PySem.W.kitx_float I.kIn True.intro e (fun z=>nomatch z) h
 | @lst a xs ea =>
  cases(show u=Value.ref a from rx);obtain⟨_,_,n,_,h1⟩:=(show cH X.prog X.w H s.heap a (.lst xs) from I.hok a _ ea)
  exact Ww YH I.kIn ⟨_,h1,rfl⟩ e (fun z=>nomatch z) h
 | @frz a ob xs ea =>
  cases(show u=Value.ref a from rx);obtain⟨_,_,_,n,_,h1⟩:=(show cH X.prog X.w H s.heap a (.frz ob (.lst xs)) from I.hok a _ ea)
  exact Ww YH I.kIn ⟨_,h1,rfl⟩ e (fun z=>nomatch z) h
 | @tup a xs ea =>
  cases(show u=Value.ref a from rx);obtain⟨_,_,_,p⟩:=(show cH X.prog X.w H s.heap a (.tup xs) from I.hok a _ ea)
  obtain⟨o,h1,h2,_⟩:=p;exact Ww PySem.W.kitx_tuple I.kIn ⟨o,h1,h2⟩ e (fun z=>nomatch z) h
 | @dK a kvs ea =>
  cases(show u=Value.ref a from rx);obtain⟨_,_,vs,_,p⟩:=(show cH X.prog X.w H s.heap a (.dK kvs) from I.hok a _ ea)
  obtain⟨o,es,ep,h1,h2,_⟩:=p;exact Ww PySem.W.kitx_dict I.kIn ⟨o,h1,h2.1⟩ e (fun z=>nomatch z) h
 | @dT a kvs ea =>
  cases(show u=Value.ref a from rx);obtain⟨_,_,xs,_,o,es,ep,h1,h2,_⟩:=(show cH X.prog X.w H s.heap a (.dT kvs) from I.hok a _ ea)
  exact Ww PySem.W.kitx_dict I.kIn ⟨o,h1,h2.1⟩ e (fun z=>nomatch z) h
 | @ins a C dx fs ea cl ha hn htk hm =>
  cases(show u=Value.ref a from rx);obtain⟨mA,Oo,_⟩:=vE I.hok ea;obtain⟨od,J,_⟩:=Oo.look;exact Ww (PySem.W.kitx_own (cl.get _) cl.hd ha hn htk hm) I.kIn J e (fun z=>nomatch z) h
end
structure aQ (k:Nat) (A:Around):Prop where
 hd:A.handled=none
 dp:A.depth+3*k+5<recursionLimit
 un:A.units+16*k+200<cLine
theorem aQ.mono {j k:Nat}{A:Around}(r:aQ k A) (h:j<=k):aQ j A:=⟨r.hd,by have:=r.dp;omega,by have:=r.un;omega⟩
theorem aQ.deeper {k:Nat}{A:Around}(r:aQ (k+1) A) (env:Env):aQ k (A.deeper env) :=
 ⟨r.hd,by have:=r.dp;show A.depth+1+3*k+5<_;omega,by have:=r.un;show A.units+3+16*k+200<_;omega⟩
theorem AW {A:Around}{C:Addr}{us:Zt}{kw:Zq}:(A.under (.builtin "type.__call__" ⟨.ref C::us,kw⟩)).depth=A.depth+1:=by
 first|rfl|simp[Around.under,Code.weight,Code.isCreation,Code.isGuard,Code.isCaller,Code.frames,Code.isFrame,guardIds]
theorem AV {A:Around}{C:Addr}{us:Zt}{kw:Zq}:(A.under (.builtin "type.__call__" ⟨.ref C::us,kw⟩)).units=A.units+1:=by
 first|rfl|simp[Around.under,Code.cUnits,Code.frames,Code.isFrame]
theorem aQ.make {k:Nat}{A:Around}(r:aQ (k+1) A) (C:Addr) (us:Zt) (kw:Zq):aQ k (A.under (.builtin "type.__call__" ⟨.ref C::us,kw⟩)) :=
 ⟨r.hd,by have:=r.dp;rw[AW];omega,by have:=r.un;rw[AV];omega⟩
theorem aQ.depth {k:Nat}{A:Around}(r:aQ k A):A.depth<recursionLimit:=by have:=r.dp;omega
def Os:TA:=fun _ H Q=>Q [] H
def RD (ta:TE) (tr:TA):TA:=fun σ H Q=>ta σ H fun x H1=>tr σ H1 fun xs H2=>Q (x::xs) H2
section
variable {X:Cx}{e:Expr}{es:Zx}{te:TE}{t:TA}{pos:Pos}
theorem nk:PA X [] Os:=fun _ _ _ _ H Q I h=>Calls.spliced_nil ⟨[],H,I,.nil,h⟩
theorem g9 (ha:PE X e te) (hr:PA X es t) (hs:starEach (e::es) X.env=(false,eval e X.env)::starEach es X.env:=by rfl):PA X (e::es) (RD te t):=by
 intro pos pins s σ H Q I h;rw[hs];show wpAny _ _ (spliced ((false,eval e X.env)::backTo pos (starEach es X.env))) _ _ s;refine YE (bP (ha pins s σ H _ I h) fun u s1 ⟨x,H1,I1,r1,q1⟩=>?_);exact bP (hr pos pins s1 σ H1 _ I1 q1) fun us s2 ⟨xs,H2,I2,r2,q2⟩=>⟨x::xs,H2,I2,.cons r1 r2,q2⟩
def Uj (t:TA):TE:=fun σ H Q=>t σ H fun xs H1=>xs.length<=sizeLine/\∀p,H1 p=none->Q (.ref p) (b6 H1 p (.tup xs))
def Uq (t:TA):TE:=fun σ H Q=>t σ H fun xs H1=>xs.length<=sizeLine/\∀p,H1 p=none->Q (.ref p) (b6 H1 p (.lst xs))
theorem P6 {x1} (h:PA X es t):PE X (.Tuple es x1 pos) (Uj t):=by
 intro pins s σ H Q I hq;refine wpAny_Tuple_spliced (bP (h pos pins s σ H _ I hq) fun us s1 ⟨xs,H1,I1,r,z,q⟩=>⟨by rw[←r.length];exact z,?_⟩);have hf:H1 s1.heap.objs.size=none:=I1.hok.fresh (VL _);refine⟨.ref s1.heap.objs.size,b6 H1 s1.heap.objs.size (.tup xs),I1.laid (t':=s1.toks) (fun b u e=>VH _ e) (VL _) ?_,rfl,q _ hf⟩;exact⟨z,us,r,⟨_,VZ _ rfl,rfl,_,rfl⟩⟩
theorem Ax (h:PA X es t):PE X (.List es pos) (Uq t):=by
 intro pins s σ H Q I hq;refine wpAny_List_spliced (bP (h pos pins s σ H _ I hq) fun us s1 ⟨xs,H1,I1,r,z,q⟩=>⟨by rw[←r.length];exact z,?_⟩);have hf:H1 s1.heap.objs.size=none:=I1.hok.fresh (VL _);refine⟨.ref s1.heap.objs.size,b6 H1 s1.heap.objs.size (.lst xs),I1.laid (t':=s1.toks) (fun b u e=>VH _ e) (VL _) ?_,rfl,q _ hf⟩;exact⟨z,us,0,r,VZ _ rfl⟩
end
abbrev Sp:=List V->Hp->VK->XK->Prop
abbrev FH:=Zy->Hp->Shared->XK->Zm
structure Bp (P:Program) (w:World) (K:Zl) (mg:Zn) (base:Heap) (A:Around) (outer:Zy) (s:Shared) (H:Hp):Prop where
 frames:A.frames=some outer
 mod:Mod K mg base
 bs:∀b o,base.get? b=some o->s.heap.get? b=some o/\H b=none
 bsz:base.objs.size<=s.heap.objs.size
 funs:s.heap.FunFrames base outer
 frf:∀b∈oR outer,H b=none
 hok:jn P w H s.heap
 bare:AllBare s.gens
def CE (outer:Zy) (P:Program) (w:World) (H:Hp) (s:Shared) (Q:VK) (u:Value) (s':Shared):Prop :=
 ∃v H',s'.os=s.os/\AllBare s'.gens/\Un (oR outer) [] H H' s.heap s'.heap/\jn P w H' s'.heap/\aV v u/\Q v H'
def CR (CX:FH) (outer:Zy) (P:Program) (w:World) (H:Hp) (s:Shared) (Q:VK) (E:XK) (r:Result) (s':Shared):Prop :=
 match r with
 |.ok (.ret u)=>CE outer P w H s Q u s'
 |.ok _=>False
 |.error e=>CX outer H s E e s'
structure ei (P:Program) (w:World) (K:Zl) (mg:Zn) (base:Heap) (CX:FH) (k:Nat) (f:Addr) (fd:FuncData) (ps:Zv) (sp:Sp):Prop where
 len:∀vs H Q E,sp vs H Q E->vs.length=ps.length
 run:∀(A:Around) (outer:Zy) (s:Shared) (H:Hp) (args:Args) (us:Zt) (vs:List V) (Q:VK) (E:XK),aQ k A->Bp P w K mg base A outer s H->BindsTo s fd args (ps.zip us)->aW vs us->sp vs H Q E ->
  codeAny (model P w) A (.call (.ref f) args) (CR CX outer P w H s Q E) s
theorem Bp.make {P:Program}{w:World}{K:Zl}{mg:Zn}{base:Heap}{A:Around}{outer:Zy}{s:Shared}{H:Hp}(e:Bp P w K mg base A outer s H) (C:Addr) (us:Zt) (kw:Zq) :
  Bp P w K mg base (A.under (.builtin "type.__call__" ⟨.ref C::us,kw⟩)) outer s H:=⟨by first|exact e.frames|(simpa[Around.under,Code.envs,Code.isFrame,pushEnvs] using e.frames),e.mod,e.bs,e.bsz,e.funs,e.frf,e.hok,e.bare⟩
section
variable {X:Cx}{pins:Zo}{σ:St}{H:Hp}{s s':Shared}
theorem Inv.env0 (I:Inv X pins σ H s):Bp X.prog X.w X.K X.mg X.base X.A X.stack s H :=
 ⟨I.ok.frames,I.ok.mod,I.bs,Wh I.ok.bsz I.sz,I.stack,I.stkFree,I.hok,I.bare⟩
theorem Inv.after {Q:VK}{u:Value}(I:Inv X pins σ H s) (h:CE X.stack X.prog X.w H s Q u s'):EP X pins σ Q u s':=by
 obtain⟨v,H',os,bare,un,hok,r,q⟩:=h;obtain⟨hh,g,d,t,os'⟩:=s';obtain rfl:os'=s.os:=os;exact⟨v,H',I.call (h':=hh) (g':=g) (d':=d) (t':=t) (ch:=[]) un hok bare (fun b z=>absurd z (by simp)),r,q⟩
end
def MZ (sp:Sp) (dvs:List V) (E:XK) (t:TA):TE:=fun σ H Q=>t σ H fun vs H1=>sp (vs++dvs) H1 Q E
def Rw (C:Addr) (sp:Sp) (dvs:List V) (E:XK) (t:TA):TE:=fun σ H Q=>t σ H fun vs H1=>∀x dx,H1 x=none->H1 dx=none->dx≠x ->
 sp (.ref x::(vs++dvs)) (b6 (b6 H1 dx (.own x)) x (.ins C dx [])) (fun v H2=>v=.non/\Q (.ref x) H2) E
def jq (K:Zl) (fd:FuncData) (ps:Zv) (ds:Zt):Prop :=
 ∀(s:Shared) (us:Zt),K.In s.heap->(us++ds).length=ps.length->BindsTo s fd ⟨us,[]⟩ (ps.zip (us++ds))
theorem jq.all {K:Zl}{fd:FuncData}{ps:Zv}(h:∀us:Zt,us.length=ps.length->bindArgs fd ⟨us,[]⟩=pure (ps.zip us)):jq K fd ps []:=fun s us _ hl=>by
 rw[WC] at hl ⊢;exact .of_eq (h us hl)
def fW (CX:FH) (X:Cx) (E:XK):Prop:=∀(pins:Zo) (σ:St) (H:Hp) (s:Shared) (e:Value) (s':Shared),Inv X pins σ H s->CX X.stack H s E e s'->X.xe e s'
section
variable {X:Cx}{CX:FH}{k:Nat}{f C:Addr}{fd:FuncData}{ps:Zv}{sp:Sp}{dvs:List V}{ds:Zt}{E:XK}{x m:Str}{p pos apos:Pos}{e o:Expr}{es:Zx}{ta:TE}{t:TA}
theorem GK {pins:Zo}{σ:St}{H:Hp}{s:Shared}{Q:VK}{us:Zt}{vs:List V}(F:ei X.prog X.w X.K X.mg X.base CX k f fd ps sp) (hr:aQ k X.A) (hb:jq X.K fd ps ds) (hd:aW dvs ds) (hx:fW CX X E)
  (I:Inv X pins σ H s) (r:aW vs us) (h:sp (vs++dvs) H Q E):wpAny (model X.prog X.w) X.A (call (.ref f) us) (EP X pins σ Q) X.xe s:=by
 have r2:aW (vs++dvs) (us++ds):=r.append hd;have hl:(us++ds).length=ps.length:=by rw[←r2.length];exact F.len _ _ _ _ h
 refine Xy (Yy (F.run X.A X.stack s H ⟨us,[]⟩ (us++ds) (vs++dvs) Q E hr I.env0 (hb s us I.kIn hl) r2 h) fun r s' hq=>?_);cases r with
 |error e=>exact hx pins σ H s e s' I hq
 |ok fl =>
  cases fl with
  |ret u=>exact I.after hq
  |next=>exact False.elim hq
  |brk=>exact False.elim hq
  |cont=>exact False.elim hq
theorem BW (F:ei X.prog X.w X.K X.mg X.base CX k f fd ps sp) (hr:aQ k X.A) (hg:Gl X x) (hm:X.mg x=some (.ref f)) (hk:PySem.W.keepIn X.K (.ref f)=true) (hb:jq X.K fd ps ds) (hd:aW dvs ds) (hx:fW CX X E)
  (ha:PA X (e::es) t) (hdb:(x==("__debug__":Str))=false:=by decide) (he:starEach (e::es) X.env=(false,eval e X.env)::starEach es X.env:=by rfl) (hpl:(backTo pos (starEach es X.env)).any (·.1)=false:=by rfl) :
  PE X (.Call (.Name x p) (e::es) [] pos) (MZ sp dvs E t):=by
 intro pins s σ H Q I h;refine X1 (gc I hg hm ?_ hdb);refine PySem.W.callWith_K (h₀:=X.base) I.ok.mod.kin hk (bP (ha pos pins s σ H _ I h) fun us s1 ⟨vs,H1,I1,r,q⟩=>⟨I1.kIn,?_⟩) he hpl;exact GK F hr hb hd hx I1 r q
theorem Hl (F:ei X.prog X.w X.K X.mg X.base CX k f fd ps sp) (hr:aQ k X.A) (hg:Gl X x) (hm:X.mg x=some (.ref f)) (hk:PySem.W.keepIn X.K (.ref f)=true) (hb:jq X.K fd ps ds) (hd:aW dvs ds) (hx:fW CX X E)
  (hdb:(x==("__debug__":Str))=false:=by decide):PE X (.Call (.Name x p) [] [] pos) (MZ sp dvs E Os):=by
 intro pins s σ H Q I h;refine X1 (gc I hg hm ?_ hdb);exact PySem.W.callWith_K0 I.kIn hk (GK (us:=[]) F hr hb hd hx I .nil h)
structure Mk (K:Zl) (C f:Addr):Prop where
 makes:PySem.W.makesIn K C=true
 init:PySem.W.findIn K (.ref C) "__init__"=some (some (.ref f))
 fn:PySem.W.isFn K (.ref f)=true
 kp:PySem.W.keepIn K (.ref C)=true
theorem GJ {pins:Zo}{σ:St}{H:Hp}{s:Shared}{Q:VK}{us:Zt}{vs:List V}(M:Mk X.K C f) (F:ei X.prog X.w X.K X.mg X.base CX k f fd ps sp) (hr:aQ (k+1) X.A) (hb:jq X.K fd ps ds) (hd:aW dvs ds)
  (hx:fW CX X E) (I:Inv X pins σ H s) (r:aW vs us)
  (h:∀x dx,H x=none->H dx=none->dx≠x->sp (.ref x::(vs++dvs)) (b6 (b6 H dx (.own x)) x (.ins C dx [])) (fun v H2=>v=.non/\Q (.ref x) H2) E) :
  wpAny (model X.prog X.w) X.A (call (.ref C) us) (EP X pins σ Q) X.xe s:=by
 have hq:=h (s.heap.objs.size+1) s.heap.objs.size (I.hok.fresh (Y0 _)) (I.hok.fresh (VL _)) (W3 (YO _));have I2:=Inv.made (C:=C) I;have r2:aW (V.ref (s.heap.objs.size+1)::(vs++dvs)) (Value.ref (s.heap.objs.size+1)::(us++ds)):=.cons rfl (r.append hd);have hl:(Value.ref (s.heap.objs.size+1)::us++ds).length=ps.length:=by
  have e:=r2.length;rw[F.len _ _ _ _ hq] at e;exact e.symm
 refine Xy (Iw (f:=f) I.kIn M.makes M.init (beq_iff_eq.mp M.fn) (Yy (F.run _ X.stack _ _ ⟨Value.ref (s.heap.objs.size+1)::us,[]⟩ (Value.ref (s.heap.objs.size+1)::(us++ds)) _ _ E (hr.make C us [])
  (I2.env0.make C us []) (hb _ (Value.ref (s.heap.objs.size+1)::us) I2.kIn hl) r2 hq) fun r s' hq'=>?_))
 cases r with
 |error e=>exact hx pins σ _ _ e s' I2 hq'
 |ok fl =>
  cases fl with
  |ret u =>
   obtain⟨v,H',I3,rv,ev,q3⟩:=I2.after hq';subst ev;exact⟨rv,⟨V.ref (s.heap.objs.size+1),H',I3,rfl,q3⟩⟩
  |next=>exact False.elim hq'
  |brk=>exact False.elim hq'
  |cont=>exact False.elim hq'
theorem He (M:Mk X.K C f) (F:ei X.prog X.w X.K X.mg X.base CX k f fd ps sp) (hr:aQ (k+1) X.A) (hg:Gl X x) (hm:X.mg x=some (.ref C)) (hb:jq X.K fd ps ds) (hd:aW dvs ds) (hx:fW CX X E)
  (hdb:(x==("__debug__":Str))=false:=by decide):PE X (.Call (.Name x p) [] [] pos) (Rw C sp dvs E Os):=by
 intro pins s σ H Q I h;refine X1 (gc I hg hm ?_ hdb);exact PySem.W.callWith_K0 I.kIn M.kp (GJ (us:=[]) M F hr hb hd hx I .nil h)
end
section
variable {X:Cx}{CX:FH}{k:Nat}{f C:Addr}{fd:FuncData}{ps ks:Zv}{sp:Sp}{E:XK}{x m:Str}{p pos apos kpos:Pos}{e o:Expr}{es:Zx}{kws:List Keyword}{te ta:TE}{t tk:TA}{nm:Option Str}
variable {g:Zt->Zt->Zt}{gV:List V->List V->List V}
end
structure cX (N P:Zv) (sc:Scope):Prop where
 kind:sc.kind=.function
 co:sc.isCoroutine=false
 gen:sc.isGenerator=false
 nd:N.Nodup
 pre:N.take P.length=P
 par:∀x∈P,sc.names.lookup x=some .local\/sc.names.lookup x=some .cell
 nofree:∀y∈sc.names,y.2≠.free
theorem uA {kindOf:Str->Option NameKind}{x:Str}:∀{binds:Zq}{m:Zn},(∀v,(x,v)∉binds)->bindL kindOf binds m x=m x
 |[],_,_=>rfl
 |(n,v)::r,m,h=>by
  unfold bindL;rw[uA fun w hw=>h w (W6 _ hw)];split
  ·have:x≠n:=by rintro rfl;exact h v Wg
   simp[this]
  ·rfl
theorem uC {kindOf:Str->Option NameKind}{x:Str}:∀{binds:Zq}{m:Zn},(∀v,(x,v)∉binds)->bindC kindOf binds m x=m x
 |[],_,_=>rfl
 |(n,v)::r,m,h=>by
  unfold bindC;rw[uC fun w hw=>h w (W6 _ hw)];split
  ·rfl
  ·have:x≠n:=by rintro rfl;exact h v Wg
   simp[this]
theorem uB {kindOf:Str->Option NameKind}{x:Str}{v:Value}:∀{P:Zv}{vs:Zt}{i:Nat}{m:Zn},P.Nodup->P[i]? =some x->vs[i]? =some v->kindOf x=some .local ->
  bindL kindOf (P.zip vs) m x=some v
 |[],_,_,_,_,h,_,_=>by simp at h
 |_::_,[],_,_,_,_,h,_=>by simp at h
 |p::P,w::vs,0,m,nd,h1,h2,hk=>by
  simp at h1 h2;subst h1;subst h2;show bindL kindOf ((p,w)::P.zip vs) m p=_;unfold bindL;rw[uA fun v hv=>(List.nodup_cons.mp nd).1 (Ze hv).1,VJ hk];simp
 |p::P,w::vs,i+1,m,nd,h1,h2,hk=>by
  show bindL kindOf ((p,w)::P.zip vs) m x=_;unfold bindL;exact uB (i:=i) (List.nodup_cons.mp nd).2 (by simpa using h1) (by simpa using h2) hk
theorem uD {kindOf:Str->Option NameKind}{x:Str}{v:Value}:∀{P:Zv}{vs:Zt}{i:Nat}{m:Zn},P.Nodup->P[i]? =some x->vs[i]? =some v->kindOf x≠some .local ->
  bindC kindOf (P.zip vs) m x=some v
 |[],_,_,_,_,h,_,_=>by simp at h
 |_::_,[],_,_,_,_,h,_=>by simp at h
 |p::P,w::vs,0,m,nd,h1,h2,hk=>by
  simp at h1 h2;subst h1;subst h2;show bindC kindOf ((p,w)::P.zip vs) m p=_;unfold bindC;rw[uC fun v hv=>(List.nodup_cons.mp nd).1 (Ze hv).1,VN hk];simp
 |p::P,w::vs,i+1,m,nd,h1,h2,hk=>by
  show bindC kindOf ((p,w)::P.zip vs) m x=_;unfold bindC;exact uD (i:=i) (List.nodup_cons.mp nd).2 (by simpa using h1) (by simpa using h2) hk
def start (N:Zv) (vs:List V):St:=vs.map some++List.replicate (N.length-vs.length) none
def fP (CX:FH) (P:Program) (w:World) (K:Zl) (mg:Zn) (base:Heap) (N:Zv) (qual:Str) (scope:Scope) (f:Addr) (cd:Value) (A:Around) (outer:Zy) (s:Shared) (H:Hp) (E:XK):Cx where
 prog:=P
 w:=w
 K:=K
 mg:=mg
 base:=base
 A:=A.deeper (envOfC qual scope s.heap.objs.size f cd)
 N:=N
 s₀:=s
 H₀:=H
 env:=envOfC qual scope s.heap.objs.size f cd
 outer:=outer
 stack:=envOfC qual scope s.heap.objs.size f cd::outer
 ex:=[]
 calm:=true
 fn:=fun _=>true
 pn:=[]
 xe:=fun e s'=>wpAny (model P w) (A.deeper (envOfC qual scope s.heap.objs.size f cd)) (leaving (envOfC qual scope s.heap.objs.size f cd) e) (fun _ s''=>CX outer H s E e s'') (fun e' s''=>CX outer H s E e' s'') s'
theorem zk {sc:Scope}{n:Nat}{x:Str}(h:sc.names.lookup x=some .cell):∃c,(cellsFrom n sc.names []).lookup x=some c:=by
 have q:=Z2 sc.names n [] (.inl h);exact Option.isSome_iff_exists.mp q
theorem EN {CX:FH}{P:Program}{w:World}{K:Zl}{mg:Zn}{base:Heap}{N ps:Zv}{qual:Str}{scope:Scope}{f:Addr}{cd:Value}{A:Around}{outer:Zy}{s s1:Shared}{H:Hp}{E:XK}{us:Zt}{vs:List V}
  (S:cX N ps scope) (hd:A.handled=none) (e0:Bp P w K mg base A outer s H) (hl:vs.length=ps.length) (r:aW vs us)
  (x:InCallC s s.heap.objs.size (bindL (envOfC qual scope s.heap.objs.size f cd).kindOf (ps.zip us) fun _=>none) (cellsFrom (s.heap.objs.size+1) scope.names []) (bindC (envOfC qual scope s.heap.objs.size f cd).kindOf (ps.zip us) fun _=>none) s1) :
  Inv (fP CX P w K mg base N qual scope f cd A outer s H E) [] (start N vs) H s1:=by
 have hpl:ps.length<=N.length:=by have:=congrArg List.length S.pre;rw[YQ] at this;omega
 obtain⟨h1,tk,rfl,hk⟩:=x.done;have noA:∀b:Addr,b∉(fP CX P w K mg base N qual scope f cd A outer s H E).ex:=fun b z=>absurd (show b∈([]:Zr) from z) (by simp)
 refine⟨⟨e0.mod,S.kind,rfl,rfl,VL _,fun y z c h1 h2=>?_,fun y hy=>?_,fun y c _ h=>?_,fun _=>hd,Around.frames_deeper e0.frames,.inr ⟨rfl,rfl⟩,fun b z=>absurd z (noA b),e0.bs,e0.bsz,fun b _ _=>noA b,fun b z=>absurd z (noA b),e0.funs,e0.frf⟩,
  rfl,e0.bare,Un.kept hk,⟨_,x.toInCall.ns,fun i y v h1 h2 h3=>?_⟩,fun y c h=>⟨_,x.cell y c h⟩,e0.hok.fresh (VL _),fun y c h=>?_,fun p hp=>absurd (show p∈([]:Zo) from hp) (by simp),e0.hok.kept hk,?_,fun _ e=>by cases(show(none:Option (Zn))=some _ from e)⟩
 ·exact name_of_addr x.apart (WX h1) (WX h2)
 ·have hy:scope.names.lookup y=some .cell\/scope.names.lookup y=some .free:=hy;rcases hy with hy|hy
  ·exact zk hy
  ·exact absurd rfl (S.nofree _ (WX hy))
 ·exact YY (x.above y c (WX h))
 ·have hi:i<vs.length:=by
   unfold start at h2;by_cases hi:i<vs.length
   ·exact hi
   ·rw[VQ (by simpa using hi)] at h2;rw[Xb] at h2;split at h2<;>cases h2
  have ha:vs[i]? =some v:=by
   unfold start at h2;rw[Wv (by simpa using hi),Wk] at h2;cases e:vs[i]? with
   |none=>rw[e] at h2;cases h2
   |some a=>rw[e] at h2;cases h2;rfl
  obtain⟨u,hu,rv⟩:=r.get ha;have hp:ps[i]? =some y:=by
   rw[←S.pre,List.getElem?_take_of_lt (by omega)];exact h1
  have ndP:ps.Nodup:=by rw[←S.pre];exact S.nd.sublist (List.take_sublist _ _)
  refine⟨u,rv,?_⟩;rcases S.par y (WF hp) with k|k
  ·exact .inl ⟨k,uB ndP hp hu k⟩
  ·obtain⟨c,e⟩:=zk (n:=s.heap.objs.size+1) k;refine .inr ⟨.inl k,c,e,?_⟩;have q:=x.cell y c e;rw[uD ndP hp hu (by show scope.names.lookup y≠_;rw[k];decide)] at q;exact q
 ·exact e0.hok.fresh (YY (x.above y c (WX h)))
 ·unfold start;show _=N.length;rw[Wy,VS,Yb];omega
theorem Je {CX:FH}{P:Program}{w:World}{K:Zl}{mg:Zn}{base:Heap}{k:Nat}{f:Addr}{name qual:Str}{params:Arguments}{body:Zz}{scope:Scope}{dV kV doc pm cdv ct oc:Value}{an od:Zw}
  {osl:Zp}{N ps:Zv}{sp:Sp}(lk:K.lookup f=some ⟨oc,od,.func (PySem.W.fnOf name qual params body scope dV kV doc pm an cdv ct),osl⟩) (hcd:PySem.W.codeIn K cdv qual=true) (S:cX N ps scope)
  (len:∀vs H Q E,sp vs H Q E->vs.length=ps.length)
  (hbody:∀(A:Around) (outer:Zy) (s:Shared) (H:Hp) (vs:List V) (Q:VK) (E:XK),aQ k (A.deeper (envOfC qual scope s.heap.objs.size f cdv))->sp vs H Q E ->
   ∃t,Dr (fP CX P w K mg base N qual scope f cdv A outer s H E) body t/\t { nx:=fun _ H'=>Q .non H',rt:=Q} (start N vs) H) :
  ei P w K mg base CX (k+1) f (PySem.W.fnOf name qual params body scope dV kV doc pm an cdv ct) ps sp:=by
 refine⟨len,fun A outer s H args us vs Q E hr e0 hb r hsp=>?_⟩;have hl:=len _ _ _ _ hsp;have KX:K.In s.heap:=e0.mod.kin.keeps fun b o e=>(e0.bs b o e).1
 have lim:s.heap.NoLimit:=e0.mod.nolimit.keeps fun b o e=>(e0.bs b o e).1
 have hkind:∀y∈ps.zip us,scope.names.lookup y.1=some .local\/(scope.names.lookup y.1=some .cell/\((cellsFrom (s.heap.objs.size+1) scope.names []).lookup y.1).isSome=true):=fun⟨n,v⟩ hy=>by
  rcases S.par n (Ze hy).1 with q|q
  ·exact .inl q
  ·exact .inr ⟨q,Z2 _ _ _ (.inl q)⟩
 refine codeAny_call_function hr.depth (KX _ _ lk) rfl S.co S.gen rfl (PySem.W.codeRec_of KX hcd) (hb _ _ _ _ ?_);refine wpAny_newFunctionEnv_cells S.kind hkind fun env he s1 x=>?_
 subst he;refine⟨lim.keeps x.toInCall.keep,codeAny_func ?_⟩;obtain⟨t,ht,hq⟩:=hbody A outer s H vs Q E (hr.deeper _) hsp;have I:Inv (fP CX P w K mg base N qual scope f cdv A outer s H E) [] (start N vs) H s1:=EN S hr.hd e0 hl r x;refine Wj (ht [] s1 (start N vs) H _ I hq) (fun fl s' hs=>?_) fun e s' hs=>hs
 have fin:∀{σ':St}{H':Hp}{v:V}{u:Value},Inv (fP CX P w K mg base N qual scope f cdv A outer s H E) [] σ' H' s'->aV v u->Q v H'->CE outer P w H s Q u s' :=
  fun{σ' H' v u} J rv q=>⟨v,H',J.os,J.bare,J.base,J.hok,rv,q⟩
 cases fl with
 |ret u =>
  obtain⟨v,σ',H',J,rv,q⟩:=hs;exact fin J rv q
 |next =>
  obtain⟨σ',H',J,q⟩:=hs;exact fin (v:=V.non) (u:=Value.none) J rfl q
 |brk =>
  obtain⟨_,_,_,q⟩:=hs;exact False.elim q
 |cont =>
  obtain⟨_,_,_,q⟩:=hs;exact False.elim q
section
variable {X:Cx}{x:Str}{p pos:Pos}{e:Expr}{es:Zx}{t:TA}{id T:String}{r:List V->Hp->VK->Prop}
def Uv (r:List V->Hp->VK->Prop) (t:TA):TE:=fun σ H Q=>t σ H fun vs H1=>r vs H1 Q
theorem qE (hc:gP X (.builtin id) r) (hg:Gl X x) (hm:X.mg x=none) (hv:bootBuiltins x=some (.builtin id)) (ha:PA X (e::es) t) (hn:x≠"__name__":=by decide) (hdb:(x==("__debug__":Str))=false:=by decide)
  (he:starEach (e::es) X.env=(false,eval e X.env)::starEach es X.env:=by rfl) (hpl:(backTo pos (starEach es X.env)).any (·.1)=false:=by rfl):PE X (.Call (.Name x p) (e::es) [] pos) (Uv r t):=by
 intro pins s σ H Q I h;refine X1 (jU I hg hm hv ?_ hn hdb);exact Ye (bP (ha pos pins s σ H _ I h) fun us s1 ⟨vs,H1,I1,r1,q1⟩=>hc pins s1 σ H1 vs us Q I1 r1 q1) he hpl
theorem E8 (hc:gP X (.type T) r) (hg:Gl X x) (hm:X.mg x=none) (hv:bootBuiltins x=some (.type T)) (ha:PA X (e::es) t) (hn:x≠"__name__":=by decide) (hdb:(x==("__debug__":Str))=false:=by decide)
  (he:starEach (e::es) X.env=(false,eval e X.env)::starEach es X.env:=by rfl) (hpl:(backTo pos (starEach es X.env)).any (·.1)=false:=by rfl):PE X (.Call (.Name x p) (e::es) [] pos) (Uv r t):=by
 intro pins s σ H Q I h;refine X1 (jU I hg hm hv ?_ hn hdb);exact WE (bP (ha pos pins s σ H _ I h) fun us s1 ⟨vs,H1,I1,r1,q1⟩=>hc pins s1 σ H1 vs us Q I1 r1 q1) he hpl
end
end L2
namespace HT
open PySem PyProof.Rows
section
open PySem.SeqAt
open PySem.AutoSeq1 (wpAny_loadPart')
open PySem.MeetsSeq PySem.MeetsSeq2 PySem.MeetsSeq3
end
section
variable {prog:Program}{w:World}{A:Around}{E:Zm}{s:Shared}
theorem cat_tup {t b:Addr}{vs ws:Zt}{Q:Zm}(ht:IsTup s.heap t vs.toArray) (hb:IsTup s.heap b ws.toArray) (hv:vs≠[])
  (h1:ws=[]->Q (.ref t) s) (h2:ws≠[]->Q (.ref s.heap.objs.size) { s with heap:=s.heap.push { cls:=.type "tuple",data:=.seq (vs++ws).toArray}})
  (hsz:vs.length+ws.length<=sizeLine):wpAny (model prog w) A (binaryOp .Add (.ref t) (.ref b)) Q E s:=by
 obtain⟨⟨cls,dd,data,sl⟩,ho,hc,n,hd⟩:=id ht;obtain⟨⟨cls2,dd2,data2,sl2⟩,ho2,hc2,n2,hd2⟩:=id hb;simp only at hc hd hc2 hd2;subst hc hd hc2 hd2;have e:vs.toArray++ws.toArray=(vs++ws).toArray:=by simp
 by_cases hw:ws=[]
 ·exact Z3 ⟨_,ho,rfl⟩ ⟨_,ho2,rfl⟩ YR seq_tuple_add Y3 Y1 (XN _ _)
   (tuple_addW1 t b vs.toArray ws.toArray n n2 dd dd2 sl sl2 (by simpa using hv) (by simp[hw])) ⟨ho,ho2,h1 hw⟩
 ·refine Z3 ⟨_,ho,rfl⟩ ⟨_,ho2,rfl⟩ YR seq_tuple_add Y3 Y1 (XN _ _)
   (tuple_addW2 t b vs.toArray ws.toArray n n2 dd dd2 sl sl2 (by simpa using hv) (by simpa using hw) (by rw[VT,VT];exact hsz)) ⟨ho,ho2,?_⟩
  rw[e];exact h2 hw
def sIx (n d:Nat):Option Int->Nat
 |none=>d
 |some v=>if v<0 then(v+(n:Int)).toNat else min v.toNat n
theorem sIx_nat (n d k:Nat):sIx n d (some (k:Int))=min k n:=by
 show(if(k:Int)<0 then((k:Int)+(n:Int)).toNat else min (k:Int).toNat n)=min k n;rw[VN (by omega),X5]
theorem ON (n d:Nat) (hd:d<=n) (o:Option Int):sIx n d o<=n:=by
 cases o with
 |none=>exact hd
 |some v =>
  show(if v<0 then(v+(n:Int)).toNat else min v.toNat n)<=n;by_cases hv:v<0
  ·rw[VJ hv];omega
  ·rw[VN hv];exact Nat.min_le_right _ _
theorem Df (v:Int) (n d:Nat):(if v<0 then max (v+(n:Int)) 0 else min v (n:Int))=((sIx n d (some v):Nat):Int):=by
 show(if v<0 then max (v+(n:Int)) 0 else min v (n:Int))=(((if v<0 then(v+(n:Int)).toNat else min v.toNat n):Nat):Int);by_cases hv:v<0
 ·simp only[VJ hv];omega
 ·simp only[VN hv];omega
theorem Bn (lo hi:Option Int) (n:Nat):Builtin.Slice.sliceAdjust lo hi 1 (n:Int)=(((sIx n 0 lo:Nat):Int),((sIx n n hi:Nat):Int)):=by
 have h1:¬((1:Int)<0):=by omega
 unfold Builtin.Slice.sliceAdjust;simp only[h1,XO];refine Prod.ext ?_ ?_
 ·cases lo with
  |none=>rfl
  |some v=>exact Df v n 0
 ·cases hi with
  |none=>rfl
  |some v=>exact Df v n n
theorem Aw (i j:Nat):Builtin.Slice.slicePlaces (i:Int) (j:Int) 1=j-i:=by
 unfold Builtin.Slice.slicePlaces;have h1:(1:Int)>0:=by omega
 simp only[h1,Xt,Int.ediv_one];split<;>omega
theorem qr {v:Value}{o:Option Int}{Q:Option Int->Shared->Prop}(p:IsPart v o) (h:Q o s):wpAny (model prog w) A (Builtin.Slice.slicePartIndex v) Q E s:=by
 cases p with
 |none=>exact slicePart_none h
 |int i t=>exact slicePart_int h
theorem nj {sl:Addr}{vl vu:Value}{lo hi:Option Int}{n:Nat}{Q:Int×Int×Nat->Shared->Prop}(hs:s.heap.IsSliceOf sl vl vu .none) (pl:IsPart vl lo) (pu:IsPart vu hi)
  (h:Q (((sIx n 0 lo:Nat):Int),1,sIx n n hi-sIx n 0 lo) s):wpAny (model prog w) A (Builtin.Slice.sliceApplied (.ref sl) (pure (n:Int))) Q E s:=by
 obtain⟨os,hos,hcs,hds⟩:=id hs;unfold Builtin.Slice.sliceApplied Builtin.Slice.sliceFields;refine VG (VG (Wq hos hds (x:=vl) rfl (VG (Wq hos hds (x:=vu) rfl (VG (Wq hos hds (x:=.none) rfl (VO ?_)))))));refine VG (slicePart_none ?_);show wpAny _ _ (if((1:Int)==0)=true then _ else _) _ _ s;rw[VN (by decide)];refine VG (qr pl (VG (qr pu (VG (VO ?_)))));show wpAny _ _ (match Builtin.Slice.sliceAdjust lo hi 1 (n:Int) with|(lo,hi)=>pure (lo,(1:Int),Builtin.Slice.slicePlaces lo hi 1)) _ _ s;rw[Bn lo hi n];show wpAny _ _ (pure (((sIx n 0 lo:Nat):Int),(1:Int),Builtin.Slice.slicePlaces ((sIx n 0 lo:Nat):Int) ((sIx n n hi:Nat):Int) 1)) _ _ s;rw[Aw];exact VO h
theorem H8 (xs:ZB) (i k:Nat):((List.range k).filterMap fun(m:Nat)=>xs[((i:Int)+(m:Int)*1).toNat]?).toArray=((xs.toList.drop i).take k).toArray:=by
 have e:(fun(m:Nat)=>xs[((i:Int)+(m:Int)*1).toNat]?)=fun m=>xs[i+m]?:=by
  funext m
  have:((i:Int)+(m:Int)*1).toNat=i+m:=by omega
  rw[this]
 rw[e];have:=pick_run xs i k;rw[List.filterMap_map] at this;have e2:((fun x=>xs[x]?) ∘ fun x=>i+x)=fun m=>xs[i+m]?:=rfl
 rw[e2] at this;rw[this]
theorem getItem_tuple_cut {t sl:Addr}{items:ZB}{vl vu:Value}{lo hi:Option Int}{Q:Zm}(ht:IsTup s.heap t items) (hs:s.heap.IsSliceOf sl vl vu .none) (pl:IsPart vl lo) (pu:IsPart vu hi)
  (hw:¬(sIx items.size 0 lo=0/\sIx items.size items.size hi=items.size))
  (h:Q (.ref s.heap.objs.size) { s with heap:=s.heap.push { cls:=.type "tuple",data:=.seq ((items.toList.drop (sIx items.size 0 lo)).take (sIx items.size items.size hi-sIx items.size 0 lo)).toArray}})
  (hsz:items.size<=sizeLine):wpAny (model prog w) A (getItem (.ref t) (.ref sl)) Q E s:=by
 have htake:sizeOk (.seq ((items.toList.drop (sIx items.size 0 lo)).take (sIx items.size items.size hi-sIx items.size 0 lo)).toArray):=by
  show((items.toList.drop (sIx items.size 0 lo)).take (sIx items.size items.size hi-sIx items.size 0 lo)).toArray.size<=sizeLine;rw[VT,YQ,YS,Yv];omega
 have hj:sIx items.size items.size hi<=items.size:=ON _ _ (VL _) hi;obtain⟨os,hos,hcs,hds⟩:=id hs;have hTs:s.TypeIs (.ref sl) "slice":=⟨os,hos,hcs⟩
 unfold getItem
 try with_reducible refine WD ?_
 first|refine VG (VO ?_)|skip
 refine VG (wpAny_sequenceKey ht.typeIs (by decide) ?_);refine VG (Xc (name:=Str.ofString "__getitem__") ht.typeIs Ya
  (Yf Ya ht.typeIs entry_tuple_getitem ?_ (args_tuple_getitem _ _)))
 show wpAny _ _ (Builtin.Tuple.tupleItemsOf (.ref t) >>= _) _ _ s;refine VG (tupleItemsOf_ ht ?_);refine VG (Yz hTs ?_);rw[VJ (by decide)];refine VG (nj hs pl pu ?_);have hno:¬((((sIx items.size 0 lo:Nat):Int)==0&&(1:Int)==1&&(sIx items.size items.size hi-sIx items.size 0 lo)==items.size)=true):=by
  intro q;rw[W0,W0] at q;have q1:((sIx items.size 0 lo:Nat):Int)=0:=eq_of_beq q.1.1;have q2:sIx items.size items.size hi-sIx items.size 0 lo=items.size:=eq_of_beq q.2;exact hw ⟨by omega,by omega⟩
 show wpAny _ _ (if(((sIx items.size 0 lo:Nat):Int)==0&&(1:Int)==1&&(sIx items.size items.size hi-sIx items.size 0 lo)==items.size)=true then _ else _) _ _ s;rw[VN hno,H8]
 first
  |exact VG (m:=Builtin.Tuple.tupleExact _) (WB (VO ⟨_,rfl,VO h⟩) htake)
  |exact VG (m:=Builtin.Tuple.tupleExact _) (WB (VG (VO (VO ⟨_,rfl,VO h⟩))) htake)
  |exact VG (VG (m:=Builtin.Tuple.tupleExact _) (WB (VO (VO ⟨_,rfl,VO h⟩)) htake))
  |exact VG (VG (m:=Builtin.Tuple.tupleExact _) (WB (VO ⟨_,rfl,VO h⟩) htake))
end
end HT
namespace L2
open PySem PySem.Spec PyProof.Rows
abbrev TO:=St->Hp->(Option Int->Hp->Prop)->Prop
def PO (X:Cx) (e:Option Expr) (t:TO):Prop :=
 ∀(pins:Zo) (s:Shared) (σ:St) (H:Hp) (Q:Option Int->Hp->Prop),Inv X pins σ H s->t σ H Q ->
  wpAny (model X.prog X.w) X.A (evalPart e X.env) (fun u s'=>∃o H',Inv X pins σ H' s'/\IsPart u o/\Q o H') X.xe s
def Km:TO:=fun _ H Q=>Q none H
def Rs (t:TE):TO:=fun σ H Q=>t σ H fun x H1=>∃i,x=.int i/\Q (some i) H1
section
variable {X:Cx}{e:Expr}{te:TE}{lo hi:Option Expr}{tl th:TO}{pos p2:Pos}
theorem KM:PO X none Km:=by
 intro pins s σ H Q I h;rw[evalPart_none];exact VO ⟨none,H,I,.none,h⟩
theorem KL (h:PE X e te):PO X (some e) (Rs te):=by
 intro pins s σ H Q I hw;rw[evalPart_some];refine bP (h pins s σ H _ I hw) fun u s1 ⟨x,H1,I1,r1,q1⟩=>?_
 obtain⟨i,rfl,q⟩:=q1;obtain⟨t,rfl⟩:=r1;exact⟨some i,H1,I1,.int i t,q⟩
def NW (X:Cx) (r:V->Option Int->Option Int->Hp->VK->Prop):Prop :=
 ∀(pins:Zo) (s:Shared) (σ:St) (H:Hp) (x:V) (v vl vu:Value) (lo hi:Option Int) (sl:Addr) (Q:VK),Inv X pins σ H s->aV x v->s.heap.IsSliceOf sl vl vu .none->IsPart vl lo->IsPart vu hi->r x lo hi H Q ->
  ∃T id,typeLookup (.type T) "__getitem__"=pure (some (.builtin id))/\s.TypeIs v T/\wpAny (model X.prog X.w) X.A (getItem v (.ref sl)) (EP X pins σ Q) X.xe s
theorem NW.or {r r':V->Option Int->Option Int->Hp->VK->Prop}(h:NW X r) (h':NW X r'):NW X (fun x lo hi H Q=>r x lo hi H Q\/r' x lo hi H Q):=by
 intro pins s σ H x v vl vu lo hi sl Q I rx hs pl pu q;rcases q with q|q
 ·exact h pins s σ H x v vl vu lo hi sl Q I rx hs pl pu q
 ·exact h' pins s σ H x v vl vu lo hi sl Q I rx hs pl pu q
def Vo (r:V->Option Int->Option Int->Hp->VK->Prop) (te:TE) (tl th:TO):TE:=fun σ H Q=>te σ H fun x H1=>tl σ H1 fun l H2=>th σ H2 fun u H3=>r x l u H3 Q
theorem Hb {r:V->Option Int->Option Int->Hp->VK->Prop}(hr:NW X r) (he:PE X e te) (hl:PO X lo tl) (hu:PO X hi th):PE X (.Subscript e (.Slice lo hi none p2) pos) (Vo r te tl th):=by
 intro pins s σ H Q I h;refine Subscript_ (bP (he pins s σ H _ I h) fun v s1 ⟨x,H1,I1,r1,q1⟩=>?_);refine wpAny_Slice (bP (hl pins s1 σ H1 _ I1 q1) fun vl s2 ⟨l,H2,I2,pl,q2⟩=>bP (hu pins s2 σ H2 _ I2 q2) fun vu s3 ⟨u,H3,I3,pu,q3⟩=>?_);rw[evalPart_none];refine VO ?_;have I4:Inv X pins σ H3 { s3 with heap:=s3.heap.push { cls:=.type "slice",data:=.fields #[vl,vu,.none]}}:=I3.kept (t':=s3.toks) fun b ob q=>VH _ q
 obtain⟨T,id,hT,ht,hg⟩:=hr pins { s3 with heap:=s3.heap.push { cls:=.type "slice",data:=.fields #[vl,vu,.none]}} σ H3 x v vl vu l u s3.heap.objs.size Q I4 r1 (Heap.IsSliceOf.new ..) pl pu q3;show wpAny (model X.prog X.w) X.A (subscriptTail e (.Slice lo hi none p2) v (.ref s3.heap.objs.size)) (EP X pins σ Q) X.xe { s3 with heap:=s3.heap.push { cls:=.type "slice",data:=.fields #[vl,vu,.none]}};exact tail_any (ops:=[.ref s3.heap.objs.size,v]) ht hT hg (by with_unfolding_all rfl)
def zh (xs:List V) (lo hi:Option Int):List V:=(xs.drop (HT.sIx xs.length 0 lo)).take (HT.sIx xs.length xs.length hi-HT.sIx xs.length 0 lo)
theorem oG (xs:List V) (lo hi:Option Int):(zh xs lo hi).length<=xs.length:=by
 unfold zh;rw[YQ,YS];omega
def Uz (K:Zl):V->Option Int->Option Int->Hp->VK->Prop:=fun x lo hi H Q=>∃a xs,x=.ref a/\SqT K H a xs /\
 ¬(HT.sIx xs.length 0 lo=0/\HT.sIx xs.length xs.length hi=xs.length)/\∀p,H p=none->Q (.ref p) (b6 H p (.tup (zh xs lo hi)))
theorem OF:NW X (Uz X.K):=by
 intro pins s σ H x v vl vu lo hi sl Q I rx hs pl pu h;obtain⟨a,xs,rfl,hx,hw,q⟩:=h;cases rx;obtain⟨its,r,ht,hz⟩:=I.tuple hx;have hlen:its.toArray.size=xs.length:=by rw[VT];exact r.length.symm
 refine⟨"tuple",_,PyProof.Rows.slot_tuple_getitem.lookup,ht.typeIs,?_⟩;refine HT.getItem_tuple_cut ht hs pl pu (by rw[hlen];exact hw) ?_ (by rw[hlen];exact hz);rw[hlen];refine⟨.ref s.heap.objs.size,_,I.laid (t':=s.toks) (o:=.tup (zh xs lo hi)) (fun b ob q=>VH _ q) (VL _) ?_,rfl,q _ (I.hok.fresh (VL _))⟩;exact⟨Wh (oG xs lo hi) hz,_,(r.drop (HT.sIx xs.length 0 lo)).take (HT.sIx xs.length xs.length hi-HT.sIx xs.length 0 lo),IsTup.new _ _⟩
def RY (K:Zl):R2:=fun x y H Q=>∃a b xs ys,x=.ref a/\y=.ref b/\SqT K H a xs/\SqT K H b ys/\xs≠[]/\xs.length+ys.length<=sizeLine /\
 (ys=[]->Q (.ref a) H)/\(ys≠[]->∀p,H p=none->Q (.ref p) (b6 H p (.tup (xs++ys))))
theorem aW.nil_iff {xs:List V}{us:Zt}(r:aW xs us):us=[]↔xs=[]:=by
 cases r with
 |nil=>simp
 |cons _ _=>simp
theorem L9:jl X (binaryOp .Add) (RY X.K):=by
 intro pins s σ H x y v u Q I rx ry h;obtain⟨a,b,xs,ys,rfl,rfl,ha,hb,hx,hz,q1,q2⟩:=h;cases rx;cases ry;obtain⟨its,r1,p1,_⟩:=I.tuple ha;obtain⟨its2,r2,p2,_⟩:=I.tuple hb;refine HT.cat_tup p1 p2 (fun z=>hx (r1.nil_iff.mp z)) (fun z=>⟨.ref a,H,I,rfl,q1 (r2.nil_iff.mp z)⟩) (fun z=>?_) (by rw[←r1.length,←r2.length];exact hz);refine⟨.ref s.heap.objs.size,_,I.laid (t':=s.toks) (o:=.tup (xs++ys)) (fun b ob q=>VH _ q) (VL _) ?_,rfl,q2 (fun w=>z (r2.nil_iff.mpr w)) _ (I.hok.fresh (VL _))⟩;exact⟨by rw[Wy];exact hz,_,r1.append r2,IsTup.new _ _⟩
end
def FF (n:Nat) (i:Int):Option Nat:=if 0<=i then(if i<n then some i.toNat else none) else if -(n:Int)<=i then some (i+n).toNat else none
def atI {O:Type}(xs:List O) (i:Int):Option O:=(FF xs.length i).bind fun j=>xs[j]?
theorem Cw {n:Nat}{i:Int}{j:Nat}(h:FF n i=some j):seqIndex? i n=some j/\j<n/\ -(n:Int)<=i/\i<n:=by
 unfold FF at h;by_cases h0:0<=i
 ·rw[VJ h0] at h;by_cases h1:i<n
  ·rw[VJ h1] at h;have e:i.toNat=j:=Option.some.inj h;exact⟨by rw[seqIndex_of h0 h1,e],by omega,by omega,h1⟩
  ·rw[VN h1] at h;cases h
 ·rw[VN h0] at h;by_cases h1:-(n:Int)<=i
  ·rw[VJ h1] at h;have e:(i+n).toNat=j:=Option.some.inj h;exact⟨by rw[seqIndex_neg (by omega) h1,e],by omega,h1,by omega⟩
  ·rw[VN h1] at h;cases h
theorem wH {O:Type}{xs:List O}{i:Int}{v:O}(h:atI xs i=some v):∃j,seqIndex? i xs.length=some j/\xs[j]? =some v/\j<xs.length/\ -(xs.length:Int)<=i/\i<xs.length:=by
 unfold atI at h;cases e:FF xs.length i with
 |none=>rw[e] at h;cases h
 |some j =>
  rw[e] at h;obtain⟨h1,h2,h3,h4⟩:=Cw e;exact⟨j,h1,h,h2,h3,h4⟩
def Dq (b:Expr):Prop:=∀o i,subscripted b false o i=operate [o,i] (getItem o i)
def MM (X:Cx) (r:R2):Prop :=
 ∀(value slice:Expr) (pins:Zo) (s:Shared) (σ:St) (H:Hp) (x y:V) (v u:Value) (Q:VK),Inv X pins σ H s->aV x v->aV y u->r x y H Q ->
  subscripted slice false v u=operate [v,u] (getItem v u)->wpAny (model X.prog X.w) X.A (subscriptTail value slice v u) (EP X pins σ Q) X.xe s
def VE (X:Cx) (id:String) (r:V->List V->Hp->VK->Prop):Prop :=
 ∀(pins:Zo) (s:Shared) (σ:St) (H:Hp) (x:V) (xs:List V) (v:Value) (us:Zt) (Q:VK),Inv X pins σ H s->aV x v->aW xs us->r x xs H Q ->
  wpAny (model X.prog X.w) X.A (call (.builtin id) (v::us)) (EP X pins σ Q) X.xe s
section
variable {X:Cx}{a b:Expr}{ta tb:TE}{pos:Pos}
theorem MM.or {r r':R2}(h:MM X r) (h':MM X r'):MM X (fun x y H Q=>r x y H Q\/r' x y H Q):=by
 intro value slice pins s σ H x y v u Q I rx ry q hs;rcases q with q|q
 ·exact h value slice pins s σ H x y v u Q I rx ry q hs
 ·exact h' value slice pins s σ H x y v u Q I rx ry q hs
theorem Sa {r:R2}(hr:MM X r) (ha:PE X a ta) (hb:PE X b tb) (hs:Dq b):PE X (.Subscript a b pos) (Rt r ta tb):=by
 intro pins s σ H Q I h;exact Subscript_ (QL ha hb I h fun v u s2 x y H2 I2 rx ry q=>hr a b pins s2 σ H2 x y v u Q I2 rx ry q (hs _ _))
def RW (K:Zl):R2:=fun x y H Q=>∃p xs i v,x=.ref p/\y=.int i/\gR K H p xs/\atI xs i=some v/\Q v H
def RU (K:Zl):R2:=fun x y H Q=>∃p xs i v,x=.ref p/\y=.int i/\SqT K H p xs/\atI xs i=some v/\Q v H
def RV:R2:=fun x y H Q=>∃z i c,x=.str z/\y=.int i/\z.length<=sizeLine/\atI z.cps.toList i=some c/\Q (.str ⟨#[c]⟩) H
theorem LX:MM X (RW X.K):=by
 intro value slice pins s σ H x y v u Q I rx ry h hs;obtain⟨p,xs,i,z,rfl,rfl,hq,he,q⟩:=h;cases rx;obtain⟨t,rfl⟩:=ry;obtain⟨its,r,pl,hz⟩:=I.list hq;obtain⟨j,h1,h2,h3,h4,h5⟩:=wH he;obtain⟨w,ew,rw'⟩:=r.get h2;have hl:=r.length;have hn:=nF;have fin:EP X pins σ Q w s:=⟨z,H,I,rw',q⟩
 by_cases h0:0<=i
 ·have hj:i.toNat=j:=by
   rw[seqIndex_of h0 h5] at h1;exact Option.some.inj h1
  exact item_listR pl.isList h0 (by omega) (by rw[hj];simpa using ew) fin hs
 ·have hj:(i+(its.toArray.size:Int)).toNat=j:=by
   rw[seqIndex_neg (by omega) h4] at h1;rw[VT,←hl];exact Option.some.inj h1
  exact Z4 (x:=w) pl.isList.typeIs slot_list_getitem.lookup
   (wpAny_getItem_list_neg (Q:=fun r s'=>r=w/\EP X pins σ Q r s') pl.isList (by omega) (by rw[VT]<;>omega) (by omega) (by rw[hj];simpa using ew) ⟨rfl,fin⟩) hs
theorem Qj:MM X (RU X.K):=by
 intro value slice pins s σ H x y v u Q I rx ry h hs;obtain⟨p,xs,i,z,rfl,rfl,hq,he,q⟩:=h;cases rx;obtain⟨t,rfl⟩:=ry;obtain⟨its,r,pl,hz⟩:=I.tuple hq;obtain⟨j,h1,h2,h3,h4,h5⟩:=wH he;obtain⟨w,ew,rw'⟩:=r.get h2;have hl:=r.length;have hn:=nF;have fin:EP X pins σ Q w s:=⟨z,H,I,rw',q⟩
 exact Z4 (x:=w) pl.typeIs slot_tuple_getitem.lookup
  (getItem_tuple (j:=j) (Q:=fun r s'=>r=w/\EP X pins σ Q r s') pl (by omega) (by omega) (by rw[VT,←hl];exact h1) (by simpa using ew) ⟨rfl,fin⟩) hs
theorem Qk:MM X RV:=by
 intro value slice pins s σ H x y v u Q I rx ry h hs;obtain⟨z,i,c,rfl,rfl,hz,he,q⟩:=h;obtain⟨t,rfl⟩:=rx;obtain⟨t',rfl⟩:=ry;obtain⟨j,h1,h2,h3,h4,h5⟩:=wH he;have hl:z.cps.toList.length=z.length:=by simp[Str.length]
 rw[hl] at h1 h4 h5;have hn:=nF;exact tail_any (typeIs_str s z t) slot_str_getitem.lookup (getItem_str (c:=c) (by
  have e1:decide (i < -(2 ^ 63:Int))=false:=VY (by omega);have e2:decide (i≥2 ^ 63)=false:=VY (by omega);rw[e1,e2,Ym]) (by rw[h1];simpa using h2) ⟨.str ⟨#[c]⟩,H,I.tok _,⟨_,rfl⟩,q⟩) hs
def V8 (K:Zl):R2:=fun x y H Q=>RW K x y H Q\/RU K x y H Q\/RV x y H Q
theorem Ql:MM X (V8 X.K):=LX.or (Qj.or Qk)
theorem AU (its:Zt) (n j:Nat) (u:Value):Obj.mapSeq (·.setIfInBounds j u) { cls:=.type "list",data:=.seq its.toArray n}={ cls:=.type "list",data:=.seq (its.set j u).toArray n}:=by
 simp[Obj.mapSeq]
theorem Inv.lst {pins:Zo}{σ:St}{H:Hp}{s:Shared}{p:Addr}{xs:List V}(I:Inv X pins σ H s) (h:H p=some (.lst xs)) :
  ∃(its:Zt) (n:Nat),aW xs its/\s.heap.get? p=some { cls:=.type "list",data:=.seq its.toArray n}/\xs.length<=sizeLine:=by
 obtain⟨z,its,n,r,e⟩:=I.hok p _ h;exact⟨its,n,r,e,z⟩
theorem Inv.lstUpd {pins:Zo}{σ:St}{H:Hp}{s:Shared}{p:Addr}{xs ys:List V}{its its':Zt}{n n':Nat}{f:Obj->Obj}(I:Inv X pins σ H s) (h:H p=some (.lst xs))
  (ho:s.heap.get? p=some { cls:=.type "list",data:=.seq its.toArray n}) (hf:f { cls:=.type "list",data:=.seq its.toArray n}={ cls:=.type "list",data:=.seq its'.toArray n'}) (r:aW ys its') (hz:ys.length<=sizeLine) (t:Nat) :
  Inv X pins σ (b6 H p (.lst ys)) { s with heap:=s.heap.update p f,toks:=t}:=by
 have e:(s.heap.update p f).get? p=some { cls:=.type "list",data:=.seq its'.toArray n'}:=by
  rw[Wt f ho (by rw[hf]<;>rfl),hf]
 refine I.write (x:=p) (e:=p) (by rw[h];trivial) (.inl rfl) (fun b u hb q=>(W9 _ _ (Wr hb)).trans q) ⟨_,e⟩ ?_;exact⟨hz,its',n',r,e⟩
def RT:V->V->V->Hp->(Hp->Prop)->Prop:=fun o i v H Q=>∃p xs k j,o=.ref p/\i=.int k/\H p=some (.lst xs)/\FF xs.length k=some j/\Q (b6 H p (.lst (xs.set j v)))
theorem Gz:Tv X RT:=by
 intro pins s σ H o i v ov iv u Q I ro ri rv h;obtain⟨p,xs,k,j,rfl,rfl,hp,hj,q⟩:=h;cases ro;obtain⟨t,rfl⟩:=ri;obtain⟨its,n,r,ho,hz⟩:=I.lst hp;obtain⟨h1,h2,h3,h4⟩:=Cw hj;have hl:=r.length;have hn:=nF;have I':Inv X pins σ (b6 H p (.lst (xs.set j v))) { s with heap:=s.heap.update p (Obj.mapSeq (·.setIfInBounds j u))} :=
  I.lstUpd hp ho (AU its n j u) (r.set rv j) (by rw[XR];exact hz) s.toks
 by_cases h0:0<=k
 ·have hk:k.toNat=j:=by
   rw[seqIndex_of h0 h4] at h1;exact Option.some.inj h1
  exact PySem.W.ki_setAt ho h0 (by omega) (by rw[VT,←hl];exact h4) (by rw[hk];exact⟨_,I',q⟩)
 ·have hk:(k+(its.toArray.size:Int)).toNat=j:=by
   rw[seqIndex_neg (by omega) h3] at h1;rw[VT,←hl];exact Option.some.inj h1
  exact PySem.W.ki_setBack ho (by omega) (by rw[VT,←hl];exact h3) (by omega) (by rw[hk];exact⟨_,I',q⟩)
theorem uM (lo hi:Option Int) (n:Nat):(sliceBounds lo hi none n).1=((HT.sIx n 0 lo:Nat):Int)/\(sliceBounds lo hi none n).2.1=((HT.sIx n n hi:Nat):Int)/\(sliceBounds lo hi none n).2.2=1:=by
 refine⟨?_,?_,rfl⟩
 ·cases lo with
  |none=>simp[sliceBounds,HT.sIx]
  |some i =>
   simp only[sliceBounds,HT.sIx,Yg,show(1:Int)>0 by decide,Xt];by_cases h:i<0
   ·simp only[h,Xt]<;>omega
   ·simp only[h,XO]<;>omega
 ·cases hi with
  |none=>simp[sliceBounds,HT.sIx]
  |some i =>
   simp only[sliceBounds,HT.sIx,Yg,show(1:Int)>0 by decide,Xt];by_cases h:i<0
   ·simp only[h,Xt]<;>omega
   ·simp only[h,XO]<;>omega
theorem sR (its:Zt) (lo hi:Option Int):slicePick its.toArray lo hi none=((its.drop (HT.sIx its.length 0 lo)).take (HT.sIx its.length its.length hi-HT.sIx its.length 0 lo)).toArray:=by
 obtain⟨h1,h2,h3⟩:=uM lo hi its.toArray.size;unfold slicePick;rw[h1,h2,h3];simp only[sliceRange_one,pick_run,VT]<;>rfl
def UA (K:Zl):V->Option Int->Option Int->Hp->VK->Prop:=fun x lo hi H Q=>∃a xs,x=.ref a/\gR K H a xs/\∀p,H p=none->Q (.ref p) (b6 H p (.lst (zh xs lo hi)))
theorem Ks:NW X (UA X.K):=by
 intro pins s σ H x v vl vu lo hi sl Q I rx hs pl pu h;obtain⟨a,xs,rfl,hx,q⟩:=h;cases rx;obtain⟨its,r,ht,hz⟩:=I.list hx;have hlen:=r.length;refine⟨"list",_,slot_list_getitem.lookup,ht.isList.typeIs,?_⟩;refine wpAny_getItem_list_slice ht.isList hs pl pu .none (by simp) ?_ (by rw[VT]<;>omega);rw[sR,←hlen];refine⟨.ref s.heap.objs.size,_,I.laid (t':=s.toks) (o:=.lst (zh xs lo hi)) (fun b ob q=>VH _ q) (VL _) ?_,rfl,q _ (I.hok.fresh (VL _))⟩;exact⟨Wh (oG xs lo hi) hz,_,0,(r.drop (HT.sIx xs.length 0 lo)).take (HT.sIx xs.length xs.length hi-HT.sIx xs.length 0 lo),VZ _ rfl⟩
theorem wz:gP X (.type "list") (fun xs H Q=>∃p ys,xs=[.ref p]/\(gR X.K H p ys\/SqT X.K H p ys)/\∀l,H l=none->Q (.ref l) (b6 H l (.lst ys))):=by
 intro pins s σ H xs us Q I r h;obtain⟨p,ys,rfl,hq,q⟩:=h;obtain⟨u,rfl,rx⟩:=kT r;cases rx;have fin:∀(its:Zt),aW ys its->ys.length<=sizeLine->∀(h':Heap) (c':Nat),(∀b o',s.heap.get? b=some o'->h'.get? b=some o') ->
   h'.get? s.heap.objs.size=some { cls:=.type "list",dict:=none,data:=.seq its.toArray c',slots:=#[]}->EP X pins σ Q (.ref s.heap.objs.size) { s with heap:=h'}:=fun its r' hz h' c' kp e =>
  ⟨.ref s.heap.objs.size,_,I.laid (t':=s.toks) kp (VL _) (show cH X.prog X.w _ h' _ (.lst ys) from⟨hz,its,c',r',e⟩),rfl,q _ (I.hok.fresh (VL _))⟩
 rcases hq with hq|hq
 ·obtain⟨its,r',pl,hz⟩:=I.list hq;have hlen:=r'.length;obtain⟨o,ho,hc,n,hd⟩:=pl.isList;exact call_list_seq p (.inl rfl) ho hc hd (fun h' c' kp e=>fin its r' hz h' c' kp e) (by simp only[VT]<;>omega)
 ·obtain⟨its,r',pl,hz⟩:=I.tuple hq;have hlen:=r'.length;obtain⟨o,ho,hc,n,hd⟩:=pl;exact call_list_seq p (.inr rfl) ho hc hd (fun h' c' kp e=>fin its r' hz h' c' kp e) (by simp only[VT]<;>omega)
def V5 (K:Zl) (T:String) (x:V) (H:Hp):Prop:=match x with
 |.str _=>T="str"
 |.int _=>T="int"
 |.ref p=>(T="list"/\∃xs,gR K H p xs)\/(T="tuple"/\∃o,K.lookup p=some o/\o.cls=.type "tuple"/\o.dict=none) \/
   (T="dict"/\((∃kvs,H p=some (.dK kvs))\/∃kvs,H p=some (.dT kvs)))\/(T="set"/\∃S n,H p=some (.set S n))
 |_=>False
theorem Ol {pins:Zo}{σ:St}{H:Hp}{s:Shared}{T:String}{x:V}{v:Value}(I:Inv X pins σ H s) (r:aV x v) (ty:V5 X.K T x H) :
  s.TypeIs v T/\∀a,v=.ref a->∃ob,s.heap.get? a=some ob/\ob.dict=none:=by
 cases x with
 |str z =>
  obtain⟨t,rfl⟩:=r;cases(show T="str" from ty);exact⟨typeIs_str s z t,fun _ e=>nomatch e⟩
 |int i =>
  obtain⟨t,rfl⟩:=r;cases(show T="int" from ty);exact⟨typeIs_int s i t,fun _ e=>nomatch e⟩
 |ref p =>
  cases r;rcases ty with⟨rfl,xs,hq⟩|⟨rfl,o,hk,hc,hd⟩|⟨rfl,hk⟩|⟨rfl,S,n,hk⟩
  ·obtain⟨its,_,pl,_⟩:=I.list hq;refine⟨pl.isList.typeIs,fun a e=>?_⟩;cases e;obtain⟨o,n,e,c,hd,_⟩:=pl;exact⟨o,e,hd⟩
  ·refine⟨⟨o,I.kIn p o hk,hc⟩,fun a e=>?_⟩;cases e;exact⟨o,I.kIn _ o hk,hd⟩
  ·have z:∃o,s.heap.get? p=some o/\o.ExactDict:=by
    rcases hk with⟨kvs,hk⟩|⟨kvs,hk⟩
    ·obtain⟨_,_,_,_,o,_,_,e,ex,_⟩:=I.hok p _ hk;exact⟨o,e,ex⟩
    ·obtain⟨_,_,_,_,o,_,_,e,ex,_⟩:=I.hok p _ hk;exact⟨o,e,ex⟩
   obtain⟨o,e,ex⟩:=z;refine⟨⟨o,e,ex.1⟩,fun a e2=>?_⟩;cases e2;exact⟨o,e,ex.2.1⟩
  ·obtain⟨o,_,_,_,e,ex,_⟩:=I.hok p _ hk;refine⟨⟨o,e,ex.1⟩,fun a e2=>?_⟩;cases e2;exact⟨o,e,ex.2.1⟩
 |_=>exact False.elim ty
def Vr (K:Zl) (T:String) (r:V->List V->Hp->VK->Prop) (to:TE) (t:TA):TE:=fun σ H Q=>to σ H fun x H1=>V5 K T x H1/\t σ H1 fun xs H2=>r x xs H2 Q
variable {o e:Expr}{es:Zx}{to:TE}{t:TA}{name:Str}{apos cpos:Pos}{T id:String}{r:V->List V->Hp->VK->Prop}
theorem Sb (pa:PlainAttrs T) (slot:Slot T name id) (hty:typeOf (.builtin id)=pure (.type "method_descriptor")) (hm:VE X id r) (ho:PE X o to) (ha:PA X (e::es) t)
  (hbase:attributeBase o name X.env (eval o X.env)=eval o X.env:=by rfl)
  (hfew:((backTo cpos (starEach (e::es) X.env)).all (fun x=> !x.1)&&(backToKw cpos (keywordEach [] X.env)).all (fun x=>x.1.isSome)
   && decide ((e::es).length+([]:List Keyword).length+(if([]:List Keyword).isEmpty then 0 else 1)<30))=true:=by rfl)
  (hline:(apos.endLine==cpos.line)=true:=by rfl) (hs:starEach (e::es) X.env=(false,eval e X.env)::starEach es X.env:=by rfl) (hplain:(backTo cpos (starEach es X.env)).any (·.1)=false:=by rfl) :
  PE X (.Call (.Attribute o name apos) (e::es) [] cpos) (Vr X.K T r to t):=by
 intro pins s σ H Q I h;refine wpAny_Call_method_late hbase hfew hline rfl (bP (ho pins s σ H _ I h) fun v s1 ⟨x,H1,I1,r1,ty,q1⟩=>?_);obtain⟨h1,h2⟩:=Ol I1 r1 ty;refine⟨T,id,pa,slot,hty,h1,h2,?_⟩;have hA:=ha cpos pins s1 σ H1 _ I1 q1;rw[hs] at hA ⊢;refine Z5 (by show(false||(backTo cpos (starEach es X.env)).any (·.1))=false;rw[hplain]<;>rfl) (Calls.evalArgs_plain ?_);exact bP hA fun us s2 ⟨vs,H2,I2,r2,q2⟩=>hm pins s2 σ H2 x vs v us Q I2 r1 r2 q2
end
def VF (X:Cx) (id:String) (r:V->List V->Hp->VK->Prop):Prop :=
 ∀(pins:Zo) (s:Shared) (σ:St) (H:Hp) (x:V) (xs:List V) (v:Value) (us:Zt) (Q:VK),Inv X pins σ H s->aV x v->aW xs us->r x xs H Q ->
  wpAny (model X.prog X.w) X.A (call (.builtin id) (v::us)) (EP X pins σ Q) X.xe s
theorem aW.one:∀{x:V}{us:Zt},aW [x] us->∃u,us=[u]/\aV x u
 |_,_,.cons r .nil=>⟨_,rfl,r⟩
theorem aW.rep {xs:List V}{us:Zt}(h:aW xs us):∀k:Nat,aW (List.replicate k xs).flatten (List.replicate k us).flatten
 |0=>.nil
 |k+1=>by
  rw[Wu,Wu,X6,X6];exact aW.append h (aW.rep h k)
theorem uk (its:Zt):∀(k:Nat) (acc:Zt),
  List.foldl (fun x1 x2=>x1++x2) acc.toArray (List.replicate k its.toArray)=(acc++(List.replicate k its).flatten).toArray
 |0,acc=>by simp
 |k+1,acc=>by
  have e:acc.toArray++its.toArray=(acc++its).toArray:=by simp
  have e2:(acc++its)++(List.replicate k its).flatten=acc++(List.replicate (k+1) its).flatten:=by
   rw[Wu,X6,VU]
  rw[←e2,←uk its k (acc++its),←e,Wu,XS]
section
variable {X:Cx}{pins:Zo}{σ:St}{H:Hp}{s:Shared}{l b:Addr}{xs ys zs:List V}
theorem Inv.lset {its its':Zt}{n:Nat}{f:ZB->ZB}{t':Nat}(I:Inv X pins σ H s) (hH:H l=some (.lst xs))
  (e:s.heap.get? l=some { cls:=.type "list",data:=.seq its.toArray n}) (hf:f its.toArray=its'.toArray) (hv:aW ys its') (hz:ys.length<=sizeLine) :
  Inv X pins σ (b6 H l (.lst ys)) { s with heap:=s.heap.update l (Obj.mapSeq f),toks:=t'}:=by
 have q:=PySem.IsL.update e f;rw[hf] at q;refine I.write (x:=l) (e:=l) (by rw[hH];exact trivial) (.inl rfl) (fun b' u hb hu=>(W9 s.heap (Obj.mapSeq f) (Wr hb)).trans hu) ⟨_,q⟩ ?_;exact⟨hz,its',_,hv,q⟩
theorem Inv.lnew {its:Zt}{t':Nat}(I:Inv X pins σ H s) (hv:aW ys its) (hz:ys.length<=sizeLine) :
  Inv X pins σ (b6 H s.heap.objs.size (.lst ys)) { s with heap:=s.heap.push { cls:=.type "list",data:=.seq its.toArray},toks:=t'} :=
 I.laid (fun _ _ q=>VH _ q) (VL _) ⟨hz,its,0,hv,VZ _ rfl⟩
theorem Inv.fresh (I:Inv X pins σ H s):H s.heap.objs.size=none:=I.hok.fresh (VL _)
theorem Inv.lstM (I:Inv X pins σ H s) (hH:H l=some (.lst xs)):xs.length<=sizeLine/\∃(its:Zt) (n:Nat),aW xs its/\xs.length=its.length/\s.heap.get? l=some { cls:=.type "list",data:=.seq its.toArray n}:=by
 obtain⟨z,its,n,r,e⟩:=I.hok l _ hH;exact⟨z,its,n,r,r.length,e⟩
theorem HN {n:Nat}(h:n<=sizeLine):Builtin.List.listTooLong n=false:=by
 unfold Builtin.List.listTooLong;exact VY (by omega)
end
section
variable {X:Cx}
def Kz:V->List V->Hp->VK->Prop:=fun x vs H Q=>∃l xs y,x=.ref l/\vs=[y]/\H l=some (.lst xs)/\xs.length<sizeLine/\Q .non (b6 H l (.lst (xs++[y])))
theorem tS:VF X "list.append" Kz:=by
 intro pins s σ H x vs v us Q I rx rv h;obtain⟨l,xs,y,rfl,rfl,hH,hz,q⟩:=h;cases rx;obtain⟨u,rfl,ru⟩:=rv.one;obtain⟨z,its,n,r,hl,e⟩:=I.lstM hH;refine call_meets F.slot_list_append ⟨_,e,rfl⟩ F.entry_list_append (F.args_list_append_2 _ _) (PySem.list_append l its.toArray n u (by rw[VT];omega)) ⟨e,?_⟩;refine⟨.non,_,I.lset (its':=its++[u]) hH e (by simp) (r.append (.cons ru .nil)) ?_,rfl,q⟩;rw[Wy,Yc];omega
def UB:R2:=fun x y H Q=>∃l k xs,x=.ref l/\y=.int k/\H l=some (.lst xs)/\ -(2 ^ 63)<=k/\k<2 ^ 63/\xs.length*k.toNat<=sizeLine /\
 ∀p,H p=none->Q (.ref p) (b6 H p (.lst (List.replicate k.toNat xs).flatten))
theorem LR {O:Type}(xs:List O) (k:Nat):(List.replicate k xs).flatten.length=k*xs.length:=by
 induction k with
 |zero=>simp
 |succ k ih=>rw[Wu,X6,Wy,ih,Nat.succ_mul,Nat.add_comm]
theorem Pr:jl X (binaryOp .Mult) UB:=by
 intro pins s σ H x y v u Q I rx ry h;obtain⟨l,k,xs,rfl,rfl,hH,h1,h2,hz,q⟩:=h;cases rx;obtain⟨t,rfl⟩:=ry;obtain⟨z,its,n,r,hl,e⟩:=I.lstM hH;have hlen:its.toArray.size*k.toNat<=sizeLine:=by rw[VT,←hl];exact hz
 have hcap:¬its.toArray.size*k.toNat>(2 ^ 63-1) / 8:=by
  have:(sizeLine:Nat)<=(2 ^ 63-1) / 8:=by decide
  omega
 have hfit:¬(!Builtin.List.listFitsIndex k)=true:=by
  rw[fitsIndex_both h1 h2];exact XW
 have hlong:¬Builtin.List.listTooLong (its.toArray.size*k.toNat)=true:=by
  rw[HN hlen];exact XW
 have hnew:List.foldl (fun x1 x2=>x1++x2) #[] (List.replicate (if its.toArray.isEmpty=true then 0 else k.toNat) its.toArray)=(List.replicate k.toNat its).flatten.toArray:=by
  have f0:∀m:Nat,List.foldl (fun x1 x2=>x1++x2) #[] (List.replicate m its.toArray)=(List.replicate m its).flatten.toArray:=fun m=>by
   have:=uk its m [];rw[WU] at this;exact this
  rw[f0];cases its with
  |nil=>simp
  |cons a r'=>rw[VN (by simp)]
 refine wpAny_binaryOp_repeat_ref (T:="list") (U:="int") (by decide) ⟨_,e,rfl⟩ (fun s'=>typeIs_int s' k t) noFill_list_mul F.fills_int_mul F.slot_int_rmul repeat_list F.slot_int_index.lookup
  (call_meets F.slot_int_rmul (typeIs_int s k t) F.entry_int_rmul (F.args_int_rmul_2 _ _) (int___rmul___int_list k t l its.toArray n)
   ⟨e,rfl,⟨_,e,rfl⟩,call_meets F.slot_list_mul ⟨_,e,rfl⟩ F.entry_list_mul (F.args_list_mul_2 _ _) (AutoListH.list___mul___list_int_3 l its.toArray n k t hfit hcap hlong) ⟨e,?_⟩⟩)
 rw[hnew];exact⟨.ref _,_,I.lnew (t':=s.toks) (r.rep k.toNat) (by rw[LR,Nat.mul_comm];exact hz),rfl,q _ I.fresh⟩
end
section
variable {prog:Program}{w:World}{A:Around}{E:Zm}{s:Shared}
set_option maxRecDepth 100000 in
end
section
variable {X:Cx}
end
section
variable {κ:Type}[DecidableEq κ]
def gQ (kvs:List (κ×V)) (k:κ):Option V:=(kvs.find? fun kv=>decide (kv.1=k)).map (·.2)
def iX (kvs:List (κ×V)) (k:κ) (v:V):List (κ×V) :=
 if(kvs.any fun kv=>decide (kv.1=k))=true then kvs.map (fun kv=>if kv.1=k then(kv.1,v) else kv) else kvs++[(k,v)]
theorem lN {p:κ×V}{r:List (κ×V)}{k:κ}(e:p.1=k):gQ (p::r) k=some p.2:=by simp[gQ,WV,e]
theorem lO {p:κ×V}{r:List (κ×V)}{k:κ}(e:¬p.1=k):gQ (p::r) k=gQ r k:=by simp[gQ,WV,e]
theorem lP (k:κ):∀kvs:List (κ×V),(kvs.any fun kv=>decide (kv.1=k))=(gQ kvs k).isSome
 |[]=>rfl
 |p::r=>by
  rw[WZ];by_cases e:p.1=k
  ·simp only[lN e,VX e,Bool.true_or,Option.isSome_some]
  ·rw[lO e,VY e,XQ];exact lP k r
theorem jT (kvs:List (κ×V)) (k:κ) (v:V):(iX kvs k v).length<=kvs.length+1:=by
 unfold iX;split
 ·rw[VS];omega
 ·rw[Wy,W1,Yr];omega
theorem GT {kvs:List (κ×V)}{k:κ}(v:V) (h:gQ kvs k=none):iX kvs k v=kvs++[(k,v)]:=by
 unfold iX;rw[lP,h];exact VN (by decide)
theorem kx.isSome_eq {o:Option V}{u:Zs}(r:kx o u):o.isSome=u.isSome:=by
 cases o with
 |none=>cases u with
  |none=>rfl
  |some _=>exact(show False from r).elim
 |some _=>cases u with
  |none=>exact(show False from r).elim
  |some _=>rfl
theorem kx.getD {o:Option V}{u:Zs}{d:V}{d':Value}(r:kx o u) (rd:aV d d'):aV (o.getD d) (u.getD d'):=by
 cases o with
 |none=>cases u with
  |none=>exact rd
  |some _=>exact(show False from r).elim
 |some _=>cases u with
  |none=>exact(show False from r).elim
  |some _=>exact r
theorem KV.val {kvs:List (κ×V)}{vs:List (κ×Value)}(r:KV kvs vs) (k:κ):kx (gQ kvs k) (valueAt vs k):=by
 unfold KV at r
 induction r with
 |nil=>exact True.intro
 | @cons p q ps qs h t ih =>
  obtain⟨h1,h2⟩:=h;by_cases e:p.1=k
  ·have e':q.1=k:=h1.symm.trans e;have b:valueAt (q::qs) k=some q.2:=by simp[valueAt,WV,e']
   rw[lN e,b];exact h2
  ·have e':¬q.1=k:=fun z=>e (h1.trans z)
   have b:valueAt (q::qs) k=valueAt qs k:=by simp[valueAt,WV,e']
   rw[lO e,b];exact ih
theorem KV.any {kvs:List (κ×V)}{vs:List (κ×Value)}(r:KV kvs vs) (k:κ):(kvs.any fun kv=>decide (kv.1=k))=vs.any fun kv=>decide (kv.1=k):=by
 unfold KV at r
 induction r with
 |nil=>rfl
 |cons h t ih=>rw[WZ,WZ,ih,h.1]
theorem KV.repl {kvs:List (κ×V)}{vs:List (κ×Value)}(r:KV kvs vs) (k:κ) {y:V}{u:Value}(ry:aV y u) :
  KV (kvs.map fun kv=>if kv.1=k then(kv.1,y) else kv) (vs.map fun kv=>if kv.1=k then(kv.1,u) else kv):=by
 unfold KV at r ⊢
 induction r with
 |nil=>exact .nil
 | @cons p q ps qs h t ih =>
  rw[VW,VW];refine .cons ?_ ih;obtain⟨h1,h2⟩:=h;by_cases e:p.1=k
  ·rw[VJ e,VJ (h1.symm.trans e)];exact⟨h1,ry⟩
  ·rw[VN e,VN (fun z=>e (h1.trans z))];exact⟨h1,h2⟩
theorem KV.put {kvs:List (κ×V)}{vs:List (κ×Value)}(r:KV kvs vs) (k:κ) {y:V}{u:Value}(ry:aV y u):KV (iX kvs k y) (stored vs k u):=by
 unfold iX stored;rw[r.any k];by_cases e:(vs.any fun kv=>decide (kv.1=k))=true
 ·rw[VJ e,VJ e];exact r.repl k ry
 ·rw[VN e,VN e];exact Paired.snoc r ⟨rfl,ry⟩
theorem KV.length {kvs:List (κ×V)}{vs:List (κ×Value)}(r:KV kvs vs):kvs.length=vs.length:=YL r
end
theorem jk {P:Program}{w:World}{k:Key}{u:Value}(r:aV (kV k) u):(mixKind P w).is k u=true:=by
 cases k with
 |inl i=>obtain⟨t,e⟩:=(show ∃t,u=Value.int i t from r);subst e;exact yi P w i t
 |inr x=>obtain⟨t,e⟩:=(show ∃t,u=Value.str x t from r);subst e;exact yh P w x t
theorem ub {P:Program}{w:World}:∀{ks:List Key}{us:Zt},aW (ks.map kV) us->ItemsAre (mixKind P w) ks us
 |[],_,r=>by rw[X7] at r;cases r;exact .nil
 |k::ks,_,r=>by
  rw[VW] at r;cases r with
  |cons h t=>exact .cons (jk h) (ub t)
abbrev KT (H:Hp):List (List Key×V)->List (List Key×Addr×Value)->Prop:=Paired fun p q=>p.1=q.1/\H q.2.1=some (.tup (p.1.map kV))/\aV p.2 q.2.2
theorem KT.val {H:Hp}{kvs:List (List Key×V)}{xs:List (List Key×Addr×Value)}(r:KT H kvs xs) (k:List Key):kx (gQ kvs k) ((atKey xs k).map (·.2)):=by
 induction r with
 |nil=>exact True.intro
 | @cons p q ps qs h t ih =>
  obtain⟨h1,_,h2⟩:=h;by_cases e:p.1=k
  ·have e':q.1=k:=h1.symm.trans e;have b:atKey (q::qs) k=some q.2:=by simp[atKey,WV,e']
   rw[lN e,b];exact h2
  ·have e':¬q.1=k:=fun z=>e (h1.trans z)
   have b:atKey (q::qs) k=atKey qs k:=by simp[atKey,WV,e']
   rw[lO e,b];exact ih
theorem KT.repl {H:Hp}{kvs:List (List Key×V)}{xs:List (List Key×Addr×Value)}(r:KT H kvs xs) (k:List Key) {y:V}{u:Value}(ry:aV y u) :
  KT H (kvs.map fun kv=>if kv.1=k then(kv.1,y) else kv) (xs.map (putAt k u)):=by
 induction r with
 |nil=>exact .nil
 | @cons p q ps qs h t ih =>
  rw[VW,VW];refine .cons ?_ ih;obtain⟨h1,h2,h3⟩:=h;unfold putAt;by_cases e:p.1=k
  ·rw[VJ e,VJ (h1.symm.trans e)];exact⟨h1,h2,ry⟩
  ·rw[VN e,VN (fun z=>e (h1.trans z))];exact⟨h1,h2,h3⟩
theorem KT.put {H:Hp}{kvs:List (List Key×V)}{xs:List (List Key×Addr×Value)}(r:KT H kvs xs) (k:List Key) {b:Addr}{y:V}{u:Value}(hb:H b=some (.tup (k.map kV))) (ry:aV y u) :
  KT H (iX kvs k y) (storedH xs k b u):=by
 have e:(kvs.any fun kv=>decide (kv.1=k))=(atKey xs k).isSome:=by
  rw[lP,(r.val k).isSome_eq,YI]
 unfold iX storedH;rw[e];by_cases q:(atKey xs k).isSome=true
 ·rw[VJ q,VJ q];exact r.repl k ry
 ·rw[VN q,VN q];exact Paired.snoc r ⟨rfl,hb,ry⟩
theorem KT.keeps {H H':Hp}{kvs:List (List Key×V)}{xs:List (List Key×Addr×Value)}(r:KT H kvs xs) (ht:∀b ys,H b=some (.tup ys)->H' b=some (.tup ys)):KT H' kvs xs :=
 Paired.mapP r fun _ _ z=>⟨z.1,ht _ _ z.2.1,z.2.2⟩
section
variable {P:Program}{w:World}{H:Hp}{h:Heap}{a:Addr}
theorem Na {u:HO}(ok:jn P w H h) (e:Rd H a u):cH P w H h a u:=e.ok ok
theorem sB {kvs:List (Key×V)}(ok:jn P w H h) (e:Rd H a (.dK kvs)):kvs.length<=sizeLine/\(a==sysModules)=false/\∃vs,KV kvs vs/\h.DictOf (mixKind P w) a vs :=
 show cH P w H h a (.dK kvs) from Na ok e
theorem NM {kvs:List (Key×V)}(ok:jn P w H h) (e:H a=some (.dK kvs)):kvs.length<=sizeLine/\(a==sysModules)=false/\∃vs,KV kvs vs/\h.DictOf (mixKind P w) a vs:=sB ok (.inl e)
theorem nX {ks:List Key}(ok:jn P w H h) (e:H a=some (.tup (ks.map kV))):(tupleKind (mixKind P w)).is h ks a:=by
 obtain⟨_,its,r,o,h1,h2,n,h3⟩:=(show cH P w H h a (.tup (ks.map kV)) from ok a _ e)
 exact⟨o,its.toArray,n,h1,h2,h3,by simpa using ub r⟩
theorem sy {kvs:List (List Key×V)}(ok:jn P w H h) (e:Rd H a (.dT kvs)):kvs.length<=sizeLine/\(a==sysModules)=false /\
  ∃xs,KT H kvs xs/\h.DictOfH (tupleKind (mixKind P w)) a xs:=by
 obtain⟨z,y,xs,r,o,es,ep,h1,h2,h3,h4,h5⟩:=(show cH P w H h a (.dT kvs) from Na ok e)
 refine⟨z,y,xs,r,o,es,ep,h1,h2,h3,h4,fun x hx=>?_,h5⟩;have all:∀{l:List (List Key×V)}{m:List (List Key×Addr×Value)},KT H l m->∀x∈m,(tupleKind (mixKind P w)).is h x.1 x.2.1:=by
  intro l m q
  induction q with
  |nil=>intro x hx;exact nomatch hx
  | @cons p q ps qs hq t ih =>
   intro x hx;rcases List.mem_cons.mp hx with e|hx
   ·subst e;exact nX ok (by rw[←hq.1];exact hq.2.1)
   ·exact ih x hx
 exact all r x hx
theorem Td {kvs:List (List Key×V)}(ok:jn P w H h) (e:H a=some (.dT kvs)):kvs.length<=sizeLine/\(a==sysModules)=false /\
  ∃xs,KT H kvs xs/\h.DictOfH (tupleKind (mixKind P w)) a xs:=sy ok (.inl e)
end
def jf (H:Hp) (a:Addr) (y:V) (r:Option V):Prop :=
 (∃kvs k,Rd H a (.dK kvs)/\y=kV k/\r=gQ kvs k)\/∃kvs k b,Rd H a (.dT kvs)/\y=.ref b/\H b=some (.tup (k.map kV))/\r=gQ kvs k
def JZ (H:Hp) (a:Addr) (y v:V) (H':Hp):Prop :=
 (∃kvs k,H a=some (.dK kvs)/\y=kV k/\kvs.length<sizeLine/\H'=b6 H a (.dK (iX kvs k v))) \/
 ∃kvs k b,H a=some (.dT kvs)/\y=.ref b/\H b=some (.tup (k.map kV))/\kvs.length<sizeLine/\H'=b6 H a (.dT (iX kvs k v))
theorem jf.k {H:Hp}{a:Addr}{kvs:List (Key×V)}{k:Key}(e:H a=some (.dK kvs)):jf H a (kV k) (gQ kvs k):=.inl ⟨kvs,k,.inl e,rfl,rfl⟩
theorem JZ.k {H:Hp}{a:Addr}{kvs:List (Key×V)}{k:Key}{v:V}(e:H a=some (.dK kvs)) (hl:kvs.length<sizeLine):JZ H a (kV k) v (b6 H a (.dK (iX kvs k v))):=.inl ⟨kvs,k,e,rfl,hl,rfl⟩
section
variable {X:Cx}{pins:Zo}{σ:St}{H:Hp}{s:Shared}{a:Addr}{y v:V}{u r:Value}{o:Option V}{A:Around}{E:Zm}
theorem Inv.big (I:Inv X pins σ H s):sysModules<s.heap.objs.size:=by
 have h:mainGlobals<s.heap.objs.size:=(I.mod.glob.keeps I.bk).lt;exact Nat.lt_trans (by decide) h
theorem Fb {Q:Zm}(hu:A.units+1<cLine) (I:Inv X pins σ H s) (g:jf H a y (some v)) (ry:aV y u) (h:∀w' s',Inv X pins σ H s'->aV v w'->Q w' s') :
  wpAny (model X.prog X.w) A (getItem (.ref a) u) Q E s:=by
 rcases g with⟨kvs,k,e,ey,l⟩|⟨kvs,k,b,e,ey,eb,l⟩
 ·subst ey;obtain⟨z,hd,vs,rel,dd⟩:=sB I.hok e;obtain⟨w',hw,rw'⟩:=kx.some_of (v:=v) (o:=valueAt vs k) (by rw[l];exact rel.val k);exact wpAny_getItem_of (jk ry) dd.mapOf hw (h w' _ (I.tok _) rw')
 ·subst ey;cases(show u=Value.ref b from ry);obtain⟨z,hd,xs,rel,dd⟩:=sy I.hok e;obtain⟨w',hw,rw'⟩:=kx.some_of (v:=v) (o:=(atKey xs k).map (·.2)) (by rw[l];exact rel.val k);obtain⟨p,hp,hp2⟩:=Option.map_eq_some_iff.mp hw;refine wpAny_getItem_heap (Xh hu) (nX I.hok eb) dd hp ?_;rw[hp2];exact h w' _ (I.tok _) rw'
theorem UN {Q:Zm}(hu:A.units+1<cLine) (I:Inv X pins σ H s) (g:jf H a y o) (ry:aV y u) (h:∀s',Inv X pins σ H s'->Q (.bool o.isSome) s') :
  wpAny (model X.prog X.w) A (compareOp .In u (.ref a)) Q E s:=by
 rcases g with⟨kvs,k,e,ey,l⟩|⟨kvs,k,b,e,ey,eb,l⟩
 ·subst ey;obtain⟨z,hd,vs,rel,dd⟩:=sB I.hok e;refine wpAny_in_of (jk ry) hd dd.mapOf ?_;rw[←(rel.val k).isSome_eq,←l];exact h _ (I.tok _)
 ·subst ey;cases(show u=Value.ref b from ry);obtain⟨z,hd,xs,rel,dd⟩:=sy I.hok e;refine wpAny_in_heap (Xh hu) (nX I.hok eb) hd dd ?_;have q:=(rel.val k).isSome_eq;rw[YI] at q;rw[←q,←l];exact h _ (I.tok _)
theorem Mn {Q:Zm}(hu:A.units+1<cLine) (I:Inv X pins σ H s) (g:jf H a y o) (ry:aV y u) (h:∀s',Inv X pins σ H s'->Q (.bool (!o.isSome)) s') :
  wpAny (model X.prog X.w) A (compareOp .NotIn u (.ref a)) Q E s:=by
 rcases g with⟨kvs,k,e,ey,l⟩|⟨kvs,k,b,e,ey,eb,l⟩
 ·subst ey;obtain⟨z,hd,vs,rel,dd⟩:=sB I.hok e;refine wpAny_notIn_of (jk ry) hd dd.mapOf ?_;rw[←(rel.val k).isSome_eq,←l];exact h _ (I.tok _)
 ·subst ey;cases(show u=Value.ref b from ry);obtain⟨z,hd,xs,rel,dd⟩:=sy I.hok e;refine wpAny_notIn_heap (Xh hu) (nX I.hok eb) hd dd ?_;have q:=(rel.val k).isSome_eq;rw[YI] at q;rw[←q,←l];exact h _ (I.tok _)
theorem wt {h':Heap}{t':Nat}{ob:HO}(I:Inv X pins σ H s) (mu:TC (H a)) (hs:Heap.SameBut a s.heap h') (he:∃q,h'.get? a=some q) (new:cH X.prog X.w (b6 H a ob) h' a ob) :
  Inv X pins σ (b6 H a ob) { s with heap:=h',toks:=t'} :=
 I.write (x:=a) (e:=a) mu (.inl rfl) (fun b q hb z=>(hs.2 b hb).trans z) he new
theorem Jp {P:Program}{w:World}{H':Hp}{h':Heap}{kvs:List (Key×V)}{vs:List (Key×Value)}(z:kvs.length<=sizeLine) (hd:(a==sysModules)=false) (rel:KV kvs vs) (dd:h'.DictOf (mixKind P w) a vs) :
  cH P w H' h' a (.dK kvs):=⟨z,hd,vs,rel,dd⟩
theorem Fa {H':Hp}{Q:ZA}(hu:A.units+1<cLine) (I:Inv X pins σ H s) (g:JZ H a y v H') (ry:aV y u) (rv:aV v r) (h:∀s',Inv X pins σ H' s'->Q () s') :
  wpAny (model X.prog X.w) A (setItem (.ref a) u r) Q E s:=by
 rcases g with⟨kvs,k,e,ey,l,eH⟩|⟨kvs,k,b,e,ey,eb,l,eH⟩
 ·subst ey eH;obtain⟨z,hd,vs,rel,dd⟩:=NM I.hok e;have hz:vs.length<=sizeLine:=by rw[←rel.length];exact z
  have hl:(iX kvs k v).length<=sizeLine:=by have:=jT kvs k v;omega
  refine wpAny_setItem_pairs (hsz:=hz) (jk ry) dd fun h' dd' hs=>h _ ?_
  have he:∃q,h'.get? a=some q:=let⟨q,_,_,hq,_⟩:=dd';⟨q,hq⟩
  exact wt I (by rw[e];exact True.intro) hs he (Jp hl hd (rel.put k rv) dd')
 ·subst ey eH;cases(show u=Value.ref b from ry);obtain⟨z,hd,xs,rel,dd⟩:=Td I.hok e;have hz:xs.length<=sizeLine:=by rw[←YL rel];exact z
  have hl:(iX kvs k v).length<=sizeLine:=by have:=jT kvs k v;omega
  refine wpAny_setItem_heap (hsz:=hz) (Xh hu) (nX I.hok eb) dd fun h' dd' hs=>h _ ?_
  obtain⟨q,es,ep,hq,h2,h3,h4,_,h5⟩:=dd';refine wt I (by rw[e];exact True.intro) hs ⟨q,hq⟩ ⟨hl,hd,_,(rel.put k eb rv).keeps fun c ys ec=>?_,q,es,ep,hq,h2,h3,h4,h5⟩;rw[ak (Sw ec e (fun z=>nomatch z))];exact ec
end
section
variable {X:Cx}{pins:Zo}{σ:St}{H:Hp}{s:Shared}{a:Addr}{kvs:List (Key×V)}{k:Key}{u:Value}{A:Around}{E:Zm}
end
def MK (i:Expr):Prop:=∀ov iv,subscripted i false ov iv=operate [ov,iv] (getItem ov iv)
theorem Bz {prog:Program}{w:World}{A:Around}{E:Zm}{s:Shared}{env:Env}{value slice:Expr}{pos:Pos}{T id:String}{Q:Zm}
  (hl:typeLookup (.type T) "__getitem__"=pure (some (.builtin id))) (hs:MK slice)
  (h:wpAny (model prog w) A (eval value env) (fun o s₁=>wpAny (model prog w) A (eval slice env) (fun i s₂=>s₂.TypeIs o T/\wpAny (model prog w) A (getItem o i) Q E s₂) E s₁) E s) :
  wpAny (model prog w) A (eval (.Subscript value slice pos) env) Q E s:=by
 refine Subscript_ (Wj h (fun o s₁ h₁=>Wj h₁ (fun i s₂ h₂=>?_) fun _ _ x=>x) fun _ _ x=>x);obtain⟨hT,h₂⟩:=h₂;unfold subscriptTail;refine VG ?_;rw[getitemInPython_of_ne hT.not_modules];refine VG (wpAny_specialOf hT hl ?_);have fin:wpAny (model prog w) A (subscripted slice false o i) (fun r s₃=>wpAny (model prog w) A (letTemporaryGo value o r >>= fun _=>pure r) Q E s₃) E s₂:=by
  rw[hs o i];exact wpAny_operating (Wj h₂ (fun r s₃ h₃=>VG (wpAny_letTemporaryGo (VO h₃))) fun _ _ x=>x)
 first
  |exact VO (VG fin)
  |exact VG (VO (VG fin))
  |exact VG fin
theorem zb {X:Cx}{pins:Zo}{σ:St}{H:Hp}{s:Shared}{a:Addr}{y:V}{o:Option V}(I:Inv X pins σ H s) (g:jf H a y o):s.TypeIs (.ref a) "dict":=by
 rcases g with⟨kvs,k,e,_,_⟩|⟨kvs,k,b,e,_,_,_⟩
 ·obtain⟨_,_,vs,_,dd⟩:=sB I.hok e;exact dd.typeIs
 ·obtain⟨_,_,xs,_,dd⟩:=sy I.hok e;exact dd.typeIs
def RB (td ty:TE):TE:=fun σ H Q=>td σ H fun x H1=>ty σ H1 fun y H2=>∃a v,x=.ref a/\jf H2 a y (some v)/\Q v H2
def Uu (ty td:TE):TE:=fun σ H Q=>ty σ H fun y H1=>td σ H1 fun x H2=>∃a o,x=.ref a/\jf H2 a y o/\Q (.bl o.isSome) H2
def Kn (ty td:TE):TE:=fun σ H Q=>ty σ H fun y H1=>td σ H1 fun x H2=>∃a o,x=.ref a/\jf H2 a y o/\Q (.bl (!o.isSome)) H2
def RQ (td ty tv:TE):TS:=fun D σ H=>tv σ H fun v H1=>td σ H1 fun x H2=>ty σ H2 fun y H3=>∃a H4,x=.ref a/\JZ H3 a y v H4/\D.nx σ H4
section
variable {X:Cx}{o i e value:Expr}{pos pos' tpos:Pos}{td ty tv:TE}
theorem KR (hu:X.A.units+1<cLine) (ho:PE X o td) (hi:PE X i ty) (hs:MK i):PE X (.Subscript o i pos) (RB td ty):=by
 intro pins s σ H Q I h;refine Bz PySem.F.slot_dict_getitem.lookup hs (bP (ho pins s σ H _ I h) fun u s1 ⟨x,H1,I1,rx,q1⟩=>bP (hi pins s1 σ H1 _ I1 q1) fun iv s2 ⟨y,H2,I2,ry,a,v,ex,g,q2⟩=>?_);subst ex;obtain rfl:u=Value.ref a:=rx;exact⟨zb I2 g,Fb hu I2 g ry fun w' s3 I3 rw'=>⟨v,H2,I3,rw',q2⟩⟩
theorem Pc (hu:X.A.units+1<cLine) (hi:PE X i ty) (ho:PE X o td):PC X .In i o (Uu ty td):=by
 intro pins s σ H Q I h;refine bP (hi pins s σ H _ I h) fun iv s1 ⟨y,H1,I1,ry,q1⟩=>bP (ho pins s1 σ H1 _ I1 q1) fun u s2 ⟨x,H2,I2,rx,a,ov,ex,g,q2⟩=>?_
 subst ex;obtain rfl:u=Value.ref a:=rx;exact UN hu I2 g ry fun s3 I3=>⟨.bl ov.isSome,H2,I3,rfl,q2⟩
theorem E9 (hu:X.A.units+1<cLine) (hi:PE X i ty) (ho:PE X o td):PC X .NotIn i o (Kn ty td):=by
 intro pins s σ H Q I h;refine bP (hi pins s σ H _ I h) fun iv s1 ⟨y,H1,I1,ry,q1⟩=>bP (ho pins s1 σ H1 _ I1 q1) fun u s2 ⟨x,H2,I2,rx,a,ov,ex,g,q2⟩=>?_
 subst ex;obtain rfl:u=Value.ref a:=rx;exact Mn hu I2 g ry fun s3 I3=>⟨.bl (!ov.isSome),H2,I3,rfl,q2⟩
theorem KI (hu:X.A.units+1<cLine) (ho:PE X o td) (hi:PE X i ty) (hv:PE X value tv) (hs:swapsWith value (some (.Subscript o i pos')) pos.line X.env=pure false) :
  PS X (.Assign [.Subscript o i pos'] value pos) (RQ td ty tv):=by
 intro pins s σ H D I h;refine wpAny_Assign_Subscript (bP (hv pins s σ H _ I h) fun r s1 ⟨v,H1,I1,rv,q1⟩=>bP (ho pins s1 σ H1 _ I1 q1) fun u s2 ⟨x,H2,I2,rx,q2⟩=>bP (hi pins s2 σ H2 _ I2 q2) fun iv s3 ⟨y,H3,I3,ry,a,H4,ex,g,q3⟩=>?_) hs;subst ex;obtain rfl:u=Value.ref a:=rx;exact Fa hu I3 g ry rv fun s4 I4=>⟨σ,H4,I4,q3⟩
end
theorem za {P:Program}{w:World}{H:Hp}(h:Heap) (hb:sysModules<h.objs.size):cH P w H (h.push { cls:=.type "dict",data:=.dict #[]}) h.objs.size (.dK []) :=
 ⟨WK _,beq_eq_false_iff_ne.mpr (Wr (W3 hb)),[],.nil,Heap.DictOf.new h⟩
def Ot:TE:=fun _ H Q=>∀p,H p=none->Q (.ref p) (b6 H p (.dK []))
section
variable {X:Cx}{pos:Pos}
theorem Hh:PE X (.Dict [] [] pos) Ot:=fun pins s σ H Q I h =>
 wpAny_Dict_empty ⟨.ref s.heap.objs.size,_,I.laid (a:=s.heap.objs.size) (o:=.dK []) (t':=s.toks) (fun _ _ q=>VH _ q) (VL _) (za s.heap I.big),rfl,h _ (I.hok.fresh (VL _))⟩
end
def uL:List (TE×TE)->St->Hp->(List (V×V)->Hp->Prop)->Prop
 |[],_,H,Q=>Q [] H
 |(tk,tv)::r,σ,H,Q=>tk σ H fun x H1=>tv σ H1 fun y H2=>uL r σ H2 fun ps H3=>Q ((x,y)::ps) H3
abbrev VV:List (V×V)->List (Value×Value)->Prop:=Paired fun p q=>aV p.1 q.1/\aV p.2 q.2
def Tw (X:Cx) (pos:Pos) (keys:List (Option Expr)) (values:Zx) (trs:List (TE×TE)):Prop :=
 ∀(pins:Zo) (s:Shared) (σ:St) (H:Hp) (Q:List (V×V)->Hp->Prop),Inv X pins σ H s->uL trs σ H Q ->
  wpAny (model X.prog X.w) X.A (evalPairs (pairTrees keys values X.env pos)) (fun vs s'=>∃ps H',Inv X pins σ H' s'/\VV ps vs/\Q ps H') X.xe s
theorem KJ {X:Cx}{pos:Pos}:Tw X pos [] [] []:=fun pins s σ H Q I h=>pairTrees_nil_walk ⟨[],H,I,.nil,h⟩
theorem xN {X:Cx}{pos:Pos}{k v:Expr}{ks:List (Option Expr)}{vs:Zx}{tk tv:TE}{trs:List (TE×TE)}(hk:PE X k tk) (hv:PE X v tv) (hr:Tw X pos ks vs trs) :
  Tw X pos (some k::ks) (v::vs) ((tk,tv)::trs):=fun pins s σ H Q I h =>
 pairTrees_cons_walk (bP (hk pins s σ H _ I h) fun u s1 ⟨x,H1,I1,rx,q1⟩=>bP (hv pins s1 σ H1 _ I1 q1) fun w2 s2 ⟨y,H2,I2,ry,q2⟩ =>
  bP (hr pins s2 σ H2 _ I2 q2) fun ws s3 ⟨ps,H3,I3,rel,q3⟩=>⟨(x,y)::ps,H3,I3,.cons ⟨rx,ry⟩ rel,q3⟩)
def jQ (kvs more:List (Key×V)):List (Key×V):=more.foldl (fun acc kv=>iX acc kv.1 kv.2) kvs
theorem KV.merge:∀{more:List (Key×V)}{rs:List (Key×Value)}{kvs:List (Key×V)}{vs:List (Key×Value)},KV more rs->KV kvs vs->KV (jQ kvs more) (merged vs rs):=by
 intro more rs kvs vs r;unfold KV at r
 induction r generalizing kvs vs with
 |nil=>intro q;exact q
 | @cons p q ps qs h t ih =>
  intro r0;have e:KV (iX kvs p.1 p.2) (stored vs q.1 q.2):=by
   have:=r0.put p.1 h.2;rw[←h.1];exact this
  exact ih e
theorem l4:∀(more kvs:List (Key×V)),(jQ kvs more).length<=kvs.length+more.length
 |[],kvs=>by show kvs.length<=kvs.length+0;omega
 |p::r,kvs=>by
  have h1:=l4 r (iX kvs p.1 p.2);have h2:=jT kvs p.1 p.2;show(jQ (iX kvs p.1 p.2) r).length<=_;rw[W1];omega
theorem sG {P:Program}{w:World}:∀{kvs:List (Key×V)}{ws:List (Value×Value)},VV (kvs.map fun kv=>(kV kv.1,kv.2)) ws->∃rs,Carries (mixKind P w) ws rs/\KV kvs rs
 |[],_,r=>by rw[X7] at r;cases r;exact⟨[],True.intro,.nil⟩
 |p::kvs,_,r=>by
  rw[VW] at r;cases r with
  | @cons a b as bs h t =>
   obtain⟨rs,c,q⟩:=sG (P:=P) (w:=w) t;obtain⟨b1,b2⟩:=b;exact⟨(p.1,b2)::rs,⟨jk h.1,rfl,c⟩,.cons ⟨rfl,h.2⟩ q⟩
def RA (trs:List (TE×TE)):TE:=fun σ H Q=>∀p,H p=none->uL trs σ (b6 H p (.dK [])) fun ps H2=>H2 p=some (.dK [])/\∃kvs:List (Key×V),ps=kvs.map (fun kv=>(kV kv.1,kv.2))/\kvs.length<=15/\Q (.ref p) (b6 H2 p (.dK (jQ [] kvs)))
theorem BV {X:Cx}{pos:Pos}{keys:List (Option Expr)}{values:Zx}{trs:List (TE×TE)}(h:Tw X pos keys values trs) (hall:keys.all (·.isSome)=true) (hl:keys.length=values.length) (h0:keys≠[])
  (h15:keys.length<=15):PE X (.Dict keys values pos) (RA trs):=by
 intro pins s σ H Q I q;have hn:=I.hok.fresh (VL s.heap.objs.size);have I1:=I.laid (a:=s.heap.objs.size) (o:=.dK []) (h':=s.heap.push { cls:=.type "dict",data:=.dict #[]}) (t':=s.toks) (fun _ _ q=>VH _ q) (VL _) (za s.heap I.big);refine wpAny_Dict_walk (knd:=mixKind X.prog X.w) hall hl h0 h15 (bP (h pins _ σ _ _ I1 (q _ hn)) fun ws s2 ⟨ps,H2,I2,rel,e,kvs,ep,lk,q2⟩=>?_);subst ep;obtain⟨rs,c,rk⟩:=sG (P:=X.prog) (w:=X.w) rel;obtain⟨z,hd,vs0,r0,dd⟩:=NM I2.hok e;cases r0;refine⟨rs,c,dd,fun h' dd' hs=>⟨.ref s.heap.objs.size,_,?_,rfl,q2⟩⟩;have hz:(jQ [] kvs).length<=sizeLine:=by
  have h1:=l4 kvs [];rw[Yr] at h1;rw[Wb];omega
 have he:∃q,h'.get? s.heap.objs.size=some q:=let⟨q,_,_,hq,_⟩:=dd';⟨q,hq⟩
 exact wt I2 (by rw[e];exact True.intro) hs he (Jp hz hd (rk.merge .nil) dd')
structure M2 (X:Cx) (o:Expr) (m:Str) (apos:Pos) (e f:Expr) (cpos:Pos):Prop where
 base:attributeBase o m X.env (eval o X.env)=eval o X.env
 few:((backTo cpos (starEach [e,f] X.env)).all (fun x=> !x.1)&&(backToKw cpos (keywordEach [] X.env)).all (fun x=>x.1.isSome)
  && decide (([e,f]:Zx).length+([]:List Keyword).length+(if([]:List Keyword).isEmpty then 0 else 1)<30))=true
 line:(apos.endLine==cpos.line)=true
 trees:backTo cpos (starEach [e,f] X.env)=[(false,eval e X.env),(false,eval f X.env)]
def Vi (H:Hp) (a:Addr):Prop:=(∃kvs,Rd H a (.dK kvs))\/∃kvs,Rd H a (.dT kvs)
theorem Qn {X:Cx}{pins:Zo}{σ:St}{H:Hp}{s:Shared}{a:Addr}(I:Inv X pins σ H s) (d:Vi H a) :
  s.TypeIs (.ref a) "dict"/\(∀b,Value.ref a=.ref b->∃ob,s.heap.get? b=some ob/\ob.dict=none)/\(a==sysModules)=false:=by
 rcases d with⟨kvs,e⟩|⟨kvs,e⟩
 ·obtain⟨_,hd,vs,_,dd⟩:=sB I.hok e;refine⟨dd.typeIs,fun b q=>?_,hd⟩;cases q;obtain⟨ob,_,_,h1,h2,_⟩:=dd;exact⟨ob,h1,h2.2.1⟩
 ·obtain⟨_,hd,xs,_,dd⟩:=sy I.hok e;refine⟨dd.typeIs,fun b q=>?_,hd⟩;cases q;obtain⟨ob,_,_,h1,h2,_⟩:=dd;exact⟨ob,h1,h2.2.1⟩
section
variable {X:Cx}{pins:Zo}{σ:St}{H:Hp}{s:Shared}{a:Addr}{y d:V}{u r:Value}{o:Option V}{A:Around}{E:Zm}
theorem QA {Q:Zm}(hu:A.units+1<cLine) (I:Inv X pins σ H s) (g:jf H a y o) (ry:aV y u) (rd:aV d r) (h:∀w' s',Inv X pins σ H s'->aV (o.getD d) w'->Q w' s') :
  wpAny (model X.prog X.w) A (call (.builtin "dict.get") [.ref a,u,r]) Q E s:=by
 rcases g with⟨kvs,k,e,ey,l⟩|⟨kvs,k,b,e,ey,eb,l⟩
 ·subst ey;obtain⟨z,hd,vs,rel,dd⟩:=sB I.hok e;refine call_meetsIn Yd dd.typeIs Z6 (YT _ _ _) (meets_dict_get_default (mixKind X.prog X.w) a (jk ry) hd r) ⟨_,dd.mapOf,h _ _ (I.tok _) ?_⟩;rw[l];exact(rel.val k).getD rd
 ·subst ey;cases(show u=Value.ref b from ry);obtain⟨z,hd,xs,rel,dd⟩:=sy I.hok e;refine call_meetsIn Yd dd.typeIs Z6 (YT _ _ _) (meetsH_dict_get_default (tupleKind (mixKind X.prog X.w)) a b hd r) ⟨Xh hu,k,xs,nX I.hok eb,dd,h _ _ (I.tok _) ?_⟩;rw[l];exact(rel.val k).getD rd
end
def Ou (td ty tx:TE):TE:=fun σ H Q=>td σ H fun x H1=>∃a,x=.ref a/\Vi H1 a/\ty σ H1 fun y H2=>tx σ H2 fun z H3=>∃o,jf H3 a y o/\Q (o.getD z) H3
section
variable {X:Cx}{o e f:Expr}{apos cpos:Pos}{td ty tx:TE}
theorem Hi (hu:X.A.units+1<cLine) (ho:PE X o td) (he:PE X e ty) (hf:PE X f tx) (m:M2 X o "get" apos e f cpos):PE X (.Call (.Attribute o "get" apos) [e,f] [] cpos) (Ou td ty tx):=by
 intro pins s σ H Q I h;refine wpAny_Call_method m.base m.few m.line PySem.F.plainAttrs_dict Yd PySem.F.type_dict_get (bP (ho pins s σ H _ I h) fun u s1 ⟨x,H1,I1,rx,a,ex,d,q1⟩=>?_);subst ex;obtain rfl:u=Value.ref a:=rx;obtain⟨t1,t2,_⟩:=Qn I1 d;refine⟨t1,t2,?_⟩;rw[m.trees];refine Z5 rfl (Calls.evalArgs_plain (YE (bP (he pins s1 σ H1 _ I1 q1) fun iv s2 ⟨y,H2,I2,ry,q2⟩ =>
  YE (bP (hf pins s2 σ H2 _ I2 q2) fun fv s3 ⟨z,H3,I3,rz,ov,g,q3⟩=>Calls.spliced_nil ?_))))
 exact QA hu I3 g ry rz fun w' s4 I4 rw'=>⟨_,H3,I4,rw',q3⟩
end
section
variable {X:Cx}{pins:Zo}{σ:St}{H:Hp}{s:Shared}{a:Addr}{kvs:List (Key×V)}{A:Around}{E:Zm}
end
section
variable {X:Cx}{pins:Zo}{σ:St}{H:Hp}{s:Shared}{a:Addr}{y:V}{u:Value}{A:Around}{E:Zm}
end
end L2
namespace Att
open PySem PySem.W PySem.Calls PyProof.Rows
theorem oQ {P:Params}{h:Heap}:∀(ns:ZC) (vs:Zt),WellAll P h vs (ns.map WData.int)->IntsAre vs ns:=by
 intro ns
 induction ns with
 |nil =>
  intro vs w;rw[X7] at w;cases w;exact .nil
 |cons n ns ih =>
  intro vs w;rw[VW] at w;cases w with
  |cons a b =>
   cases a;exact .cons _ _ (ih _ b)
theorem DY {l:OpenLaw}{n:Nat}(hn:l.most=some n) {P:Params}{h:Heap}{args:List WData}{vals:Zt}
  (hpre:l.row.toRowW.claim.pre args=true) (hwl:WellAll P h vals args) :
  ∃a vs ns,vals=[Value.ref a]/\args=[WData.list (ns.map WData.int)]/\h.get? a=some { cls:=.type "list",data:=.seq vs.toArray}/\IntsAre vs ns/\ns.length<=n:=by
 have hsh:WShape.hasAll [] args [.list .int]=true:=(pre_splitW hpre).1;have hc:l.pre.holds [] { args:=args}=true:=(pre_splitW hpre).2;obtain⟨d,r,rfl,h1,h2⟩:=hasAllW_cons hsh;obtain rfl:=hasAllW_nil h2;obtain⟨xs,rfl,h3⟩:=hasW_list h1;obtain⟨ns,rfl⟩:=items_int h3;have hlen:ns.length<=n:=by
  unfold OpenLaw.pre at hc;have h4:(WTm.not (.lt (.lit (.int (n:Int))) (.len (.arg 0)))).holds [] { args:=[.list (ns.map .int)]}=true:=by
   have h4:=(holds_andW hc).1;rw[hn] at h4;exact h4
  have h5:=condW_of h4 (w_not (w_lt w_lit (w_len_list (w_arg rfl))));rw[VS] at h5;refine Nat.le_of_not_lt fun q=>?_
  have q':(n:Int)<((ns.length:Nat):Int):=by omega
  first
   |(rw[VX q'] at h5;exact absurd h5 (by decide))
   |(simp at h5;omega)
 cases hwl with
 |cons w1 w2 =>
  cases w2;cases w1 with
  |list ho hall=>exact⟨_,_,ns,rfl,rfl,ho,oQ ns _ hall,hlen⟩
theorem E4 (l:OpenLaw) (args:List WData):l.row.toRowW.claim.post args (.bool true) args=true :=
 postW_of (r:=l.row.toRowW) (X:=(true==true))
  (show WShape.has [] (.bool true) .bool=true by first|rfl|decide|simp[WShape.has,WShape.arms,WShape.armsAll])
  (show(WTm.eq .res (.lit (.bool true))).value [] { args:=args,res:=some (.bool true),after:=args}=some (.bool (true==true)) from w_eq_bool (w_res rfl) w_lit) rfl
theorem attach_call {l:OpenLaw}{n:Nat}{q:Program}{loose:Zv}{XP:(Zn)->Heap->Prop}{YP:World->Heap->Prop}{d:DefRec}
  (hn:l.most=some n) (hdf:d.params.defaults=[])
  (call:∀(w:World) (s₀ s₁:Shared) (mg mb:Zn) (fa:Addr) (o:Obj) (pm cd doc:Value) (a:Addr) (vs:Zt) (ns:ZC),
   Ground q loose [] XP w s₀ mg mb s₁.heap->YP w s₁.heap ->
   s₁.heap.get? fa=some o->o.data=.func (docDef d.name d.params d.body d.scope pm cd doc)->s₁.heap.CodeRec cd d.name->mg d.name=some (.ref fa) ->
   s₁.heap.get? a=some { cls:=.type "list",data:=.seq vs.toArray}->IntsAre vs ns->ns.length<=n->s₁.gens= #[] ->
   codeAny (model l.prog w) callerA (.call (.ref fa) ⟨[.ref a],[]⟩) (fun r s'=>r=.ok (.ret (.bool true))/\OldK s₁.heap s'.heap/\s'.os=s₁.os/\AllBare s'.gens) s₁) :
  WalkO q loose XP YP l.row.toRowW d [] (fun f vs=>PySem.call f vs):=by
 intro w s₀ s₁ mg mb G Y fa o pm cd doc dV kV ho hd hcd hD hmg hg args vals as hpre hlay hrd hwl hlo;obtain rfl:dV=.none:=Dflts.none hD hdf;obtain rfl:kV=.none:=Dflts.noKw hD;obtain⟨a,vs,ns,rfl,rfl,hobj,hints,hlen⟩:=DY hn hpre hwl;refine enter_call (Yy (call w s₀ s₁ mg mb fa o pm cd doc a vs ns G Y ho (fd_plain hd) hcd hmg hobj hints hlen hg) fun r s' hq=>?_);obtain⟨rfl,h2,h3,h4⟩:=hq;exact⟨.inl ⟨.bool true,.bool true,[],rfl,fun _=>rfl,.bool true,E4 l _,fun _=>⟨List.Pairwise.nil,fun _ hm=>(nomatch hm)⟩⟩,h2,h3,h4⟩
section
variable {prog:Program}{w:World}{A:Around}{E:Zm}{s:Shared}{K:Frag}
end
end Att
namespace L2
open PySem PySem.Spec PyProof.Rows
theorem tj:∀{vs:Zt}{ns:ZC},IntsAre vs ns->aW (ns.map V.int) vs
 |_,_,.nil=>.nil
 |_,_,.cons n t h=>.cons ⟨t,rfl⟩ (tj h)
def QU (H:Hp):Prop:=∀b,H b=none\/∃o xs,H b=some (.frz o (.lst xs))
theorem IJ {P:Program}{w:World}{K:Zl}{mg mb:Zn}{CX:FH}{k:Nat}{fa a:Addr}{fd:FuncData}{x:Str}{sp:Sp}{s₁:Shared}{vs:Zt}{ns:ZC}
  (KX:K.In s₁.heap) (hns:s₁.heap.Ns mainGlobals mg) (hb:s₁.heap.Ns builtinsNs mb) (hbb:∀x:Str,x≠"__name__"->mb x=bootBuiltins x) (hlim:s₁.heap.NoLimit) (hg:s₁.gens= #[])
  (ha:s₁.heap.get? a=some { cls:=.type "list",data:=.seq vs.toArray}) (hi:IntsAre vs ns) (hl:ns.length<=sizeLine) (hr:aQ k callerA)
  (F:∀base:Heap,K.In base->base.Ns mainGlobals mg->ei P w K mg base CX k fa fd [x] sp) (hbind:∀(s:Shared) (u:Value),BindsTo s fd ⟨[u],[]⟩ [(x,u)])
  (hsp:∀H:Hp,QU H->gR K H a (ns.map V.int)->sp [.ref a] H (fun v _=>v=.bl true) fun _ _ _=>False)
  (hCX:∀H e s',CX [] H s₁ (fun _ _ _=>False) e s'->False) :
  codeAny (model P w) callerA (.call (.ref fa) ⟨[.ref a],[]⟩) (fun r s'=>r=.ok (.ret (.bool true))/\OldK s₁.heap s'.heap/\s'.os=s₁.os/\AllBare s'.gens) s₁:=by
 have rv:=tj hi;have lenV:=hi.length;have core:∀H:Hp,QU H->gR K H a (ns.map V.int)->jn P w H s₁.heap->(∀b,H b≠none->b=a)->(H a≠none->K.lookup a=none) ->
   codeAny (model P w) callerA (.call (.ref fa) ⟨[.ref a],[]⟩) (fun r s'=>r=.ok (.ret (.bool true))/\OldK s₁.heap s'.heap/\s'.os=s₁.os/\AllBare s'.gens) s₁:=by
  intro H hOq hS hok hA hK;have base_of:∀{b:Addr}{o:Obj},s₁.heap.get? b=some o->H b=none->(vG s₁.heap H).get? b=some o:=fun e n=>J1 e n
  have noA:∀{b:Addr}{o:Obj}{es:Array DictEntry}{ep:Nat},s₁.heap.get? b=some o->o.data=.dict es ep->H b=none:=fun{b o es ep} e d=>by
   cases q:H b with
   |none=>rfl
   |some u =>
    have e':b=a:=hA b (by rw[q];simp);subst e';rw[ha] at e;cases e;have d':Data.seq vs.toArray _=Data.dict es ep:=d;cases d'
  have nsK:∀{b:Addr}{m:Zn},s₁.heap.Ns b m->(vG s₁.heap H).Ns b m:=fun{b m} ⟨o,es,ep,e,d,r⟩=>⟨o,es,ep,base_of e (noA e d),d,r⟩
  have hKb:K.In (vG s₁.heap H):=fun b o e=>base_of (KX b o e) (by
   cases q:H b with
   |none=>rfl
   |some u =>
    have e':b=a:=hA b (by rw[q];simp);subst e';rw[hK (by rw[q];simp)] at e;cases e)
  have hM:Mod K mg (vG s₁.heap H):=⟨hKb,nsK hns,⟨mb,nsK hb,hbb⟩,let⟨mc,h1,h2⟩:=hlim;⟨mc,nsK h1,h2⟩⟩
  have e0:Bp P w K mg (vG s₁.heap H) callerA [] s₁ H:=⟨rfl,hM,fun b o e=>Ln e,Xg (ES _ _),trivial,fun b hb=>absurd (show b∈([]:Zr) from hb) (by simp),hok,.of_eq hg⟩
  refine Yy ((F _ hKb (nsK hns)).run callerA [] s₁ H ⟨[.ref a],[]⟩ [.ref a] [.ref a] _ _ hr e0 (hbind s₁ (.ref a)) (.cons rfl .nil) (hsp H hOq hS)) fun r s' h=>?_
  cases r with
  |error e=>exact(hCX H e s' h).elim
  |ok fl =>
   cases fl with
   |next=>exact False.elim h
   |brk=>exact False.elim h
   |cont=>exact False.elim h
   |ret u =>
    obtain⟨v,H',os,bare,un,hok',r',q⟩:=h;have q':v=.bl true:=q;subst q';obtain rfl:u=Value.bool true:=r';refine⟨rfl,OldK.of_keep fun b o e=>?_,os,bare⟩;cases q:H b with
    |none=>exact un.keep b o e q (by intro z;exact absurd (show b∈([]:Zr) from z) (by simp)) (by simp)
    |some u =>
     rcases hOq b with z|⟨ob,xs,z⟩
     ·rw[q] at z;cases z
     ·have z2:=un.frzs b ob _ z;obtain⟨e1,_⟩:=hok b _ z;obtain⟨e2,_⟩:=hok' b _ z2;rw[e] at e1;cases e1;exact e2
 cases hk:K.lookup a with
 |some o =>
  have e:=KX a o hk;rw[ha] at e;cases e;refine core (fun _=>none) (fun _=>.inl rfl) (.inr ⟨_,vs.toArray,_,hk,rfl,rfl,rfl,by rw[VT,lenV];exact hl,by simpa using rv⟩) (fun b u z=>by have z':(none:Option HO)=some u:=z;cases z') (fun b z=>absurd rfl z) fun z=>absurd rfl z
 |none =>
  refine core (fun b=>if b=a then some (.frz { cls:=.type "list",data:=.seq vs.toArray} (.lst (ns.map V.int))) else none) (fun b=>?_) (.inl (.inr ⟨{ cls:=.type "list",data:=.seq vs.toArray},VJ rfl⟩)) (fun b u z=>?_) (fun b z=>?_) fun _=>hk
  ·by_cases hb:b=a
   ·exact .inr ⟨_,_,VJ hb⟩
   ·exact .inl (VN hb)
  ·by_cases hb:b=a
   ·have z':=(VJ hb).symm.trans z;cases z';subst hb;exact⟨ha,by rw[VS];exact hl,vs,_,rv,ha⟩
   ·have z':=(VN hb).symm.trans z;cases z'
  ·by_cases hb:b=a
   ·exact hb
   ·exact absurd (VN hb) z
theorem Ka {l:PySem.W.OpenLaw}{n k:Nat}{q:Program}{loose:Zv}{XP:(Zn)->Heap->Prop}{YP:World->Heap->Prop}{d:DefRec}{K:Params->Zl}{CX:World->FH}{sp:World->Sp}{x:Str}
  (hn:l.most=some n) (hn2:n<=sizeLine) (hdf:d.params.defaults=[]) (hr:aQ k callerA)
  (hY:∀(w:World) (h:Heap),YP w h->(K w.params).In h)
  (F:∀(w:World) (mg:Zn) (fa:Addr) (h:Heap),(K w.params).In h->h.Ns mainGlobals mg->mg d.name=some (.ref fa) ->
   ∃fd:FuncData,(∀(s:Shared) (u:Value),BindsTo s fd ⟨[u],[]⟩ [(x,u)]) /\
    ∀base:Heap,(K w.params).In base->base.Ns mainGlobals mg->ei l.prog w (K w.params) mg base (CX w) k fa fd [x] (sp w))
  (hsp:∀(w:World) (H:Hp) (a:Addr) (ns:ZC),ns.length<=n->QU H->gR (K w.params) H a (ns.map V.int)->sp w [.ref a] H (fun v _=>v=.bl true) fun _ _ _=>False)
  (hCX:∀(w:World) (H:Hp) (s:Shared) (e:Value) (s':Shared),CX w [] H s (fun _ _ _=>False) e s'->False) :
  PySem.W.WalkO q loose XP YP l.row.toRowW d [] (fun f vs=>PySem.call f vs):=by
 refine Att.attach_call hn hdf fun w s₀ s₁ mg mb fa o pm cd doc a vs ns G Y ho hd hcd hmg hobj hints hlen hg=>?_
 have KX:=hY w _ Y;obtain⟨fd,hb,hF⟩:=F w mg fa _ KX G.T.g hmg;exact IJ KX G.T.g G.T.b G.T.builtins G.T.nolimit hg hobj hints (Wh hlen hn2) hr hF hb (fun H hOq hS=>hsp w H a ns hlen hOq hS) fun H e s'=>hCX w H s₁ e s'
def fb (s:Stmt):Arguments:=match s with
 |.FunctionDef _ a _ _ _ _ _ _ _ _=>a
 |_=>{ posonlyargs:=[],args:=[],vararg:=none,kwonlyargs:=[],kw_defaults:=[],kwarg:=none,defaults:=[]}
def bU (s:Stmt):Zz:=match s with
 |.FunctionDef _ _ b _ _ _ _ _ _ _=>b
 |_=>[]
def af (s:Stmt):Scope:=match s with
 |.FunctionDef _ _ _ _ _ _ sc _ _ _=>sc
 |_=>{ kind:=.function,names:=[],isGenerator:=false,isCoroutine:=false}
abbrev mZ:FH:=fun _ _ _ _ _ _=>False
abbrev E0:XK:=fun _ _ _=>False
theorem Ho {X:Cx}:fW mZ X E0:=fun _ _ _ _ _ _ _ h=>h.elim
structure wS (K:Zl) (x qual:Str) (st:Stmt) (f:Addr) (fd:FuncData):Prop where
 ex:∃(oc:Value) (od:Zw) (kV doc pm:Value) (an:Zw) (cdv ct:Value) (osl:Zp),
  fd=PySem.W.fnOf x qual (fb st) (bU st) (af st) .none kV doc pm an cdv ct/\K.lookup f=some ⟨oc,od,.func fd,osl⟩/\PySem.W.codeIn K cdv qual=true
 kp:PySem.W.keepIn K (.ref f)=true
section
variable {P:Program}{w:World}{K:Zl}{mg:Zn}{base:Heap}
theorem wS.ok {x qual:Str}{st:Stmt}{f:Addr}{fd:FuncData}{N ps:Zv}{k:Nat}{sp:Sp}(F:wS K x qual st f fd) (S:cX N ps (af st)) (len:∀vs H Q E,sp vs H Q E->vs.length=ps.length)
  (hbody:∀(cdv:Value) (A:Around) (outer:Zy) (s:Shared) (H:Hp) (vs:List V) (Q:VK) (E:XK),aQ k (A.deeper (envOfC qual (af st) s.heap.objs.size f cdv))->sp vs H Q E ->
   ∃t,Dr (fP mZ P w K mg base N qual (af st) f cdv A outer s H E).nox (bU st) t/\t { nx:=fun _ H'=>Q .non H',rt:=Q} (start N vs) H):ei P w K mg base mZ (k+1) f fd ps sp:=by
 obtain⟨oc,od,kV,doc,pm,an,cdv,ct,osl,rfl,lk,hcd⟩:=F.ex;refine Je lk hcd S len fun A outer s H vs Q E hr hsp=>?_
 obtain⟨t,h,q⟩:=hbody cdv A outer s H vs Q E hr hsp;exact⟨t,h.nox,q⟩
theorem B6 {x qual:Str}{st:Stmt}{f:Addr}{oc:Value}{od an:Zw}{osl:Zp}{kV doc pm cdv ct:Value}(l:K.lookup f=some ⟨oc,od,.func (PySem.W.fnOf x qual (fb st) (bU st) (af st) .none kV doc pm an cdv ct),osl⟩)
  (c:PySem.W.codeIn K cdv qual=true) (k:PySem.W.keepIn K (.ref f)=true):wS K x qual st f (PySem.W.fnOf x qual (fb st) (bU st) (af st) .none kV doc pm an cdv ct):=⟨⟨oc,od,kV,doc,pm,an,cdv,ct,osl,rfl,l,c⟩,k⟩
end
section
variable {X:Cx}
theorem pv (i:Nat) {x:Str}{pos:Pos}(hN:X.N[i]? =some x:=by rfl) (hv:MH X.env.scope x:=by first|exact Or.inl rfl|exact Or.inr (Or.inl rfl)|exact Or.inr (Or.inr rfl)) (hd:(x==("__debug__":Str))=false:=by decide)
  (hcd:(x==("__classdict__":Str))=false:=by decide):PE X (.Name x pos) (sQ i):=uU hN hv hd hcd
end
def Same (H H':Hp):Prop:=∀b o,H b=some o->H' b=some o
theorem Same.refl (H:Hp):Same H H:=fun _ _ h=>h
theorem Same.trans {H H1 H2:Hp}(a:Same H H1) (b:Same H1 H2):Same H H2:=fun c o h=>b c o (a c o h)
theorem Same.seq {K:Zl}{H H':Hp}{a:Addr}{xs:List V}(e:Same H H') (h:gR K H a xs):gR K H' a xs:=by
 rcases h with(h|⟨o,h⟩)|h
 ·exact .inl (.inl (e _ _ h))
 ·exact .inl (.inr ⟨o,e _ _ h⟩)
 ·exact .inr h
end L2
set_option maxHeartbeats 4000000
namespace M
open PySem PySem.Spec PyProof.Rows L2
abbrev DK:=Sum Int (Zu)
inductive D where
 |non|bl (b:Bool)|int (i:Int)|str (x:Zu)|tup (xs:List D)|lst (xs:List D)|dic (ks:List DK) (vs:List D)|ref (k:Nat)
abbrev ZE:=List D
abbrev ZF:=Option D
def dk:DK->Key
 |.inl i=>.inl i
 |.inr x=>.inr ⟨x.toArray⟩
inductive Cell where
 |lst (ds:ZE)|dic (ks:List DK) (vs:ZE)|dead
 |exz (c:Str)|exn (c:Str) (j:Nat)|xdc (nm:Str) (d:D)|obj (c:Str) (ns:Zv) (ds:ZE)
abbrev Mu:=List Cell
structure TM where
 c:Nat
 d:D
inductive Res (O:Type) where
 |ok (a:O) (U:Mu)
 |exc (x:TM) (U:Mu)
 |bad
noncomputable def Res.bind :Res O->(O->Mu->Res β)->Res β
 |.ok a U,f=>f a U
 |.exc x U,_=>.exc x U
 |.bad,_=>.bad
def ofO (U:Mu):Option O->Res O
 |some a=>.ok a U
 |none=>.bad
@[simp] theorem ae {O β:Type}(a:O) (U:Mu) (f:O->Mu->Res β):(Res.ok a U).bind f=f a U:=rfl
@[simp] theorem mS {O β:Type}(x:TM) (U:Mu) (f:O->Mu->Res β):(Res.exc x U:Res O).bind f=.exc x U:=rfl
@[simp] theorem mT {O β:Type}(f:O->Mu->Res β):(Res.bad:Res O).bind f=.bad:=rfl
@[simp] theorem iG (U:Mu) (a:O):ofO U (some a)=.ok a U:=rfl
@[simp] theorem m9 (U:Mu):ofO U (none:Option O)=.bad:=rfl
def ai (U:Mu):D->D
 |.ref k=>match U[k]? with
  |some (.lst ds)=>.lst ds
  |some (.dic ks vs)=>.dic ks vs
  |_=>.ref k
 |d=>d
@[simp] theorem kI (U:Mu):ai U .non=.non:=rfl
@[simp] theorem km (U:Mu) (b:Bool):ai U (.bl b)=.bl b:=rfl
@[simp] theorem aL (U:Mu) (i:Int):ai U (.int i)=.int i:=rfl
@[simp] theorem iQ (U:Mu) (x:Zu):ai U (.str x)=.str x:=rfl
@[simp] theorem iP (U:Mu) (x:ZE):ai U (.tup x)=.tup x:=rfl
@[simp] theorem kJ (U:Mu) (x:ZE):ai U (.lst x)=.lst x:=rfl
@[simp] theorem fB (U:Mu) (x:List DK) (y:ZE):ai U (.dic x y)=.dic x y:=rfl
abbrev En:=List (ZF)
abbrev MX:=En->Mu->Res D
abbrev MB:=En->Mu->Res Bool
abbrev l7:=En->Mu->Res (ZE)
inductive Out where
 |nx (ρ:En)|rt (d:D)|bk (ρ:En)|ct (ρ:En)
abbrev bD:=En->Mu->Res Out
mutual
def aG (K:Zl) (F:Hp) (O:Zr):D->V->Prop
 |.non,v=>v=.non
 |.bl b,v=>v=.bl b
 |.int i,v=>v=.int i
 |.str x,v=>v=.str ⟨x.toArray⟩
 |.tup ds,v=>∃a vs,v=.ref a/\SqT K F a vs/\Reps K F O ds vs
 |.lst ds,v=>∃a vs,v=.ref a/\gR K F a vs/\Reps K F O ds vs
 |.dic ks ds,v=>∃a vs,v=.ref a/\F a=some (.dK ((ks.map dk).zip vs))/\ks.length=ds.length/\Reps K F O ds vs
 |.ref k,v=>∃a,O[k]? =some a/\v=.ref a
def Reps (K:Zl) (F:Hp) (O:Zr):ZE->List V->Prop
 |[],vs=>vs=[]
 |d::ds,vs=>∃v r,vs=v::r/\aG K F O d v/\Reps K F O ds r
end
structure Ext (O:Zr) (F:Hp) (O':Zr) (F':Hp):Prop where
 fr:Same F F'
 al:∀(k:Nat) (a:Addr),O[k]? =some a->O'[k]? =some a
theorem Ext.refl (O:Zr) (F:Hp):Ext O F O F:=⟨Same.refl F,fun _ _ h=>h⟩
theorem Ext.trans (a:Ext O F O1 F1) (b:Ext O1 F1 O2 F2):Ext O F O2 F2:=⟨a.fr.trans b.fr,fun k x h=>b.al k x (a.al k x h)⟩
theorem Same.tup {K:Zl}{H H':Hp}(e:Same H H') (h:SqT K H a xs):SqT K H' a xs:=by
 rcases h with(h|⟨o,h⟩)|h
 ·exact .inl (.inl (e _ _ h))
 ·exact .inl (.inr ⟨o,e _ _ h⟩)
 ·exact .inr h
section
variable {K:Zl}{F F' H H':Hp}{O O':Zr}
mutual
theorem aG.mono (e:Ext O F O' F'):∀{d:D}{v:V},aG K F O d v->aG K F' O' d v
 |.non,_,h=>h
 |.bl _,_,h=>h
 |.int _,_,h=>h
 |.str _,_,h=>h
 |.tup ds,v,h=>by
  unfold aG at h ⊢;obtain⟨a,vs,hv,hs,hr⟩:=h;exact⟨a,vs,hv,Same.tup e.fr hs,Reps.mono e hr⟩
 |.lst ds,v,h=>by
  unfold aG at h ⊢;obtain⟨a,vs,hv,hs,hr⟩:=h;exact⟨a,vs,hv,e.fr.seq hs,Reps.mono e hr⟩
 |.dic ks ds,v,h=>by
  unfold aG at h ⊢;obtain⟨a,vs,hv,hs,hl,hr⟩:=h;exact⟨a,vs,hv,e.fr _ _ hs,hl,Reps.mono e hr⟩
 |.ref k,v,h=>by
  unfold aG at h ⊢;obtain⟨a,ha,hv⟩:=h;exact⟨a,e.al k a ha,hv⟩
theorem Reps.mono (e:Ext O F O' F'):∀{ds:ZE}{vs:List V},Reps K F O ds vs->Reps K F' O' ds vs
 |[],_,h=>h
 |d::ds,vs,h=>by
  unfold Reps at h ⊢;obtain⟨v,r,hv,h1,h2⟩:=h;exact⟨v,r,hv,aG.mono e h1,Reps.mono e h2⟩
end
theorem Reps.length:∀{ds:ZE}{vs:List V},Reps K F O ds vs->ds.length=vs.length
 |[],vs,h=>by unfold Reps at h;subst h;rfl
 |d::ds,vs,h=>by
  unfold Reps at h;obtain⟨v,r,hv,_,h2⟩:=h;subst hv;simp[Reps.length h2]
theorem Reps.get:∀{ds:ZE}{vs:List V}{i:Nat}{d:D},Reps K F O ds vs->ds[i]? =some d->∃v,vs[i]? =some v/\aG K F O d v
 |[],_,_,_,_,e=>by simp at e
 |d::ds,vs,0,d',h,e=>by
  unfold Reps at h;obtain⟨v,r,hv,h1,_⟩:=h;subst hv;simp at e;subst e;exact⟨v,rfl,h1⟩
 |d::ds,vs,i+1,d',h,e=>by
  unfold Reps at h;obtain⟨v,r,hv,_,h2⟩:=h;subst hv;obtain⟨u,hu,hr⟩:=Reps.get (i:=i) (d:=d') h2 (by simpa using e);exact⟨u,by simpa using hu,hr⟩
theorem Reps.append:∀{ds es:ZE}{vs us:List V},Reps K F O ds vs->Reps K F O es us->Reps K F O (ds++es) (vs++us)
 |[],_,_,_,h,h'=>by unfold Reps at h;subst h;exact h'
 |d::ds,es,vs,us,h,h'=>by
  unfold Reps at h;obtain⟨v,r,hv,h1,h2⟩:=h;subst hv;show Reps K F O (d::(ds++es)) (v::(r++us));unfold Reps;exact⟨v,_,rfl,h1,Reps.append h2 h'⟩
theorem ax:Reps K F O [] []:=by unfold Reps;rfl
theorem aa (h:aG K F O d v) (h':Reps K F O ds vs):Reps K F O (d::ds) (v::vs):=by unfold Reps;exact⟨v,vs,rfl,h,h'⟩
theorem Reps.one (h:Reps K F O [d] vs):∃v,vs=[v]/\aG K F O d v:=by
 unfold Reps at h;obtain⟨v,r,hv,h1,h2⟩:=h;unfold Reps at h2;subst h2;exact⟨v,hv,h1⟩
theorem Reps.two (h:Reps K F O [d,e] vs):∃v u,vs=[v,u]/\aG K F O d v/\aG K F O e u:=by
 unfold Reps at h;obtain⟨v,r,hv,h1,h2⟩:=h;obtain⟨u,hr,h3⟩:=h2.one;subst hr;exact⟨v,u,hv,h1,h3⟩
theorem Reps.take:∀{ds:ZE}{vs:List V}(n:Nat),Reps K F O ds vs->Reps K F O (ds.take n) (vs.take n)
 |_,_,0,_=>by simp;exact ax
 |[],vs,n+1,h=>by unfold Reps at h;subst h;exact ax
 |d::ds,vs,n+1,h=>by
  unfold Reps at h;obtain⟨v,r,hv,h1,h2⟩:=h;subst hv;simp only[List.take_succ_cons];exact aa h1 (Reps.take n h2)
theorem Reps.drop:∀{ds:ZE}{vs:List V}(n:Nat),Reps K F O ds vs->Reps K F O (ds.drop n) (vs.drop n)
 |_,_,0,h=>h
 |[],vs,n+1,h=>by unfold Reps at h;subst h;exact ax
 |d::ds,vs,n+1,h=>by
  unfold Reps at h;obtain⟨v,r,hv,h1,h2⟩:=h;subst hv;exact Reps.drop n h2
theorem Reps.set (h':aG K F O d v):∀{ds:ZE}{vs:List V}(n:Nat),Reps K F O ds vs->Reps K F O (ds.set n d) (vs.set n v)
 |[],vs,n,h=>by unfold Reps at h;subst h;exact ax
 |e::ds,vs,0,h=>by
  unfold Reps at h;obtain⟨u,r,hv,h1,h2⟩:=h;subst hv;exact aa h' h2
 |e::ds,vs,n+1,h=>by
  unfold Reps at h;obtain⟨u,r,hv,h1,h2⟩:=h;subst hv;exact aa h1 (Reps.set h' n h2)
end
def cA (K:Zl) (x:Str):Addr:=match PySem.W.nsIn K mainGlobals x with
 |some (some (.ref C))=>C
 |_=>0
theorem dY {K:Zl}{x:Str}(h:PySem.W.nsIn K mainGlobals x=some (some (.ref C))):cA K x=C:=by unfold cA;rw[h]
def excP (a:Addr) (C:Value) (dx:Zw):Heap->Prop:=fun h=>∃vs sl,h.get? a=some ⟨C,dx,.fields vs,sl⟩
def fX (K:Zl) (O:Zr) (F H:Hp) (a:Addr):Cell->Prop
 |.lst ds=>F a=none/\∃vs,H a=some (.lst vs)/\Reps K F O ds vs
 |.dic ks ds=>F a=none/\∃vs,H a=some (.dK ((ks.map dk).zip vs))/\ks.length=ds.length/\Reps K F O ds vs
 |.dead=>True
 |.exn C j=>F a=none/\∃dx,O[j]? =some dx/\H a=some (.ext (excP a (.ref (cA K C)) (some dx)))
 |.exz C=>F a=none/\H a=some (.ext (excP a (.ref (cA K C)) none))
 |.xdc nm d=>F a=none/\∃v,H a=some (.xd [(nm,v)])/\aG K F O d v
 |.obj C ns ds=>F a=none/\∃dx vs,H a=some (.ins (cA K C) dx (ns.zip vs))/\ns.length=ds.length/\Reps K F O ds vs
theorem fX.live {K:Zl}{O:Zr}{F H:Hp}(h:fX K O F H a c) (hd:c≠.dead):F a=none/\∃o,H a=some o:=by
 cases c with
 |dead=>exact absurd rfl hd
 |lst ds=>exact⟨h.1,let⟨_,_,z,_⟩:=h;⟨_,z⟩⟩
 |dic ks ds=>exact⟨h.1,let⟨_,_,z,_⟩:=h;⟨_,z⟩⟩
 |exn C j=>exact⟨h.1,let⟨_,_,_,z⟩:=h;⟨_,z⟩⟩
 |exz C=>exact⟨h.1,_,h.2⟩
 |xdc nm d=>exact⟨h.1,let⟨_,_,z,_⟩:=h;⟨_,z⟩⟩
 |obj C ns ds=>exact⟨h.1,let⟨_,_,_,z,_⟩:=h;⟨_,z⟩⟩
theorem fX.go {K:Zl}{O O':Zr}{F H F' H':Hp}(h:fX K O F H a c) (e:Ext O F O' F') (hf:c≠.dead->F' a=F a) (hh:c≠.dead->H' a=H a):fX K O' F' H' a c:=by
 cases c with
 |dead=>trivial
 |lst ds=>obtain⟨h1,vs,h2,h3⟩:=h;exact⟨by rw[hf (by simp)];exact h1,vs,by rw[hh (by simp)];exact h2,h3.mono e⟩
 |dic ks ds=>obtain⟨h1,vs,h2,hl,h3⟩:=h;exact⟨by rw[hf (by simp)];exact h1,vs,by rw[hh (by simp)];exact h2,hl,h3.mono e⟩
 |exn C j=>obtain⟨h1,dx,h2,h3⟩:=h;exact⟨by rw[hf (by simp)];exact h1,dx,e.al _ _ h2,by rw[hh (by simp)];exact h3⟩
 |exz C=>obtain⟨h1,h2⟩:=h;exact⟨by rw[hf (by simp)];exact h1,by rw[hh (by simp)];exact h2⟩
 |xdc nm d=>obtain⟨h1,v,h2,h3⟩:=h;exact⟨by rw[hf (by simp)];exact h1,v,by rw[hh (by simp)];exact h2,h3.mono e⟩
 |obj C ns ds=>obtain⟨h1,dx,vs,h2,hl,h3⟩:=h;exact⟨by rw[hf (by simp)];exact h1,dx,vs,by rw[hh (by simp)];exact h2,hl,h3.mono e⟩
structure ZS where
 z:Hp
 a0:Zr
 f0:Hp
def ZS.up (Z:ZS) (p:Addr) (o:HO):ZS:={ Z with z:=b6 Z.z p o}
theorem fJ {Z:ZS}{p b:Addr}(h:b≠p):(Z.up p o).z b=Z.z b:=ak h
theorem dI {Z:ZS}{p:Addr} :(Z.up p o).z p=some o:=aw
structure RH (K:Zl) (Z:ZS) (O:Zr) (F H:Hp) (U:Mu):Prop where
 sub:Same F H
 len:O.length=U.length
 cell:∀(k:Nat) (a:Addr) (c:Cell),O[k]? =some a->U[k]? =some c->fX K O F H a c
 zs:Same Z.z H
 zf:∀(a:Addr) (o:HO),Z.z a=some o->F a=none
 zc:∀(k:Nat) (a:Addr) (c:Cell),O[k]? =some a->U[k]? =some c->c≠.dead->Z.z a=none
 dis:∀(j k:Nat) (a:Addr) (c c':Cell),O[j]? =some a->O[k]? =some a->U[j]? =some c->U[k]? =some c'->c≠.dead->c'≠.dead->j=k
 ext:Ext Z.a0 Z.f0 O F
structure RS (K:Zl) (Z:ZS) (O:Zr) (F H:Hp) (σ:L2.St) (ρ:En) (U:Mu):Prop where
 hp:RH K Z O F H U
 len:ρ.length=σ.length
 sl:∀(i:Nat) (d:D),ρ[i]? =some (some d)->∃v,σ[i]? =some (some v)/\aG K F O d v
theorem RS.to {K:Zl}{Z:ZS}{O O':Zr}{F H F' H':Hp}(r:RS K Z O F H σ ρ U) (h:RH K Z O' F' H' U') (e:Ext O F O' F'):RS K Z O' F' H' σ ρ U' :=
 ⟨h,r.len,fun i d hd=>let⟨v,h1,h2⟩:=r.sl i d hd;⟨v,h1,h2.mono e⟩⟩
theorem jD (hs:Same F H) (hp:H p=none):Same F (b6 F p o):=fun b u e=>by
 have:b≠p:=fun z=>by subst z;rw[hs _ _ e] at hp;cases hp
 rw[ak this];exact e
theorem RH.lay {K:Zl}{Z:ZS}{O:Zr}(o:HO) (r:RH K Z O F H U) (hp:H p=none):RH K Z O (b6 F p o) (b6 H p o) U:=by
 have sF:=jD (o:=o) r.sub hp;have ex:Ext O F O (b6 F p o):=⟨sF,fun _ _ h=>h⟩
 refine⟨fun b u e=>?_,r.len,fun k a c ha hc=>?_,fun b u e=>?_,fun b u e=>?_,r.zc,r.dis,r.ext.trans ex⟩
 ·by_cases hb:b=p
  ·subst hb;rw[aw] at e ⊢;exact e
  ·rw[ak hb] at e ⊢;exact r.sub b u e
 ·have h:=r.cell k a c ha hc;have ne:c≠.dead->a≠p:=fun hd=>let⟨_,_,z⟩:=h.live hd;az z hp
  exact h.go ex (fun hd=>ak (ne hd)) fun hd=>ak (ne hd)
 ·rw[ak (az (r.zs b u e) hp)];exact r.zs b u e
 ·rw[ak (az (r.zs b u e) hp)];exact r.zf b u e
theorem RH.layExt {K:Zl}{Z:ZS}{O:Zr}(o:HO) (r:RH K Z O F H U) (hp:H p=none):Ext O F O (b6 F p o):=⟨jD r.sub hp,fun _ _ h=>h⟩
def Pk (K:Zl) (O:Zr) (F H:Hp):D->V->Prop
 |.lst ds,v=>∃a vs,v=.ref a/\gR K H a vs/\Reps K F O ds vs
 |.dic ks ds,v=>∃a vs,v=.ref a/\H a=some (.dK ((ks.map dk).zip vs))/\ks.length=ds.length/\Reps K F O ds vs
 |d,v=>aG K F O d v
theorem RH.pk {K:Zl}{Z:ZS}{O:Zr}{F H:Hp}(r:RH K Z O F H U) (h:aG K F O d v):Pk K O F H (ai U d) v:=by
 cases d with
 |non=>exact h
 |bl b=>exact h
 |int i=>exact h
 |str x=>exact h
 |tup ds=>exact h
 |lst ds =>
  unfold aG at h;obtain⟨a,vs,hv,hs,hr⟩:=h;exact⟨a,vs,hv,r.sub.seq hs,hr⟩
 |dic ks ds =>
  unfold aG at h;obtain⟨a,vs,hv,hs,hl,hr⟩:=h;exact⟨a,vs,hv,r.sub _ _ hs,hl,hr⟩
 |ref k =>
  have h0:=h;unfold aG at h;obtain⟨a,ha,hv⟩:=h;cases e:U[k]? with
  |none=>rw[show ai U (.ref k)=.ref k by simp only[ai,e]];exact h0
  |some c =>
   have hc:=r.cell k a c ha e;cases c with
   |lst ds =>
    obtain⟨_,vs,h2,h3⟩:=hc;rw[show ai U (.ref k)=.lst ds by simp only[ai,e]];exact⟨a,vs,hv,gR.of h2,h3⟩
   |dic ks ds =>
    obtain⟨_,vs,h2,hl,h3⟩:=hc;rw[show ai U (.ref k)=.dic ks ds by simp only[ai,e]];exact⟨a,vs,hv,h2,hl,h3⟩
   |_=>rw[show ai U (.ref k)=.ref k by simp only[ai,e]];exact h0
structure EXT where
 P:ZS->TM->Mu->Prop
 mono:∀(Z:ZS) (p:Addr) (o:HO) (x:TM) (U:Mu),Z.z p=none->P Z x U->P (Z.up p o) x U
def GE (K:Zl) (EX:EXT) (Z:ZS) (O:Zr) (F:Hp) (Q:VK):Res D->Prop
 |.ok d U'=>∀v O' F' H',RH K Z O' F' H' U'->Ext O F O' F'->aG K F' O' d v->Q v H'
 |.exc x U'=>EX.P Z x U'
 |.bad=>False
def GB (K:Zl) (EX:EXT) (Z:ZS) (O:Zr) (F:Hp) (Q:Bool->Hp->Prop):Res Bool->Prop
 |.ok b U'=>∀O' F' H',RH K Z O' F' H' U'->Ext O F O' F'->Q b H'
 |.exc x U'=>EX.P Z x U'
 |.bad=>False
def GA (K:Zl) (EX:EXT) (Z:ZS) (O:Zr) (F:Hp) (Q:List V->Hp->Prop):Res (ZE)->Prop
 |.ok ds U'=>∀vs O' F' H',RH K Z O' F' H' U'->Ext O F O' F'->Reps K F' O' ds vs->Q vs H'
 |.exc x U'=>EX.P Z x U'
 |.bad=>False
def GS (K:Zl) (EX:EXT) (Z:ZS) (O:Zr) (F:Hp) (N:Bq):Res Out->Prop
 |.ok (.nx ρ') U'=>∀σ' O' F' H',RS K Z O' F' H' σ' ρ' U'->Ext O F O' F'->N.nx σ' H'
 |.ok (.bk ρ') U'=>∀σ' O' F' H',RS K Z O' F' H' σ' ρ' U'->Ext O F O' F'->N.bk σ' H'
 |.ok (.ct ρ') U'=>∀σ' O' F' H',RS K Z O' F' H' σ' ρ' U'->Ext O F O' F'->N.ct σ' H'
 |.ok (.rt d) U'=>∀v O' F' H',RH K Z O' F' H' U'->Ext O F O' F'->aG K F' O' d v->N.rt v H'
 |.exc x U'=>EX.P Z x U'
 |.bad=>False
def ME (X:Cx) (EX:EXT) (e:Expr) (m:MX):Prop:=∃t:TE,PE X e t/\∀Z O F H σ ρ U Q,RS X.K Z O F H σ ρ U->GE X.K EX Z O F Q (m ρ U)->t σ H Q
def MT (X:Cx) (EX:EXT) (e:Expr) (m:MB):Prop:=∃t:TT,PT X e t/\∀Z O F H σ ρ U Q,RS X.K Z O F H σ ρ U->GB X.K EX Z O F Q (m ρ U)->t σ H Q
def MW (X:Cx) (EX:EXT) (e:Expr) (m:MB):Prop:=∃t:TT,PW X e t/\∀Z O F H σ ρ U Q,RS X.K Z O F H σ ρ U->GB X.K EX Z O F Q (m ρ U)->t σ H Q
def MA (X:Cx) (EX:EXT) (es:Zx) (m:l7):Prop:=∃t:TA,PA X es t/\(∀Z O F H σ ρ U Q,RS X.K Z O F H σ ρ U->GA X.K EX Z O F Q (m ρ U)->t σ H Q)/\∀ρ U ds U',m ρ U=.ok ds U'->ds.length=es.length
def MS (X:Cx) (EX:EXT) (st:Stmt) (m:bD):Prop:=∃t:TS,PS X st t/\∀Z O F H σ ρ U N,RS X.K Z O F H σ ρ U->GS X.K EX Z O F N (m ρ U)->t N σ H
def MSs (X:Cx) (EX:EXT) (st:Zz) (m:bD):Prop:=∃t:TS,Dr X st t/\∀Z O F H σ ρ U N,RS X.K Z O F H σ ρ U->GS X.K EX Z O F N (m ρ U)->t N σ H
theorem GE.ext {K:Zl}{EX:EXT}{Z:ZS}{O O1:Zr}(e:Ext O F O1 F1) (h:GE K EX Z O F Q r):GE K EX Z O1 F1 Q r:=by
 cases r with
 |ok d U=>exact fun v O' F' H' R e' q=>h v O' F' H' R (e.trans e') q
 |exc x U=>exact h
 |bad=>exact h
theorem GB.ext {K:Zl}{EX:EXT}{Z:ZS}{O O1:Zr}(e:Ext O F O1 F1) (h:GB K EX Z O F Q r):GB K EX Z O1 F1 Q r:=by
 cases r with
 |ok d U=>exact fun O' F' H' R e'=>h O' F' H' R (e.trans e')
 |exc x U=>exact h
 |bad=>exact h
theorem GS.ext {K:Zl}{EX:EXT}{Z:ZS}{O O1:Zr}(e:Ext O F O1 F1) (h:GS K EX Z O F N r):GS K EX Z O1 F1 N r:=by
 cases r with
 |ok o U =>
  cases o with
  |nx ρ=>exact fun σ' O' F' H' R e'=>h σ' O' F' H' R (e.trans e')
  |bk ρ=>exact fun σ' O' F' H' R e'=>h σ' O' F' H' R (e.trans e')
  |ct ρ=>exact fun σ' O' F' H' R e'=>h σ' O' F' H' R (e.trans e')
  |rt d=>exact fun v O' F' H' R e' q=>h v O' F' H' R (e.trans e') q
 |exc x U=>exact h
 |bad=>exact h
theorem GE.step {K:Zl}{EX:EXT}{Z:ZS}{β:Type}{f:D->Mu->Res β}{G:Res β->Prop}{Q:VK}(h:G (r.bind f)) (hx:∀x U,G (.exc x U)->EX.P Z x U) (hb:¬G .bad)
  (hk:∀d U' v O' F' H',RH K Z O' F' H' U'->Ext O F O' F'->aG K F' O' d v->G (f d U')->Q v H'):GE K EX Z O F Q r:=by
 cases r with
 |ok d U=>exact fun v O' F' H' R e q=>hk d U v O' F' H' R e q h
 |exc x U=>exact hx _ _ h
 |bad=>exact hb h
theorem GB.step {K:Zl}{EX:EXT}{Z:ZS}{β:Type}{f:Bool->Mu->Res β}{G:Res β->Prop}{Q:Bool->Hp->Prop}(h:G (r.bind f)) (hx:∀x U,G (.exc x U)->EX.P Z x U) (hb:¬G .bad)
  (hk:∀d U' O' F' H',RH K Z O' F' H' U'->Ext O F O' F'->G (f d U')->Q d H'):GB K EX Z O F Q r:=by
 cases r with
 |ok d U=>exact fun O' F' H' R e=>hk d U O' F' H' R e h
 |exc x U=>exact hx _ _ h
 |bad=>exact hb h
theorem GA.step {K:Zl}{EX:EXT}{Z:ZS}{β:Type}{f:ZE->Mu->Res β}{G:Res β->Prop}{Q:List V->Hp->Prop}(h:G (r.bind f)) (hx:∀x U,G (.exc x U)->EX.P Z x U) (hb:¬G .bad)
  (hk:∀d U' v O' F' H',RH K Z O' F' H' U'->Ext O F O' F'->Reps K F' O' d v->G (f d U')->Q v H'):GA K EX Z O F Q r:=by
 cases r with
 |ok d U=>exact fun v O' F' H' R e q=>hk d U v O' F' H' R e q h
 |exc x U=>exact hx _ _ h
 |bad=>exact hb h
theorem GA.stepE {K:Zl}{EX:EXT}{Z:ZS}{β:Type}{f:ZE->Mu->Res β}{G:Res β->Prop}{Q:List V->Hp->Prop}(h:G (r.bind f)) (hx:∀x U,G (.exc x U)->EX.P Z x U) (hb:¬G .bad)
  (hk:∀d U' v O' F' H',r=.ok d U'->RH K Z O' F' H' U'->Ext O F O' F'->Reps K F' O' d v->G (f d U')->Q v H'):GA K EX Z O F Q r:=by
 cases r with
 |ok d U=>exact fun v O' F' H' R e q=>hk d U v O' F' H' rfl R e q h
 |exc x U=>exact hx _ _ h
 |bad=>exact hb h
end M
namespace M
open PySem PySem.Spec PyProof.Rows L2
section
variable {X:Cx}{EX:EXT}{e a b c:Expr}{pos:Pos}{m ma mb mc:MX}{es rest:Zx}
def a4 (i:Nat):MX:=fun ρ U=>match ρ[i]? with
 |some (some d)=>.ok d U
 |_=>.bad
def mC (d:D):MX:=fun _ U=>.ok d U
theorem AR (hN:X.N[i]? =some x) (hv:MH X.env.scope x) (hd:(x==("__debug__":Str))=false) (hcd:(x==("__classdict__":Str))=false):ME X EX (.Name x pos) (a4 i):=by
 refine⟨sQ i,uU hN hv hd hcd,fun Z O F H σ ρ U Q R g=>?_⟩;unfold a4 at g;cases e:ρ[i]? with
 |none=>rw[e] at g;exact g.elim
 |some o =>
  cases o with
  |none=>rw[e] at g;exact g.elim
  |some d =>
   rw[e] at g;obtain⟨v,h1,h2⟩:=R.sl i d e;exact⟨v,h1,g v O F H R.hp (Ext.refl _ _) h2⟩
theorem Ir (h:PE X e (tC v)) (r:∀(F:Hp) (O:Zr),aG X.K F O d v):ME X EX e (mC d) :=
 ⟨_,h,fun Z O F H σ ρ U Q R g=>g v O F H R.hp (Ext.refl _ _) (r F O)⟩
theorem fq {i j}:ME X EX (.Constant (.int i) j pos) (mC (.int i)):=Ir Hf fun _ _=>by unfold aG;rfl
theorem Sx {i j}:ME X EX (.Constant (.bool i) j pos) (mC (.bl i)):=Ir Sc fun _ _=>by unfold aG;rfl
theorem Q1 {j}:ME X EX (.Constant .none j pos) (mC .non):=Ir P9 fun _ _=>by unfold aG;rfl
theorem AS {j} (h:x=⟨cs.toArray⟩):ME X EX (.Constant (.str x) j pos) (mC (.str cs)):=Ir Ha fun _ _=>by unfold aG;rw[h]
abbrev G2:=D->D->ZF
def a6 (g:G2) (ma mb:MX):MX:=fun ρ U=>(ma ρ U).bind fun x U1=>(mb ρ U1).bind fun y U2=>ofO U2 (g (ai U2 x) (ai U2 y))
def eG (K:Zl) (r:R2) (g:G2):Prop:=∀Z O F H U a b c x y Q,RH K Z O F H U->Pk K O F H a x->Pk K O F H b y->g a b=some c ->
 (∀v F' H',RH K Z O F' H' U->Same F F'->aG K F' O c v->Q v H')->r x y H Q
def iw (X:Cx) (f:Value->Value->Sem Value) (g:G2):Prop:=∃r,jl X f r/\eG X.K r g
def eu (X:Cx) (EX:EXT) (t:TE) (m:MX):Prop:=∀Z O F H σ ρ U Q,RS X.K Z O F H σ ρ U->GE X.K EX Z O F Q (m ρ U)->t σ H Q
theorem gJ (sa:eu X EX ta ma) (sb:eu X EX tb mb) (ho:eG X.K r g):eu X EX (Rt r ta tb) (a6 g ma mb):=by
 intro Z O F H σ ρ U Q R gd;refine sa Z O F H σ ρ U _ R (GE.step (G:=GE X.K EX Z O F Q) gd (fun _ _ h=>h) (fun h=>h) fun d1 U1 v1 O1 F1 H1 R1 e1 p1 g1=>?_);refine sb Z O1 F1 H1 σ ρ U1 _ (R.to R1 e1) (GE.step (G:=GE X.K EX Z O F Q) g1 (fun _ _ h=>h) (fun h=>h) fun d2 U2 v2 O2 F2 H2 R2 e2 p2 g2=>?_);cases hg:g (ai U2 d1) (ai U2 d2) with
 |none=>rw[hg] at g2;exact g2.elim
 |some c =>
  rw[hg] at g2;exact ho Z O2 F2 H2 U2 _ _ c v1 v2 Q R2 (R2.pk (p1.mono e2)) (R2.pk p2) hg fun v F' H' R' sf rp=>g2 v O2 F' H' R' (e1.trans (e2.trans ⟨sf,fun _ _ h=>h⟩)) rp
theorem bX (ho:iw X (binaryOp op) g) (ha:ME X EX a ma) (hb:ME X EX b mb):ME X EX (.BinOp a op b pos) (a6 g ma mb):=by
 obtain⟨r,h1,h2⟩:=ho;obtain⟨ta,pa,sa⟩:=ha;obtain⟨tb,pb,sb⟩:=hb;exact⟨_,Hc h1 pa pb,gJ sa sb h2⟩
theorem j2 (ho:iw X (compareOp op) g) (ha:ME X EX a ma) (hb:ME X EX b mb) (hm:behindInMarks op b=false):ME X EX (.Compare a [op] [b] pos) (a6 g ma mb):=by
 obtain⟨r,h1,h2⟩:=ho;obtain⟨ta,pa,sa⟩:=ha;obtain⟨tb,pb,sb⟩:=hb;exact⟨_,KS h1 pa pb hm,gJ sa sb h2⟩
def Rb (d:D):Option Bool:=match d with
 |.bl b=>some b
 |_=>none
def a9 (m:MX):MB:=fun ρ U=>(m ρ U).bind fun d U1=>ofO U1 (Rb d)
def TL (X:Cx) (EX:EXT) (t:TT) (m:MB):Prop:=∀Z O F H σ ρ U Q,RS X.K Z O F H σ ρ U->GB X.K EX Z O F Q (m ρ U)->t σ H Q
theorem fw (h:eu X EX t m):TL X EX (fun σ H Q=>t σ H fun x H'=>∃k,x=.bl k/\Q k H') (a9 m):=by
 intro Z O F H σ ρ U Q R g;refine h Z O F H σ ρ U _ R (GE.step (G:=GB X.K EX Z O F Q) g (fun _ _ h=>h) (fun h=>h) fun d U1 v O1 F1 H1 R1 e1 p g1=>?_);cases d with
 |bl k=>unfold aG at p;exact⟨k,p,g1 O1 F1 H1 R1 e1⟩
 |_=>exact g1.elim
theorem jO (ho:iw X (compareOp op) g) (ha:ME X EX a ma) (hb:ME X EX b mb) (hm:behindInMarks op b=false):MT X EX (.Compare a [op] [b] pos) (a9 (a6 g ma mb)):=by
 obtain⟨r,h1,h2⟩:=ho;obtain⟨ta,pa,sa⟩:=ha;obtain⟨tb,pb,sb⟩:=hb;exact⟨_,KF h1 pa pb hm,fw (gJ sa sb h2)⟩
def mChain (g g':G2) (ma mb mc:MX):MX:=fun ρ U=>(ma ρ U).bind fun x U1=>(mb ρ U1).bind fun y U2=>(ofO U2 ((g (ai U2 x) (ai U2 y)).bind Rb)).bind fun k U3 =>
 match k with
 |true=>(mc ρ U3).bind fun z U4=>ofO U4 (g' (ai U4 y) (ai U4 z))
 |false=>.ok (.bl false) U3
theorem rF (sa:eu X EX ta ma) (sb:eu X EX tb mb) (sc:eu X EX tc mc) (ho:eG X.K r g) (ho':eG X.K r' g') :
  eu X EX (tChain r r' ta tb tc) (mChain g g' ma mb mc):=by
 intro Z O F H σ ρ U Q R gd;refine sa Z O F H σ ρ U _ R (GE.step (G:=GE X.K EX Z O F Q) gd (fun _ _ h=>h) (fun h=>h) fun d1 U1 v1 O1 F1 H1 R1 e1 p1 g1=>?_);refine sb Z O1 F1 H1 σ ρ U1 _ (R.to R1 e1) (GE.step (G:=GE X.K EX Z O F Q) g1 (fun _ _ h=>h) (fun h=>h) fun d2 U2 v2 O2 F2 H2 R2 e2 p2 g2=>?_);cases hg:g (ai U2 d1) (ai U2 d2) with
 |none=>rw[hg] at g2;exact g2.elim
 |some c =>
  rw[hg] at g2;cases c with
  |bl k =>
   refine ho Z O2 F2 H2 U2 _ _ (.bl k) v1 v2 _ R2 (R2.pk (p1.mono e2)) (R2.pk p2) hg fun v F' H' R' sf rp=>?_
   unfold aG at rp;refine⟨k,rp,?_⟩;have e3:Ext O2 F2 O2 F':=⟨sf,fun _ _ h=>h⟩
   cases k with
   |false=>exact g2 _ O2 F' H' R' (e1.trans (e2.trans e3)) (by unfold aG;rfl)
   |true =>
    refine sc Z O2 F' H' σ ρ U2 _ (R.to R' (e1.trans (e2.trans e3))) (GE.step (G:=GE X.K EX Z O F Q) g2 (fun _ _ h=>h) (fun h=>h) fun d4 U4 v4 O4 F4 H4 R4 e4 p4 g4=>?_);cases hg':g' (ai U4 d2) (ai U4 d4) with
    |none=>rw[hg'] at g4;exact g4.elim
    |some c' =>
     rw[hg'] at g4;exact ho' Z O4 F4 H4 U4 _ _ c' v2 v4 Q R4 (R4.pk (p2.mono (e3.trans e4))) (R4.pk p4) hg' fun v F' H' R' sf rp=>g4 v O4 F' H' R' (e1.trans (e2.trans (e3.trans (e4.trans ⟨sf,fun _ _ h=>h⟩)))) rp
  |_=>exact g2.elim
theorem yj (ho:iw X (compareOp op) g) (ho':iw X (compareOp op') g') (ha:ME X EX a ma) (hb:ME X EX b mb) (hc:ME X EX c mc)
  (hm:lastMarks [op,op'] [b,c]=false):ME X EX (.Compare a [op,op'] [b,c] pos) (mChain g g' ma mb mc):=by
 obtain⟨r,h1,h2⟩:=ho;obtain⟨r',h1',h2'⟩:=ho';obtain⟨ta,pa,sa⟩:=ha;obtain⟨tb,pb,sb⟩:=hb;obtain⟨tc,pc,sc⟩:=hc;exact⟨_,Hk h1 h1' pa pb pc hm,rF sa sb sc h2 h2'⟩
theorem HW (ho:iw X (compareOp op) g) (ho':iw X (compareOp op') g') (ha:ME X EX a ma) (hb:ME X EX b mb) (hc:ME X EX c mc)
  (hm:lastMarks [op,op'] [b,c]=false):MT X EX (.Compare a [op,op'] [b,c] pos) (a9 (mChain g g' ma mb mc)):=by
 obtain⟨r,h1,h2⟩:=ho;obtain⟨r',h1',h2'⟩:=ho';obtain⟨ta,pa,sa⟩:=ha;obtain⟨tb,pb,sb⟩:=hb;obtain⟨tc,pc,sc⟩:=hc;exact⟨_,GX h1 h1' pa pb pc hm,fw (rF sa sb sc h2 h2')⟩
def IW (d:D):Bool:=match d with
 |.non=>true
 |_=>false
def mIsN (m:MX):MX:=fun ρ U=>(m ρ U).bind fun d U1=>.ok (.bl (IW d)) U1
def mNotN (m:MX):MX:=fun ρ U=>(m ρ U).bind fun d U1=>.ok (.bl (!IW d)) U1
theorem Cy {K:Zl}{F:Hp}{O:Zr}(h:aG K F O d v):decide (v=.non)=IW d:=by
 cases d with
 |non=>unfold aG at h;subst h;rfl
 |bl _=>unfold aG at h;subst h;rfl
 |int _=>unfold aG at h;subst h;rfl
 |str _=>unfold aG at h;subst h;rfl
 |tup _=>unfold aG at h;obtain⟨a,vs,h,_⟩:=h;subst h;rfl
 |lst _=>unfold aG at h;obtain⟨a,vs,h,_⟩:=h;subst h;rfl
 |dic _ _=>unfold aG at h;obtain⟨a,vs,h,_⟩:=h;subst h;rfl
 |ref _=>unfold aG at h;obtain⟨a,_,h⟩:=h;subst h;rfl
theorem yJ {t:TE}(h:eu X EX t m):eu X EX (Rx t) (mIsN m):=by
 intro Z O F H σ ρ U Q R g;refine h Z O F H σ ρ U _ R (GE.step (G:=GE X.K EX Z O F Q) g (fun _ _ h=>h) (fun h=>h) fun d U1 v O1 F1 H1 R1 e1 p g1=>?_);rw[Cy p];exact g1 _ O1 F1 H1 R1 e1 (by unfold aG;rfl)
theorem uh {t:TE}(h:eu X EX t m):eu X EX (MY t) (mNotN m):=by
 intro Z O F H σ ρ U Q R g;refine h Z O F H σ ρ U _ R (GE.step (G:=GE X.K EX Z O F Q) g (fun _ _ h=>h) (fun h=>h) fun d U1 v O1 F1 H1 R1 e1 p g1=>?_);rw[Cy p];exact g1 _ O1 F1 H1 R1 e1 (by unfold aG;rfl)
theorem Q4 {j pos'} (ha:ME X EX a m):ME X EX (.Compare a [.Is] [.Constant .none j pos'] pos) (mIsN m):=by
 obtain⟨t,p,s⟩:=ha;exact⟨_,Hj (Hm p) rfl,yJ s⟩
theorem LF {j pos'} (ha:ME X EX a m):ME X EX (.Compare a [.IsNot] [.Constant .none j pos'] pos) (mNotN m):=by
 obtain⟨t,p,s⟩:=ha;exact⟨_,Hj (BX p) rfl,uh s⟩
theorem PN {j pos'} (ha:ME X EX a m):MT X EX (.Compare a [.Is] [.Constant .none j pos'] pos) (a9 (mIsN m)):=by
 obtain⟨t,p,s⟩:=ha;exact⟨_,qA (Hm p) rfl,fw (yJ s)⟩
theorem Lq {j pos'} (ha:ME X EX a m):MT X EX (.Compare a [.IsNot] [.Constant .none j pos'] pos) (a9 (mNotN m)):=by
 obtain⟨t,p,s⟩:=ha;exact⟨_,qA (BX p) rfl,fw (uh s)⟩
def nh (d:D):Option Bool:=match d with
 |.non=>some false
 |.bl b=>some b
 |.int i=>some (i != 0)
 |.str x=>if x.length<=16777216 then some (!x.isEmpty) else none
 |.tup xs=>some (!xs.isEmpty)
 |.lst xs=>some (!xs.isEmpty)
 |.dic ks vs=>some (!vs.isEmpty)
 |.ref _=>none
def mTru (m:MX):MB:=fun ρ U=>(m ρ U).bind fun d U1=>ofO U1 (nh (ai U1 d))
theorem jY {β γ:Type}{l:List β}{r:List γ}(h:l.length=r.length):l.isEmpty=r.isEmpty:=by
 cases l<;>cases r<;>simp_all
theorem On {K:Zl}{O:Zr}{v:V}{k:Bool}(sub:Same F H) (h:Pk K O F H d v) (e:nh d=some k):QS K v H k:=by
 cases d with
 |non=>unfold Pk aG at h;subst h;cases e;rfl
 |bl _=>unfold Pk aG at h;subst h;cases e;rfl
 |int _=>unfold Pk aG at h;subst h;cases e;rfl
 |str x =>
  unfold Pk aG at h;subst h;unfold nh at e;simp only at e;split at e
  ·rename_i hl;cases e;refine⟨?_,?_⟩
   ·rw[Wb];simpa[Str.length] using hl
   ·cases x with
    |nil=>rfl
    |cons c r=>simp[Str.length];omega
  ·cases e
 |tup xs =>
  unfold Pk aG at h;obtain⟨a,vs,rfl,hs,hr⟩:=h;cases e;exact .inr (.inl ⟨vs,Same.tup sub hs,by rw[jY hr.length]⟩)
 |lst xs =>
  unfold Pk at h;obtain⟨a,vs,rfl,hs,hr⟩:=h;cases e;exact .inl ⟨vs,hs,by rw[jY hr.length]⟩
 |dic ks xs =>
  unfold Pk at h;obtain⟨a,vs,rfl,hs,hl,hr⟩:=h;cases e;refine .inr (.inr ⟨_,hs,?_⟩);congr 1;refine jY ?_;have:=hr.length;simp;omega
 |ref _=>cases e
theorem jN (ha:ME X EX a m) (he:∀whole,isTrue a X.env whole=(do let v ←whole;standAt a.pos;holding [v] (truthy v))):MT X EX a (mTru m):=by
 obtain⟨t,p,s⟩:=ha;refine⟨_,GV p he,fun Z O F H σ ρ U Q R g=>?_⟩;refine s Z O F H σ ρ U _ R (GE.step (G:=GB X.K EX Z O F Q) g (fun _ _ h=>h) (fun h=>h) fun d U1 v O1 F1 H1 R1 e1 p g1=>?_);cases hk:nh (ai U1 d) with
 |none=>rw[hk] at g1;exact g1.elim
 |some k=>rw[hk] at g1;exact⟨k,On R1.sub (R1.pk p) hk,g1 O1 F1 H1 R1 e1⟩
variable {n na nb:MB}
def mAnd (m n:MB):MB:=fun ρ U=>(m ρ U).bind fun k U1=>match k with
 |true=>n ρ U1
 |false=>.ok false U1
def mOr (m n:MB):MB:=fun ρ U=>(m ρ U).bind fun k U1=>match k with
 |true=>.ok true U1
 |false=>n ρ U1
def mNot (m:MB):MB:=fun ρ U=>(m ρ U).bind fun k U1=>.ok (!k) U1
theorem MW.t (h:MW X EX e n):MT X EX e n:=let⟨t,p,s⟩:=h;⟨t,p.pt,s⟩
theorem Lp (ha:MT X EX a na):MW X EX (.BoolOp .And [a] pos) na:=let⟨t,p,s⟩:=ha;⟨t,KE p,s⟩
theorem PM (ha:MT X EX a na):MW X EX (.BoolOp .Or [a] pos) na:=let⟨t,p,s⟩:=ha;⟨t,OT p,s⟩
theorem HV (ha:MT X EX a na) (hb:MW X EX (.BoolOp .And (b::rest) pos) nb):MW X EX (.BoolOp .And (a::b::rest) pos) (mAnd na nb):=by
 obtain⟨ta,pa,sa⟩:=ha;obtain⟨tb,pb,sb⟩:=hb;refine⟨_,OU pa pb,fun Z O F H σ ρ U Q R g=>?_⟩;refine sa Z O F H σ ρ U _ R (GB.step (G:=GB X.K EX Z O F Q) g (fun _ _ h=>h) (fun h=>h) fun k U1 O1 F1 H1 R1 e1 g1=>?_);cases k with
 |true=>exact(VJ rfl).mpr (sb Z O1 F1 H1 σ ρ U1 Q (R.to R1 e1) (GB.ext e1 g1))
 |false=>exact g1 O1 F1 H1 R1 e1
theorem Nl (ha:MT X EX a na) (hb:MW X EX (.BoolOp .Or (b::rest) pos) nb):MW X EX (.BoolOp .Or (a::b::rest) pos) (mOr na nb):=by
 obtain⟨ta,pa,sa⟩:=ha;obtain⟨tb,pb,sb⟩:=hb;refine⟨_,S0 pa pb,fun Z O F H σ ρ U Q R g=>?_⟩;refine sa Z O F H σ ρ U _ R (GB.step (G:=GB X.K EX Z O F Q) g (fun _ _ h=>h) (fun h=>h) fun k U1 O1 F1 H1 R1 e1 g1=>?_);cases k with
 |true=>exact g1 O1 F1 H1 R1 e1
 |false=>exact sb Z O1 F1 H1 σ ρ U1 Q (R.to R1 e1) (GB.ext e1 g1)
theorem AN (ha:MT X EX a na):MT X EX (.UnaryOp .Not a pos) (mNot na):=by
 obtain⟨ta,pa,sa⟩:=ha;refine⟨_,OV pa,fun Z O F H σ ρ U Q R g=>?_⟩;exact sa Z O F H σ ρ U _ R (GB.step (G:=GB X.K EX Z O F Q) g (fun _ _ h=>h) (fun h=>h) fun k U1 O1 F1 H1 R1 e1 g1=>g1 O1 F1 H1 R1 e1)
def mAndV (ma mb:MX):MX:=fun ρ U=>(ma ρ U).bind fun x U1=>match x with
 |.bl true=>mb ρ U1
 |.bl false=>.ok (.bl false) U1
 |_=>.bad
def mOrV (ma mb:MX):MX:=fun ρ U=>(ma ρ U).bind fun x U1=>match x with
 |.bl true=>.ok (.bl true) U1
 |.bl false=>mb ρ U1
 |_=>.bad
def mNotV (ma:MX):MX:=fun ρ U=>(ma ρ U).bind fun x U1=>match x with
 |.bl k=>.ok (.bl (!k)) U1
 |_=>.bad
theorem AT {op} (h:ME X EX a m):ME X EX (.BoolOp op [a] pos) m:=let⟨t,p,s⟩:=h;⟨t,P7 p,s⟩
theorem Iu (ha:ME X EX a ma) (hb:ME X EX (.BoolOp .And (b::rest) pos) mb):ME X EX (.BoolOp .And (a::b::rest) pos) (mAndV ma mb):=by
 obtain⟨ta,pa,sa⟩:=ha;obtain⟨tb,pb,sb⟩:=hb;refine⟨_,Pb pa pb,fun Z O F H σ ρ U Q R g=>?_⟩;refine sa Z O F H σ ρ U _ R (GE.step (G:=GE X.K EX Z O F Q) g (fun _ _ h=>h) (fun h=>h) fun d U1 v O1 F1 H1 R1 e1 p g1=>?_);cases d with
 |bl k =>
  unfold aG at p;refine⟨k,p,?_⟩;cases k with
  |true=>exact sb Z O1 F1 H1 σ ρ U1 Q (R.to R1 e1) (GE.ext e1 g1)
  |false=>exact g1 _ O1 F1 H1 R1 e1 (by unfold aG;rfl)
 |_=>exact g1.elim
theorem Nm (ha:ME X EX a ma) (hb:ME X EX (.BoolOp .Or (b::rest) pos) mb):ME X EX (.BoolOp .Or (a::b::rest) pos) (mOrV ma mb):=by
 obtain⟨ta,pa,sa⟩:=ha;obtain⟨tb,pb,sb⟩:=hb;refine⟨_,S9 pa pb,fun Z O F H σ ρ U Q R g=>?_⟩;refine sa Z O F H σ ρ U _ R (GE.step (G:=GE X.K EX Z O F Q) g (fun _ _ h=>h) (fun h=>h) fun d U1 v O1 F1 H1 R1 e1 p g1=>?_);cases d with
 |bl k =>
  unfold aG at p;refine⟨k,p,?_⟩;cases k with
  |false=>exact sb Z O1 F1 H1 σ ρ U1 Q (R.to R1 e1) (GE.ext e1 g1)
  |true=>exact g1 _ O1 F1 H1 R1 e1 (by unfold aG;rfl)
 |_=>exact g1.elim
theorem Q0 (ha:ME X EX a ma):ME X EX (.UnaryOp .Not a pos) (mNotV ma):=by
 obtain⟨ta,pa,sa⟩:=ha;refine⟨_,P8 pa,fun Z O F H σ ρ U Q R g=>?_⟩;refine sa Z O F H σ ρ U _ R (GE.step (G:=GE X.K EX Z O F Q) g (fun _ _ h=>h) (fun h=>h) fun d U1 v O1 F1 H1 R1 e1 p g1=>?_);cases d with
 |bl k=>unfold aG at p;exact⟨k,p,g1 _ O1 F1 H1 R1 e1 (by unfold aG;rfl)⟩
 |_=>exact g1.elim
def mIf (n:MB) (ma mb:MX):MX:=fun ρ U=>(n ρ U).bind fun k U1=>match k with
 |true=>ma ρ U1
 |false=>mb ρ U1
theorem Nn (hc:MT X EX c n) (ha:ME X EX a ma) (hb:ME X EX b mb):ME X EX (.IfExp c a b pos) (mIf n ma mb):=by
 obtain⟨tc,pc,sc⟩:=hc;obtain⟨ta,pa,sa⟩:=ha;obtain⟨tb,pb,sb⟩:=hb;refine⟨_,Hg pc pa pb,fun Z O F H σ ρ U Q R g=>?_⟩;refine sc Z O F H σ ρ U _ R (GB.step (G:=GE X.K EX Z O F Q) g (fun _ _ h=>h) (fun h=>h) fun k U1 O1 F1 H1 R1 e1 g1=>?_);cases k with
 |true=>exact sa Z O1 F1 H1 σ ρ U1 Q (R.to R1 e1) (GE.ext e1 g1)
 |false=>exact sb Z O1 F1 H1 σ ρ U1 Q (R.to R1 e1) (GE.ext e1 g1)
variable {ms:l7}
def mNil:l7:=fun _ U=>.ok [] U
def a5 (m:MX) (ms:l7):l7:=fun ρ U=>(m ρ U).bind fun d U1=>(ms ρ U1).bind fun ds U2=>.ok (d::ds) U2
theorem f7:MA X EX [] mNil:=⟨_,nk,fun Z O F H σ ρ U Q R g=>g [] O F H R.hp (Ext.refl _ _) ax,fun ρ U ds U' h=>by cases h;rfl⟩
theorem aS (ha:ME X EX e m) (hr:MA X EX es ms) (hs:starEach (e::es) X.env=(false,eval e X.env)::starEach es X.env):MA X EX (e::es) (a5 m ms):=by
 obtain⟨ta,pa,sa⟩:=ha;obtain⟨tr,pr,sr,lr⟩:=hr;refine⟨_,g9 pa pr hs,fun Z O F H σ ρ U Q R g=>?_,fun ρ U ds U' h=>?_⟩
 rotate_left
 ·unfold a5 at h;cases e1:m ρ U with
  |ok d U1 =>
   rw[e1] at h;simp only[ae] at h;cases e2:ms ρ U1 with
   |ok dr U2 =>
    rw[e2] at h;simp only[ae] at h;cases h;simp[lr _ _ _ _ e2]
   |exc x U2=>rw[e2] at h;cases h
   |bad=>rw[e2] at h;cases h
  |exc x U1=>rw[e1] at h;cases h
  |bad=>rw[e1] at h;cases h
 refine sa Z O F H σ ρ U _ R (GE.step (G:=GA X.K EX Z O F Q) g (fun _ _ h=>h) (fun h=>h) fun d U1 v O1 F1 H1 R1 e1 p g1=>?_);refine sr Z O1 F1 H1 σ ρ U1 _ (R.to R1 e1) (GA.step (G:=GA X.K EX Z O F Q) g1 (fun _ _ h=>h) (fun h=>h) fun ds U2 vs O2 F2 H2 R2 e2 p2 g2=>?_);exact g2 (v::vs) O2 F2 H2 R2 (e1.trans e2) (aa (p.mono e2) p2)
def mTup (ms:l7):MX:=fun ρ U=>(ms ρ U).bind fun ds U1=>.ok (.tup ds) U1
def mLst (ms:l7):MX:=fun ρ U=>(ms ρ U).bind fun ds U1=>.ok (.lst ds) U1
theorem kB {K:Zl}{Z:ZS}{F H:Hp}{O:Zr}(R:RH K Z O F H U) (r:Reps K F O ds vs) (hp:H p=none) :
  RH K Z O (b6 F p (.tup vs)) (b6 H p (.tup vs)) U/\Same F (b6 F p (.tup vs))/\aG K (b6 F p (.tup vs)) O (.tup ds) (.ref p) :=
 ⟨R.lay _ hp,jD R.sub hp,by unfold aG;exact⟨p,vs,rfl,SqT.of aw,r.mono (R.layExt _ hp)⟩⟩
theorem j4 {K:Zl}{Z:ZS}{F H:Hp}{O:Zr}(R:RH K Z O F H U) (r:Reps K F O ds vs) (hp:H p=none) :
  RH K Z O (b6 F p (.lst vs)) (b6 H p (.lst vs)) U/\Same F (b6 F p (.lst vs))/\aG K (b6 F p (.lst vs)) O (.lst ds) (.ref p) :=
 ⟨R.lay _ hp,jD R.sub hp,by unfold aG;exact⟨p,vs,rfl,gR.of aw,r.mono (R.layExt _ hp)⟩⟩
theorem vg {x1} (h:MA X EX es ms) (hl:es.length<=16777216:=by decide):ME X EX (.Tuple es x1 pos) (mTup ms):=by
 obtain⟨t,p,s,l⟩:=h;refine⟨_,P6 p,fun Z O F H σ ρ U Q R g=>?_⟩;refine s Z O F H σ ρ U _ R (GA.stepE (G:=GE X.K EX Z O F Q) g (fun _ _ h=>h) (fun h=>h) fun ds U1 vs O1 F1 H1 hm R1 e1 p1 g1=>?_);refine⟨by rw[←p1.length,Wb,l _ _ _ _ hm];exact hl,fun q hq=>?_⟩;obtain⟨a1,a2,a3⟩:=kB R1 p1 hq;exact g1 _ O1 _ _ a1 (e1.trans ⟨a2,fun _ _ h=>h⟩) a3
theorem Ij (h:MA X EX es ms) (hl:es.length<=16777216:=by decide):ME X EX (.List es pos) (mLst ms):=by
 obtain⟨t,p,s,l⟩:=h;refine⟨_,Ax p,fun Z O F H σ ρ U Q R g=>?_⟩;refine s Z O F H σ ρ U _ R (GA.stepE (G:=GE X.K EX Z O F Q) g (fun _ _ h=>h) (fun h=>h) fun ds U1 vs O1 F1 H1 hm R1 e1 p1 g1=>?_);refine⟨by rw[←p1.length,Wb,l _ _ _ _ hm];exact hl,fun q hq=>?_⟩;obtain⟨a1,a2,a3⟩:=j4 R1 p1 hq;exact g1 _ O1 _ _ a1 (e1.trans ⟨a2,fun _ _ h=>h⟩) a3
def gIdx:G2:=fun a b=>match a,b with
 |.lst ds,.int i=>atI ds i
 |.tup ds,.int i=>atI ds i
 |.str cs,.int i=>if cs.length<=16777216 then(atI cs i).map fun c=>.str [c] else none
 |_,_=>none
theorem xG {K:Zl}{F:Hp}{O:Zr}{ds:ZE}(r:Reps K F O ds vs) (h:atI ds i=some d):∃v,atI vs i=some v/\aG K F O d v:=by
 unfold atI at h ⊢;rw[←r.length];cases e:FF ds.length i with
 |none=>rw[e] at h;cases h
 |some j=>rw[e] at h;exact r.get h
theorem Aq {K:Zl}:eG K (V8 K) gIdx:=by
 intro Z O F H U a b c x y Q R ha hb hg k;cases b with
 |int i =>
  unfold Pk aG at hb;subst hb;cases a with
  |lst ds =>
   obtain⟨p,vs,rfl,hs,hr⟩:=ha;obtain⟨v,h1,h2⟩:=xG hr hg;exact .inl ⟨p,vs,i,v,rfl,rfl,hs,h1,k v F H R (Same.refl _) h2⟩
  |tup ds =>
   unfold Pk aG at ha;obtain⟨p,vs,rfl,hs,hr⟩:=ha;obtain⟨v,h1,h2⟩:=xG hr hg;exact .inr (.inl ⟨p,vs,i,v,rfl,rfl,Same.tup R.sub hs,h1,k v F H R (Same.refl _) h2⟩)
  |str cs =>
   unfold Pk aG at ha;subst ha;simp only[gIdx] at hg;split at hg
   ·rename_i hl;cases e:atI cs i with
    |none=>rw[e] at hg;cases hg
    |some c' =>
     rw[e] at hg;cases hg;exact .inr (.inr ⟨_,i,c',rfl,rfl,by rw[Wb];simpa[Str.length] using hl,by simpa using e,k _ F H R (Same.refl _) (by unfold aG;rfl)⟩)
   ·cases hg
  |_=>cases hg
 |_=>cases a<;>cases hg
theorem vh (ha:ME X EX a ma) (hb:ME X EX b mb) (hs:Dq b):ME X EX (.Subscript a b pos) (a6 gIdx ma mb):=by
 obtain⟨ta,pa,sa⟩:=ha;obtain⟨tb,pb,sb⟩:=hb;exact⟨_,Sa Ql pa pb hs,gJ sa sb Aq⟩
end
theorem cv {K:Zl}{F:Hp}(i:Int):aG K F O (.int i) (.int i):=by unfold aG;rfl
theorem fm {K:Zl}{F:Hp}(i:Bool):aG K F O (.bl i) (.bl i):=by unfold aG;rfl
theorem uQ {K:Zl}{F:Hp} :aG K F O .non .non:=by unfold aG;rfl
theorem Ky {K:Zl}{F:Hp}(x:Zu):aG K F O (.str x) (.str ⟨x.toArray⟩):=by unfold aG;rfl
theorem fo {K:Zl}{F H:Hp}{O:Zr}(h:Pk K O F H (.int i) v):v=.int i:=by unfold Pk aG at h;exact h
theorem Nb {K:Zl}{F H:Hp}{O:Zr}(h:Pk K O F H (.bl i) v):v=.bl i:=by unfold Pk aG at h;exact h
theorem qC {K:Zl}{F H:Hp}{O:Zr}(h:Pk K O F H (.str x) v):v=.str ⟨x.toArray⟩:=by unfold Pk aG at h;exact h
theorem P3 {K:Zl}{F H:Hp}(h:Pk K O F H .non v):v=.non:=by unfold Pk aG at h;exact h
def iq (h:Int->Int->Option Int):G2:=fun a b=>match a,b with
 |.int i,.int j=>(h i j).map .int
 |_,_=>none
def yO (h:Int->Int->Bool):G2:=fun a b=>match a,b with
 |.int i,.int j=>some (.bl (h i j))
 |_,_=>none
section
variable {X:Cx}{EX:EXT}
theorem qq {K:Zl}{C:Int->Int->Prop}[inst:∀i j,Decidable (C i j)] {h:Int->Int->Int}:eG K (rI C fun i j=>.int (h i j)) (iq fun i j=>if C i j then some (h i j) else none):=by
 intro Z O F H U a b c x y Q R ha hb hg k;cases a with
 |int i =>
  cases b with
  |int j =>
   have ha:=fo ha;have hb:=fo hb;simp only[iq] at hg;by_cases hc:C i j
   ·rw[VJ hc] at hg;cases hg;exact⟨i,j,ha,hb,hc,k _ F H R (Same.refl _) (cv _)⟩
   ·rw[VN hc] at hg;cases hg
  |_=>cases hg
 |_=>cases hg
theorem lQ {K:Zl}{h:Int->Int->Int}:eG K (DZ fun i j=>.int (h i j)) (iq fun i j=>some (h i j)):=by
 intro Z O F H U a b c x y Q R ha hb hg k;cases a with
 |int i =>
  cases b with
  |int j =>
   have ha:=fo ha;have hb:=fo hb;cases hg;exact⟨i,j,ha,hb,k _ F H R (Same.refl _) (cv _)⟩
  |_=>cases hg
 |_=>cases hg
theorem oY {K:Zl} :eG K (DZ fun i j=>.bl (h i j)) (yO h):=by
 intro Z O F H U a b c x y Q R ha hb hg k;cases a with
 |int i =>
  cases b with
  |int j =>
   have ha:=fo ha;have hb:=fo hb;cases hg;exact⟨i,j,ha,hb,k _ F H R (Same.refl _) (fm _)⟩
  |_=>cases hg
 |_=>cases hg
def T6 (g h:G2):G2:=fun a b=>match g a b with
 |some c=>some c
 |none=>h a b
theorem eG.or {K:Zl}{r r':R2}(h:eG K r g) (h':eG K r' g'):eG K (fun x y H Q=>r x y H Q\/r' x y H Q) (T6 g g'):=by
 intro Z O F H U a b c x y Q R ha hb hg k;unfold T6 at hg;cases e:g a b with
 |some d=>rw[e] at hg;have hg:d=c:=Option.some.inj hg;subst hg;exact .inl (h Z O F H U a b _ x y Q R ha hb e k)
 |none=>rw[e] at hg;exact .inr (h' Z O F H U a b c x y Q R ha hb hg k)
theorem iw.or (h:iw X f g) (h':iw X f g'):iw X f (T6 g g'):=by
 obtain⟨r,a,b⟩:=h;obtain⟨r',a',b'⟩:=h';exact⟨_,a.or a',b.or b'⟩
theorem iw.as (h:iw X f g) (e:∀a b c,g' a b=some c->g a b=some c):iw X f g':=by
 obtain⟨r,a,b⟩:=h;exact⟨r,a,fun Z O F H U p q c x y Q R ha hb hg k=>b Z O F H U p q c x y Q R ha hb (e p q c hg) k⟩
def CL:G2:=fun a b=>match a,b with
 |.tup xs,.tup ys=>if decide (xs.length+ys.length<=16777216)&&!xs.isEmpty then some (.tup (xs++ys)) else none
 |_,_=>none
def Jd:G2:=fun a b=>match a,b with
 |.tup [],.tup ys=>some (.tup ys)
 |_,_=>none
def NJ:G2:=fun a b=>match a,b with
 |.lst xs,.lst ys=>if xs.length+ys.length<=16777216 then some (.lst (xs++ys)) else none
 |_,_=>none
def gAddS:G2:=fun a b=>match a,b with
 |.str xs,.str ys=>if xs.length+ys.length<=16777216 then some (.str (xs++ys)) else none
 |_,_=>none
def bi:G2:=fun a b=>match a,b with
 |.int i,.int j=>some (.int (i+j))
 |.str xs,.str ys=>if xs.length+ys.length<=16777216 then some (.str (xs++ys)) else none
 |.tup xs,.tup ys=>if xs.length+ys.length<=16777216 then some (.tup (xs++ys)) else none
 |.lst xs,.lst ys=>if xs.length+ys.length<=16777216 then some (.lst (xs++ys)) else none
 |_,_=>none
theorem Ae (x y:Zu):(⟨x.toArray⟩:Str)++(⟨y.toArray⟩:Str)=⟨(x++y).toArray⟩:=by
 show Str.append _ _=_;unfold Str.append;simp
theorem Le:iw X (binaryOp .Add) gAddS:=by
 refine⟨_,Ay,fun Z O F H U a b c x y Q R ha hb hg k=>?_⟩;cases a with
 |str i =>
  cases b with
  |str j =>
   have ha:=qC ha;have hb:=qC hb;simp only[gAddS] at hg;split at hg
   ·rename_i hl;cases hg;refine⟨_,_,ha,hb,by rw[Wb];simpa[Str.length] using hl,?_⟩;rw[Ae];exact k _ F H R (Same.refl _) (Ky _)
   ·cases hg
  |_=>cases hg
 |_=>cases hg
theorem Ld:iw X (binaryOp .Add) CL:=by
 refine⟨_,L9,fun Z O F H U a b c x y Q R ha hb hg k=>?_⟩;cases a with
 |tup i =>
  cases b with
  |tup j =>
   have ha0:=ha;unfold Pk aG at ha hb;obtain⟨p,vs,rfl,hs,hr⟩:=ha;obtain⟨p',vs',rfl,hs',hr'⟩:=hb;simp only[CL] at hg;split at hg
   ·rename_i hl;cases hg;rw[W0] at hl;have h1:=X8 hl.1;refine⟨p,p',vs,vs',rfl,rfl,Same.tup R.sub hs,Same.tup R.sub hs',?_,by rw[Wb,←hr.length,←hr'.length];exact h1,fun he=>?_,fun _ q hq=>?_⟩
    ·intro he;subst he;have:=hr.length;cases i with
     |nil=>simp at hl
     |cons _ _=>simp at this
    ·subst he;have:=hr'.length;cases j with
     |nil=>rw[WC] at k;exact k _ F H R (Same.refl _) ha0
     |cons _ _=>simp at this
    ·obtain⟨a1,a2,a3⟩:=kB R (hr.append hr') hq;exact k _ _ _ a1 a2 a3
   ·cases hg
  |_=>cases hg
 |_=>cases hg
def RZ (K:Zl):R2:=fun x y H Q=>∃l b xs zs,x=.ref l/\y=.ref b/\gR K H l xs/\gR K H b zs/\xs.length+zs.length<=sizeLine/\∀p,H p=none->Q (.ref p) (b6 H p (.lst (xs++zs)))
theorem C8:jl X (binaryOp .Add) (RZ X.K):=by
 intro pins s σ H x y v u Q I rx ry h;obtain⟨l,b,xs,zs,rfl,rfl,hH,hB,hz,q⟩:=h;cases rx;cases ry;obtain⟨its,r,pl,_⟩:=I.list hH;obtain⟨its2,r2,pl2,_⟩:=I.list hB;obtain⟨m,F⟩:=I.fr;have e1:=r.length;have e2:=r2.length;obtain⟨⟨cls,dd,data,sl⟩,n,ho,hc,hd,hs⟩:=pl;obtain⟨⟨cls2,dd2,data2,sl2⟩,n2,ho2,hc2,hd2,hs2⟩:=pl2;simp only at hc hd hs hc2 hd2 hs2;subst hc hd hs hc2 hd2 hs2;have ea:its.toArray++its2.toArray=(its++its2).toArray:=by simp
 refine Z3 ⟨_,ho,rfl⟩ ⟨_,ho2,rfl⟩ noFill_list_add seq_list_add PySem.F.slot_list_add PySem.F.entry_list_add (PySem.F.args_list_add_2 _ _) (list_addW l b its.toArray its2.toArray n n2 _ _ sl sl2 (by simp only[VT];omega)) ⟨ho,ho2,?_⟩;rw[ea];exact⟨.ref _,_,I.lnew (t':=s.toks) (r.append r2) (by rw[Wy];omega),rfl,q _ I.fresh⟩
theorem Hu:jl X (binaryOp .Add) (fun x y H Q=>∃a b ys,x=.ref a/\y=.ref b/\SqT X.K H a []/\SqT X.K H b ys/\Q (.ref b) H):=by
 intro pins s σ H x y v u Q I rx ry h;obtain⟨a,b,ys,rfl,rfl,ha,hb,q⟩:=h;cases rx;cases ry;obtain⟨its,r1,p1,_⟩:=I.tuple ha;obtain⟨its2,r2,p2,_⟩:=I.tuple hb;have e1:its.length=0:=r1.length.symm;obtain rfl:=List.length_eq_zero_iff.mp e1;obtain⟨o1,g1,c1,n1,d1⟩:=p1;obtain⟨o2,g2,c2,n2,d2⟩:=p2;obtain⟨k1,f1,w1,z1⟩:=o1;obtain⟨k2,f2,w2,z2⟩:=o2;dsimp only at c1 d1 c2 d2;subst c1 d1 c2 d2;exact Z3 ⟨_,g1,rfl⟩ ⟨_,g2,rfl⟩ YR seq_tuple_add Y3 Y1 (XN _ _)
  (tuple_addW0 a b #[] its2.toArray n1 n2 f1 f2 z1 z2 rfl) ⟨g1,g2,.ref b,H,I,rfl,q⟩
theorem Hz:iw X (binaryOp .Add) Jd:=by
 refine⟨_,Hu,fun Z O F H U a b c x y Q R ha hb hg k=>?_⟩;cases a with
 |tup i =>
  cases i with
  |nil =>
   cases b with
   |tup j =>
    have hb0:=hb;unfold Pk aG at ha hb;obtain⟨p,vs,rfl,hs,hr⟩:=ha;obtain⟨p',vs',rfl,hs',hr'⟩:=hb;cases hg;have:=hr.length;cases vs with
    |nil=>exact⟨p,p',vs',rfl,rfl,Same.tup R.sub hs,Same.tup R.sub hs',k _ F H R (Same.refl _) hb0⟩
    |cons _ _=>simp at this
   |_=>cases hg
  |cons _ _=>cases b<;>cases hg
 |_=>cases hg
theorem Lg:iw X (binaryOp .Add) NJ:=by
 refine⟨_,C8,fun Z O F H U a b c x y Q R ha hb hg k=>?_⟩;cases a with
 |lst i =>
  cases b with
  |lst j =>
   unfold Pk at ha hb;obtain⟨p,vs,rfl,hs,hr⟩:=ha;obtain⟨p',vs',rfl,hs',hr'⟩:=hb;simp only[NJ] at hg;split at hg
   ·rename_i hl;cases hg;refine⟨p,p',vs,vs',rfl,rfl,hs,hs',by rw[Wb,←hr.length,←hr'.length];exact hl,fun q hq=>?_⟩;obtain⟨a1,a2,a3⟩:=j4 R (hr.append hr') hq;exact k _ _ _ a1 a2 a3
   ·cases hg
  |_=>cases hg
 |_=>cases hg
theorem ll:iw X (binaryOp .Add) bi:=by
 have h0:iw X (binaryOp .Add) (iq fun i j=>some (i+j)):=⟨_,Pz,lQ⟩
 refine iw.as (iw.or h0 (iw.or Le (iw.or Hz (iw.or Ld Lg)))) fun a b c h=>?_
 cases a with
 |int i=>cases b with
  |int j=>exact h
  |_=>cases h
 |str i=>cases b with
  |str j=>have h:gAddS (.str i) (.str j)=some c:=h;simp only[T6,iq,h]
  |_=>cases h
 |tup i=>cases b with
  |tup j =>
   cases i with
   |nil =>
    simp only[bi] at h;split at h
    ·cases h;rfl
    ·cases h
   |cons i0 ir =>
    simp only[bi] at h;split at h
    ·rename_i hl;cases h;have e:CL (.tup (i0::ir)) (.tup j)=some (.tup (i0::ir++j)):=by
      simp only[CL,Xu,Y4,Bool.and_true];rw[VJ (by simpa using hl)]
     simp only[T6,iq,gAddS,Jd,e]
    ·cases h
  |_=>cases h
 |lst i=>cases b with
  |lst j=>exact h
  |_=>cases h
 |_=>cases h
def dn:G2:=iq fun i j=>some (i-j)
theorem qJ:iw X (binaryOp .Sub) dn:=⟨_,Po,lQ⟩
instance (i j:Int):Decidable (FC i j):=by unfold FC;infer_instance
instance (i j:Int):Decidable (MN i j):=by unfold MN;infer_instance
def eM:G2:=iq fun i j=>if FC i j then some (i*j) else none
theorem Az:iw X (binaryOp .Mult) eM:=⟨_,Pt,qq⟩
def U9 (i j:Int):Prop:=0<j/\j<18446744073709551616
instance (i j:Int):Decidable (U9 i j):=by unfold U9;infer_instance
theorem Px:jl X (binaryOp .FloorDiv) (rI U9 fun i j=>.int (i / j)):=Su fun i j _ _ _ _ _ hc q=>by
 have h1:(0:Int)<j:=hc.1;have h2:j<18446744073709551616:=hc.2;refine floordiv_int (by omega) (by rw[YD i (by omega)];exact q) (.inl (PyProof.noPylong_of_log2 ?_));have h3:j.natAbs<2 ^ 64:=by omega
 have h4:j.natAbs≠0:=by omega
 have:=(Nat.log2_lt h4).mpr h3;omega
def dq:G2:=iq fun i j=>if U9 i j then some (i / j) else none
theorem Hy:iw X (binaryOp .FloorDiv) dq:=⟨_,Px,qq⟩
def bL:G2:=iq fun i j=>if 0<j then some (i % j) else none
theorem AA:iw X (binaryOp .Mod) bL:=⟨_,Pu,qq⟩
def EW:G2:=iq fun i j=>some (Builtin.bitAnd i j)
theorem Lc:iw X (binaryOp .BitAnd) EW:=⟨_,Py,lQ⟩
def M9:G2:=iq fun i j=>some (Builtin.bitOr i j)
theorem PF:iw X (binaryOp .BitOr) M9:=⟨_,Sn,lQ⟩
def M8:G2:=iq fun i j=>some (Builtin.bitXor i j)
theorem Lb:iw X (binaryOp .BitXor) M8:=⟨_,Pn,lQ⟩
def Ja:G2:=iq fun i j=>if MN i j then some (i*2 ^ j.toNat) else none
theorem PD:iw X (binaryOp .LShift) Ja:=⟨_,Pq,qq⟩
def J9:G2:=iq fun i j=>if 0<=j then some (i / 2 ^ j.toNat) else none
theorem PB:iw X (binaryOp .RShift) J9:=⟨_,Pp,qq⟩
def t6:G2:=yO fun i j=>decide (i<j)
def EV:G2:=yO fun i j=>decide (i<=j)
def yP:G2:=yO fun i j=>decide (j<i)
def t7:G2:=yO fun i j=>decide (j<=i)
theorem C9:iw X (compareOp .Lt) t6:=⟨_,So,oY⟩
theorem xS:iw X (compareOp .LtE) EV:=⟨_,Sq,oY⟩
theorem Nj:iw X (compareOp .Gt) yP:=⟨_,Sr,oY⟩
theorem Hx:iw X (compareOp .GtE) t7:=⟨_,Ss,oY⟩
end
mutual
def au:D->Bool
 |.non=>true
 |.bl _=>true
 |.int _=>true
 |.str x=>x.all (· < 0x110000)
 |.tup xs=>plainDs xs
 |.lst xs=>plainDs xs
 |.dic _ _=>false
 |.ref _=>false
def plainDs:ZE->Bool
 |[]=>true
 |d::ds=>au d&&plainDs ds
end
mutual
def kl:D->Nat
 |.tup xs=>dpts xs+1
 |.lst xs=>dpts xs+1
 |_=>0
def dpts:ZE->Nat
 |[]=>0
 |d::ds=>max (kl d) (dpts ds)
end
mutual
def toPy:D->PyData
 |.non=>.none
 |.bl b=>.bool b
 |.int i=>.int i
 |.str x=>.str ⟨x.toArray⟩
 |.tup xs=>.tuple (toPys xs)
 |.lst xs=>.list (toPys xs)
 |.dic _ _=>.none
 |.ref _=>.none
def toPys:ZE->List PyData
 |[]=>[]
 |d::ds=>toPy d::toPys ds
end
mutual
def eqD:D->D->Bool
 |.non,b=>match b with
  |.non=>true
  |_=>false
 |.bl a,b=>match b with
  |.bl c=>a==c
  |.int j=>(if a then 1 else 0)==j
  |_=>false
 |.int i,b=>match b with
  |.int j=>i==j
  |.bl c=>i==(if c then 1 else 0)
  |_=>false
 |.str x,b=>match b with
  |.str y=>x==y
  |_=>false
 |.tup xs,b=>match b with
  |.tup ys=>eqDs xs ys
  |_=>false
 |.lst xs,b=>match b with
  |.lst ys=>eqDs xs ys
  |_=>false
 |.dic _ _,_=>false
 |.ref _,_=>false
def eqDs:ZE->ZE->Bool
 |[],b=>b.isEmpty
 |x::xs,b=>match b with
  |[]=>false
  |y::ys=>eqD x y&&eqDs xs ys
end
theorem Ad (x y:Zu):((⟨x.toArray⟩:Str)==(⟨y.toArray⟩:Str))=(x==y):=by
 rw[Bool.eq_iff_iff];simp
mutual
theorem iM:∀(a b:D),au a=true->au b=true->PyData.eqv (toPy a) (toPy b)=eqD a b
 |.non,b,_,hb=>by cases b<;>first|(simp[au] at hb;done)|(simp[toPy,eqD,PyData.eqv];done)
 |.bl a,b,_,hb=>by cases b<;>first|(simp[au] at hb;done)|(simp[toPy,eqD,PyData.eqv];done)
 |.int a,b,_,hb=>by cases b<;>first|(simp[au] at hb;done)|(simp[toPy,eqD,PyData.eqv];done)
 |.str a,b,_,hb=>by
  cases b with
  |str y=>simp only[toPy,eqD,PyData.eqv];exact Ad _ _
  |dic _ _=>simp[au] at hb
  |ref _=>simp[au] at hb
  |_=>simp[toPy,eqD,PyData.eqv]
 |.tup a,b,ha,hb=>by
  cases b with
  |tup b=>simp only[toPy,eqD,PyData.eqv];exact eqvs_toPys a b (by simpa[au] using ha) (by simpa[au] using hb)
  |dic _ _=>simp[au] at hb
  |ref _=>simp[au] at hb
  |_=>simp[toPy,eqD,PyData.eqv]
 |.lst a,b,ha,hb=>by
  cases b with
  |lst b=>simp only[toPy,eqD,PyData.eqv];exact eqvs_toPys a b (by simpa[au] using ha) (by simpa[au] using hb)
  |dic _ _=>simp[au] at hb
  |ref _=>simp[au] at hb
  |_=>simp[toPy,eqD,PyData.eqv]
 |.dic _ _,_,ha,_=>by simp[au] at ha
 |.ref _,_,ha,_=>by simp[au] at ha
theorem eqvs_toPys:∀(a b:ZE),plainDs a=true->plainDs b=true->PyData.eqvAll (toPys a) (toPys b)=eqDs a b
 |[],[],_,_=>by simp[toPys,eqDs,PyData.eqvAll]
 |[],_::_,_,_=>by simp[toPys,eqDs,PyData.eqvAll]
 |_::_,[],_,_=>by simp[toPys,eqDs,PyData.eqvAll]
 |x::xs,y::ys,ha,hb=>by
  simp only[plainDs,W0] at ha hb;simp only[toPys,eqDs,PyData.eqvAll];rw[iM x y ha.1 hb.1,eqvs_toPys xs ys ha.2 hb.2]
end
mutual
theorem cT:∀(a:D),au a=true->(toPy a).canLay0=true
 |.non,_=>by simp[toPy,PyData.canLay0]
 |.bl _,_=>by simp[toPy,PyData.canLay0]
 |.int _,_=>by simp[toPy,PyData.canLay0]
 |.str x,h=>by simp only[toPy,PyData.canLay0,PyData.strOk];simpa[au] using h
 |.tup xs,h=>by simp only[toPy,PyData.canLay0];exact canLays_toPy xs (by simpa[au] using h)
 |.lst xs,h=>by simp only[toPy,PyData.canLay0];exact canLays_toPy xs (by simpa[au] using h)
 |.dic _ _,h=>by simp[au] at h
 |.ref _,h=>by simp[au] at h
theorem canLays_toPy:∀(a:ZE),plainDs a=true->PyData.canLayAll0 (toPys a)=true
 |[],_=>by simp[toPys,PyData.canLayAll0]
 |x::xs,h=>by
  simp only[plainDs,W0] at h;simp only[toPys,PyData.canLayAll0,cT x h.1,canLays_toPy xs h.2,Bool.and_self]
end
mutual
theorem gM:∀(a:D),(toPy a).depth=kl a
 |.non=>by simp[toPy,PyData.depth,kl]
 |.bl _=>by simp[toPy,PyData.depth,kl]
 |.int _=>by simp[toPy,PyData.depth,kl]
 |.str x=>by simp[toPy,PyData.depth,kl]
 |.tup xs=>by simp only[toPy,PyData.depth,kl];rw[depths_toPys xs]
 |.lst xs=>by simp only[toPy,PyData.depth,kl];rw[depths_toPys xs]
 |.dic _ _=>by simp[toPy,PyData.depth,kl]
 |.ref _=>by simp[toPy,PyData.depth,kl]
theorem depths_toPys:∀(a:ZE),PyData.depthAll (toPys a)=dpts a
 |[]=>by simp[toPys,PyData.depthAll,dpts]
 |x::xs=>by simp only[toPys,PyData.depthAll,dpts];rw[gM x,depths_toPys xs]
end
section
variable {X:Cx}{EX:EXT}
mutual
theorem qz (I:Inv X pins σ H s) (sub:Same F H):∀(d:D) (v:V) (u:Value),au d=true->aG X.K F O d v->aV v u->∃as,Reads s.heap u (toPy d) as
 |.non,v,u,_,h,r=>by unfold aG at h;subst h;cases r;exact⟨_,by rw[toPy];exact .none⟩
 |.bl b,v,u,_,h,r=>by unfold aG at h;subst h;cases r;exact⟨_,by rw[toPy];exact .bool b⟩
 |.int b,v,u,_,h,r=>by unfold aG at h;subst h;obtain⟨t,rfl⟩:=r;exact⟨_,by rw[toPy];exact .int b t⟩
 |.str b,v,u,_,h,r=>by unfold aG at h;subst h;obtain⟨t,rfl⟩:=r;exact⟨_,by rw[toPy];exact .str _ t⟩
 |.tup ds,v,u,hp,h,r=>by
  unfold aG at h;obtain⟨a,vs,rfl,hs,hr⟩:=h;cases r;obtain⟨its,rv,⟨o,e1,e2,n,e3⟩,_⟩:=I.tuple (Same.tup sub hs);obtain⟨as,q⟩:=readsAll_of I sub ds vs its (by simpa[au] using hp) hr rv;exact⟨_,by rw[toPy];exact .tuple e1 e2 e3 (by simpa using q)⟩
 |.lst ds,v,u,hp,h,r=>by
  unfold aG at h;obtain⟨a,vs,rfl,hs,hr⟩:=h;cases r;obtain⟨its,rv,⟨o,n,e1,e2,_,e3⟩,_⟩:=I.list (sub.seq hs);obtain⟨as,q⟩:=readsAll_of I sub ds vs its (by simpa[au] using hp) hr rv;exact⟨_,by rw[toPy];exact .list e1 e2 e3 (by simpa using q)⟩
 |.dic _ _,_,_,hp,_,_=>by simp[au] at hp
 |.ref _,_,_,hp,_,_=>by simp[au] at hp
theorem readsAll_of (I:Inv X pins σ H s) (sub:Same F H):∀(ds:ZE) (vs:List V) (us:Zt),plainDs ds=true->Reps X.K F O ds vs->aW vs us->∃as,ReadsAll s.heap us (toPys ds) as
 |[],vs,us,_,h,r=>by unfold Reps at h;subst h;cases r;exact⟨_,by rw[toPys];exact .nil⟩
 |d::ds,vs,us,hp,h,r=>by
  unfold Reps at h;obtain⟨v,vr,rfl,h1,h2⟩:=h;cases r with
  |cons r1 r2 =>
   simp only[plainDs,W0] at hp;obtain⟨as,q1⟩:=qz I sub d v _ hp.1 h1 r1;obtain⟨bs,q2⟩:=readsAll_of I sub ds vr _ hp.2 h2 r2;exact⟨_,by rw[toPys];exact .cons q1 q2⟩
end
theorem jH (I:Inv X pins σ H s) (sub:Same F H) (hp:au d=true) (h:Pk X.K O F H d v) (r:aV v u):∃as,Reads s.heap u (toPy d) as:=by
 cases d with
 |lst ds =>
  obtain⟨a,vs,rfl,hs,hr⟩:=h;cases r;obtain⟨its,rv,⟨o,n,e1,e2,_,e3⟩,_⟩:=I.list hs;obtain⟨as,q⟩:=readsAll_of I sub ds vs its (by simpa[au] using hp) hr rv;exact⟨_,by rw[toPy];exact .list e1 e2 e3 (by simpa using q)⟩
 |dic _ _=>simp[au] at hp
 |_=>exact qz (O:=O) I sub _ v u hp h r
def iS (a b:D):Bool:=au a&&au b&&decide (min (kl a) (kl b)<=100)
def bB:G2:=fun a b=>if iS a b then some (.bl (eqD a b)) else none
def kQ:G2:=fun a b=>if iS a b then some (.bl (!eqD a b)) else none
def RX (K:Zl) (neg:Bool):R2:=fun x y H Q=>∃F O a b,Same F H/\Pk K O F H a x/\Pk K O F H b y/\iS a b=true/\Q (.bl (if neg then !eqD a b else eqD a b)) H
theorem zj {A:Around}(hu:A.units+200<cLine) (h:iS a b=true):A.units+min (toPy a).depth (toPy b).depth<cLine:=by
 unfold iS at h;simp only[W0,Xv] at h;rw[gM,gM];omega
theorem Pw (hu:X.A.units+200<cLine):jl X (compareOp .Eq) (RX X.K false):=by
 intro pins s σ H x y v u Q I rx ry h;obtain⟨F,O,a,b,sub,ha,hb,hc,q⟩:=h;have hc':=hc;unfold iS at hc';simp only[W0] at hc';obtain⟨as,r1⟩:=jH I sub hc'.1.1 ha rx;obtain⟨bs,r2⟩:=jH I sub hc'.1.2 hb ry;refine PySem.SeqAt.compareEq_reads r1 r2 (cT _ hc'.1.1) (cT _ hc'.1.2) (zj hu hc) ?_;rw[iM _ _ hc'.1.1 hc'.1.2];exact⟨.bl _,H,I,rfl,q⟩
theorem Ps (hu:X.A.units+200<cLine):jl X (compareOp .NotEq) (RX X.K true):=by
 intro pins s σ H x y v u Q I rx ry h;obtain⟨F,O,a,b,sub,ha,hb,hc,q⟩:=h;have hc':=hc;unfold iS at hc';simp only[W0] at hc';obtain⟨as,r1⟩:=jH I sub hc'.1.1 ha rx;obtain⟨bs,r2⟩:=jH I sub hc'.1.2 hb ry;refine PySem.SeqAt.compareNe_reads r1 r2 (cT _ hc'.1.1) (cT _ hc'.1.2) (zj hu hc) ?_;rw[iM _ _ hc'.1.1 hc'.1.2];exact⟨.bl _,H,I,rfl,q⟩
theorem Ca (hu:X.A.units+200<cLine):iw X (compareOp .Eq) bB:=by
 refine⟨_,Pw hu,fun Z O F H U a b c x y Q R ha hb hg k=>?_⟩;unfold bB at hg;split at hg
 ·rename_i hc;cases hg;exact⟨F,O,a,b,R.sub,ha,hb,hc,k _ F H R (Same.refl _) (fm _)⟩
 ·cases hg
theorem Nh (hu:X.A.units+200<cLine):iw X (compareOp .NotEq) kQ:=by
 refine⟨_,Ps hu,fun Z O F H U a b c x y Q R ha hb hg k=>?_⟩;unfold kQ at hg;split at hg
 ·rename_i hc;cases hg;exact⟨F,O,a,b,R.sub,ha,hb,hc,k _ F H R (Same.refl _) (fm _)⟩
 ·cases hg
def inD (x:D) (ds:ZE):Bool:=ds.any fun y=>eqD y x
def inOk (x:D) (ds:ZE):Bool:=au x&&plainDs ds&&decide (kl x<=100)
def Jb (neg:Bool):G2:=fun a b=>match b with
 |.lst ds=>if inOk a ds then some (.bl (if neg then !inD a ds else inD a ds)) else none
 |.tup ds=>if inOk a ds then some (.bl (if neg then !inD a ds else inD a ds)) else none
 |_=>none
def ek:G2:=Jb false
def fy:G2:=Jb true
theorem vF (hu:A.units+150<cLine) (I:Inv X pins σ H s) (sub:Same F H) (hx:au x=true) (hd:kl x<=100)
  (h:Pk X.K O F H x v) (r:aV v u) (ds:ZE) (vs:List V) (us:Zt) (hp:plainDs ds=true) (hr:Reps X.K F O ds vs) (rv:aW vs us) :
  ∃e:Value->Bool,(∀w∈us,SeqAt.EqAt A s w u (e w))/\us.any e=inD x ds:=by
 obtain⟨bs,rx⟩:=jH I sub hx h r;have hone:∀(d:D) (w:Value) (as:Zr),au d=true->Reads s.heap w (toPy d) as->SeqAt.EqAt A s w u (eqD d x):=fun d w as hd' q=>by
  have:=PySem.SeqAt.eqAt_reads (toPy d) (toPy x) A s w u as bs q rx (cT _ hd') (cT _ hx) (by rw[gM,gM];omega);rw[iM _ _ hd' hx] at this;exact this
 classical
 let e:Value->Bool:=fun w=>decide (∃d as,au d=true/\Reads s.heap w (toPy d) as/\eqD d x=true)
 have he:∀(d:D) (w:Value) (as:Zr),au d=true->Reads s.heap w (toPy d) as->e w=eqD d x:=fun d w as hd' q=>by
  cases hq:eqD d x with
  |true=>exact VX ⟨d,as,hd',q,hq⟩
  |false =>
   refine VY ?_
   rintro ⟨d2,as2,hp2,q2,e2⟩
   have e3:=PySem.SeqAt.Reads.unique (toPy d) (toPy d2) w as as2 (cT _ hd') q q2;rw[←iM _ _ hp2 hx,←e3,iM _ _ hd' hx,hq] at e2;cases e2
 have all:∀(ds:ZE) (vs:List V) (us:Zt),plainDs ds=true->Reps X.K F O ds vs->aW vs us->(∀w∈us,SeqAt.EqAt A s w u (e w))/\us.any e=inD x ds:=by
  intro ds
  induction ds with
  |nil =>
   intro vs us _ hr rv;unfold Reps at hr;subst hr;cases rv;exact⟨fun w hw=>(nomatch hw),rfl⟩
  |cons d ds ih =>
   intro vs us hp hr rv;unfold Reps at hr;obtain⟨v1,vr,rfl,h1,h2⟩:=hr;simp only[plainDs,W0] at hp;cases rv with
   |cons r1 r2 =>
    obtain⟨as,q1⟩:=qz I sub d v1 _ hp.1 h1 r1;obtain⟨a1,a2⟩:=ih vr _ hp.2 h2 r2;refine⟨fun w hw=>?_,?_⟩
    ·rcases List.mem_cons.mp hw with rfl|hw
     ·rw[he d _ as hp.1 q1];exact hone d _ as hp.1 q1
     ·exact a1 w hw
    ·rw[WZ,he d _ as hp.1 q1,a2];rfl
 exact⟨e,(all ds vs us hp hr rv).1,(all ds vs us hp hr rv).2⟩
def OP (K:Zl) (neg:Bool):R2:=fun x y H Q=>∃F O a ds p vs,Same F H/\Pk K O F H a x/\y=.ref p/\(gR K H p vs\/SqT K H p vs)/\Reps K F O ds vs/\inOk a ds=true/\Q (.bl (if neg then !inD a ds else inD a ds)) H
theorem Pv (hu:X.A.units+200<cLine):jl X (compareOp .In) (OP X.K false):=by
 intro pins s σ H x y v u Q I rx ry h;obtain⟨F,O,a,ds,p,vs,sub,ha,rfl,hq,hr,hc,q⟩:=h;unfold inOk at hc;simp only[W0,Xv] at hc;cases ry;rcases hq with hq|hq
 ·obtain⟨its,r,pl,hz⟩:=I.list hq;obtain⟨e,e1,e2⟩:=vF (A:=X.A.in1) (by show X.A.units+1+150<cLine;omega) I sub hc.1.1 hc.2 ha rx ds vs its hc.1.2 hr r;refine SeqAt.in_listAt e pl.isList (fun w hw=>e1 w (by simpa using hw)) ⟨.bl _,H,I,rfl,?_⟩;rw[show its.toArray.any e=its.any e by simp,e2];exact q
 ·obtain⟨its,r,pl,hz⟩:=I.tuple hq;obtain⟨e,e1,e2⟩:=vF (A:=X.A.in1) (by show X.A.units+1+150<cLine;omega) I sub hc.1.1 hc.2 ha rx ds vs its hc.1.2 hr r;refine SeqAt.in_tupleAt e pl (fun w hw=>e1 w (by simpa using hw)) ⟨.bl _,H,I,rfl,?_⟩;rw[show its.toArray.any e=its.any e by simp,e2];exact q
theorem Ef (hu:X.A.units+200<cLine):jl X (compareOp .NotIn) (OP X.K true):=by
 intro pins s σ H x y v u Q I rx ry h;obtain⟨F,O,a,ds,p,vs,sub,ha,rfl,hq,hr,hc,q⟩:=h;unfold inOk at hc;simp only[W0,Xv] at hc;cases ry;rcases hq with hq|hq
 ·obtain⟨its,r,pl,hz⟩:=I.list hq;obtain⟨e,e1,e2⟩:=vF (A:=X.A.in1) (by show X.A.units+1+150<cLine;omega) I sub hc.1.1 hc.2 ha rx ds vs its hc.1.2 hr r;refine SeqAt.notIn_listAt e pl.isList (fun w hw=>e1 w (by simpa using hw)) ⟨.bl _,H,I,rfl,?_⟩;rw[show its.toArray.any e=its.any e by simp,e2];exact q
 ·obtain⟨its,r,pl,hz⟩:=I.tuple hq;obtain⟨e,e1,e2⟩:=vF (A:=X.A.in1) (by show X.A.units+1+150<cLine;omega) I sub hc.1.1 hc.2 ha rx ds vs its hc.1.2 hr r;refine SeqAt.notIn_tupleAt e pl (fun w hw=>e1 w (by simpa using hw)) ⟨.bl _,H,I,rfl,?_⟩;rw[show its.toArray.any e=its.any e by simp,e2];exact q
theorem N0 {K:Zl}(neg:Bool):eG K (OP K neg) (Jb neg):=by
 intro Z O F H U a b c x y Q R ha hb hg k;cases b with
 |lst ds =>
  simp only[Jb] at hg;split at hg
  ·rename_i hc;have hg:=Option.some.inj hg;subst hg;obtain⟨p,vs,rfl,hs,hr⟩:=hb;exact⟨F,O,a,ds,p,vs,R.sub,ha,rfl,.inl hs,hr,hc,k _ F H R (Same.refl _) (fm _)⟩
  ·cases hg
 |tup ds =>
  simp only[Jb] at hg;split at hg
  ·rename_i hc;have hg:=Option.some.inj hg;subst hg;unfold Pk aG at hb;obtain⟨p,vs,rfl,hs,hr⟩:=hb;exact⟨F,O,a,ds,p,vs,R.sub,ha,rfl,.inr (Same.tup R.sub hs),hr,hc,k _ F H R (Same.refl _) (fm _)⟩
  ·cases hg
 |_=>cases hg
theorem Ni (hu:X.A.units+200<cLine):iw X (compareOp .In) ek:=⟨_,Pv hu,N0 false⟩
theorem Hw (hu:X.A.units+200<cLine):iw X (compareOp .NotIn) fy:=⟨_,Ef hu,N0 true⟩
end
end M
namespace M
open PySem PySem.Spec PyProof.Rows L2
def keyD (d:D):Option DK:=match d with
 |.int i=>some (.inl i)
 |.str x=>some (.inr x)
 |_=>none
def aF:List DK->ZE->DK->ZF
 |k::ks,v::vs,q=>if k=q then some v else aF ks vs q
 |_,_,_=>none
theorem wr (h:dk a=dk b):a=b:=by
 cases a with
 |inl i =>
  cases b with
  |inl j=>exact congrArg _ (Sum.inl.inj h)
  |inr y=>cases h
 |inr x =>
  cases b with
  |inl j=>cases h
  |inr y =>
   have h2:(⟨x.toArray⟩:Str)=⟨y.toArray⟩:=Sum.inr.inj h;have h3:x.toArray=y.toArray:=by injection h2
   have h4:x=y:=by simpa using congrArg Array.toList h3
   rw[h4]
theorem vD {K:Zl}{O:Zr}{F H:Hp}(h:Pk K O F H d v) (e:keyD d=some k):v=kV (dk k):=by
 cases d with
 |int i=>cases e;exact fo h
 |str x=>cases e;exact qC h
 |_=>cases e
theorem iH {K:Zl}{F:Hp} :∀{ks:List DK}{ds:ZE}{vs:List V}{k:DK},Reps K F O ds vs->ks.length=ds.length ->
  (∃d v,aF ks ds k=some d/\gQ ((ks.map dk).zip vs) (dk k)=some v/\aG K F O d v)\/(aF ks ds k=none/\gQ ((ks.map dk).zip vs) (dk k)=none)
 |[],_,_,_,_,_=>.inr ⟨rfl,rfl⟩
 |q::ks,[],vs,k,_,hl=>by simp at hl
 |q::ks,d::ds,vs,k,h,hl=>by
  unfold Reps at h;obtain⟨v,vr,rfl,h1,h2⟩:=h;by_cases e:q=k
  ·subst e;refine .inl ⟨d,v,by simp[aF],?_,h1⟩;exact lN (p:=(dk q,v)) rfl
  ·have e2:¬dk q=dk k:=fun z=>e (wr z)
   have ih:=iH (k:=k) h2 (by simpa using hl);rw[show aF (q::ks) (d::ds) k=aF ks ds k by simp[aF,e],show gQ (((q::ks).map dk).zip (v::vr)) (dk k)=gQ ((ks.map dk).zip vr) (dk k) from lO (p:=(dk q,v)) e2];exact ih
def gDGet:G2:=fun a b=>match a with
 |.dic ks vs=>(keyD b).bind (aF ks vs)
 |_=>none
def gi (neg:Bool):G2:=fun b a=>match a with
 |.dic ks vs=>(keyD b).map fun k=>.bl (if neg then !(aF ks vs k).isSome else(aF ks vs k).isSome)
 |_=>none
section
variable {X:Cx}{EX:EXT}{e a b c:Expr}{pos:Pos}{m ma mb mc:MX}{es rest:Zx}
theorem Ko {K:Zl}:eG K (fun x y H Q=>∃a v,x=.ref a/\jf H a y (some v)/\Q v H) gDGet:=by
 intro Z O F H U a b c x y Q R ha hb hg k;cases a with
 |dic ks ds =>
  simp only[gDGet] at hg;cases hk:keyD b with
  |none=>rw[hk] at hg;cases hg
  |some q =>
   rw[hk] at hg;have hy:=vD hb hk;obtain⟨p,vs,rfl,hs,hl,hr⟩:=ha;rcases iH (k:=q) hr hl with⟨d,v,h1,h2,h3⟩|⟨h1,h2⟩
   ·have hg:aF ks ds q=some c:=hg;rw[h1] at hg;cases hg;subst hy;exact⟨p,v,rfl,by rw[←h2];exact jf.k hs,k v F H R (Same.refl _) h3⟩
   ·have hg:aF ks ds q=some c:=hg;rw[h1] at hg;cases hg
 |_=>cases hg
theorem p9 (hu:X.A.units+200<cLine) (ha:ME X EX a ma) (hb:ME X EX b mb) (hs:MK b):ME X EX (.Subscript a b pos) (a6 gDGet ma mb):=by
 obtain⟨ta,pa,sa⟩:=ha;obtain⟨tb,pb,sb⟩:=hb;exact⟨_,KR (by omega) pa pb hs,gJ (r:=fun x y H Q=>∃a v,x=.ref a/\jf H a y (some v)/\Q v H) sa sb Ko⟩
theorem Gu {K:Zl}(neg:Bool):eG K (fun y x H Q=>∃a o,x=.ref a/\jf H a y o/\Q (.bl (if neg then !o.isSome else o.isSome)) H) (gi neg):=by
 intro Z O F H U b a c y x Q R hb ha hg k;cases a with
 |dic ks ds =>
  simp only[gi] at hg;cases hk:keyD b with
  |none=>rw[hk] at hg;cases hg
  |some q =>
   rw[hk] at hg;have hg:=Option.some.inj hg;subst hg;have hy:=vD hb hk;subst hy;obtain⟨p,vs,rfl,hs,hl,hr⟩:=ha;refine⟨p,_,rfl,jf.k hs,k _ F H R (Same.refl _) ?_⟩;show aG K F O (D.bl (if neg=true then !(aF ks ds q).isSome else(aF ks ds q).isSome)) _;rcases iH (k:=q) hr hl with⟨d,v,h1,h2,h3⟩|⟨h1,h2⟩
   ·rw[h1,h2];exact fm _
   ·rw[h1,h2];exact fm _
 |_=>cases hg
theorem PQ (hu:X.A.units+200<cLine) (ha:ME X EX a ma) (hb:ME X EX b mb) (hm:behindInMarks .In b=false):MT X EX (.Compare a [.In] [b] pos) (a9 (a6 (gi false) ma mb)):=by
 obtain⟨ta,pa,sa⟩:=ha;obtain⟨tb,pb,sb⟩:=hb;exact⟨_,qA (Pc (by omega) pa pb) hm,fw (gJ (r:=fun y x H Q=>∃a o,x=.ref a/\jf H a y o/\Q (.bl (if false then !o.isSome else o.isSome)) H) sa sb (Gu false))⟩
theorem Ez (hu:X.A.units+200<cLine) (ha:ME X EX a ma) (hb:ME X EX b mb) (hm:behindInMarks .NotIn b=false):MT X EX (.Compare a [.NotIn] [b] pos) (a9 (a6 (gi true) ma mb)):=by
 obtain⟨ta,pa,sa⟩:=ha;obtain⟨tb,pb,sb⟩:=hb;exact⟨_,qA (E9 (by omega) pa pb) hm,fw (gJ (r:=fun y x H Q=>∃a o,x=.ref a/\jf H a y o/\Q (.bl (if true then !o.isSome else o.isSome)) H) sa sb (Gu true))⟩
theorem RH.hold {K:Zl}{Z:ZS}{F H:Hp}(o:HO) (r:RH K Z O F H U) (hp:H p=none):RH K (ZS.up Z p o) O F (b6 H p o) U:=by
 have fp:F p=none:=by
  cases e:F p with
  |none=>rfl
  |some u=>rw[r.sub _ _ e] at hp;cases hp
 refine⟨fun b u e=>?_,r.len,fun k a c ha hc=>?_,fun b u e=>?_,fun b u e=>?_,fun k a c ha hc hd=>?_,r.dis,r.ext⟩
 ·rw[ak (az (r.sub b u e) hp)];exact r.sub b u e
 ·have h:=r.cell k a c ha hc;exact h.go (Ext.refl _ _) (fun _=>rfl) fun hd=>let⟨_,_,z⟩:=h.live hd;ak (az z hp)
 ·by_cases hb:b=p
  ·subst hb;rw[dI] at e;rw[aw];exact e
  ·rw[fJ hb] at e;rw[ak hb];exact r.zs b u e
 ·by_cases hb:b=p
  ·subst hb;exact fp
  ·rw[fJ hb] at e;exact r.zf b u e
 ·have h:=r.cell k a c ha hc;have hz:=r.zc k a c ha hc hd;obtain⟨_,_,z⟩:=h.live hd;rw[fJ (az z hp)];exact hz
theorem RH.unhold {K:Zl}{Z:ZS}{F H:Hp}{O:Zr}(o':HO) (r:RH K (ZS.up Z p o) O F H U) (hz:Z.z p=none):RH K Z O (b6 F p o') (b6 H p o') U/\Same F (b6 F p o'):=by
 have fp:F p=none:=r.zf p o dI;have sF:Same F (b6 F p o'):=fun b u e=>by rw[ak (az e fp)];exact e
 have ex:Ext O F O (b6 F p o'):=⟨sF,fun _ _ h=>h⟩
 have nc:∀(k:Nat) (a:Addr) (c:Cell),O[k]? =some a->U[k]? =some c->c≠.dead->a≠p:=fun k a c ha hc hd z=>by
  have:=r.zc k a c ha hc hd;rw[z,dI] at this;cases this
 refine⟨⟨fun b u e=>?_,r.len,fun k a c ha hc=>?_,fun b u e=>?_,fun b u e=>?_,fun k a c ha hc hd=>?_,r.dis,r.ext.trans ex⟩,sF⟩
 ·by_cases hb:b=p
  ·subst hb;rw[aw] at e ⊢;exact e
  ·rw[ak hb] at e ⊢;exact r.sub b u e
 ·exact(r.cell k a c ha hc).go ex (fun hd=>ak (nc k a c ha hc hd)) fun hd=>ak (nc k a c ha hc hd)
 ·have hb:b≠p:=az e hz;rw[ak hb];exact r.zs b u (by rw[fJ hb];exact e)
 ·have hb:b≠p:=az e hz;rw[ak hb];exact r.zf b u (by rw[fJ hb];exact e)
 ·have ne:=nc k a c ha hc hd;have:=r.zc k a c ha hc hd;rw[fJ ne] at this;exact this
def MPs (X:Cx) (EX:EXT) (pos:Pos) (keys:List (Option Expr)) (values:Zx) (ks:List DK) (ms:l7):Prop :=
 keys.length=ks.length/\(∃trs,Tw X pos keys values trs/\∀Z O F H σ ρ U Q,RS X.K Z O F H σ ρ U->GA X.K EX Z O F (fun vs H'=>Q ((ks.map fun k=>kV (dk k)).zip vs) H') (ms ρ U)->uL trs σ H Q)/\∀ρ U ds U',ms ρ U=.ok ds U'->ds.length=ks.length
theorem Lw:MPs X EX pos [] [] [] mNil:=⟨rfl,⟨[],KJ,fun Z O F H σ ρ U Q R g=>g [] O F H R.hp (Ext.refl _ _) ax⟩,fun ρ U ds U' h=>by cases h;rfl⟩
theorem cZ (hx:x=⟨cs.toArray⟩) (hv:ME X EX v m) (hr:MPs X EX pos ks vs kd ms) :
  MPs X EX pos (some (.Constant (.str x) j p)::ks) (v::vs) (.inr cs::kd) (a5 m ms):=by
 obtain⟨tv,pv,sv⟩:=hv;obtain⟨hk,⟨trs,pr,sr⟩,lr⟩:=hr;refine⟨by simp[hk],⟨_,xN Ha pv pr,fun Z O F H σ ρ U Q R g=>?_⟩,fun ρ U ds U' h=>?_⟩
 rotate_left
 ·unfold a5 at h;cases e1:m ρ U with
  |ok d U1 =>
   rw[e1] at h;simp only[ae] at h;cases e2:ms ρ U1 with
   |ok dr U2 =>
    rw[e2] at h;simp only[ae] at h;cases h;simp[lr _ _ _ _ e2]
   |exc x U2=>rw[e2] at h;cases h
   |bad=>rw[e2] at h;cases h
  |exc x U1=>rw[e1] at h;cases h
  |bad=>rw[e1] at h;cases h
 show tv σ H _;refine sv Z O F H σ ρ U _ R (GE.step (G:=GA X.K EX Z O F fun vs H'=>Q (((Sum.inr cs::kd).map fun k=>kV (dk k)).zip vs) H') g (fun _ _ h=>h) (fun h=>h) fun d U1 v O1 F1 H1 R1 e1 p1 g1=>?_);refine sr Z O1 F1 H1 σ ρ U1 _ (R.to R1 e1) (GA.step (G:=GA X.K EX Z O F fun vs H'=>Q (((Sum.inr cs::kd).map fun k=>kV (dk k)).zip vs) H') g1 (fun _ _ h=>h) (fun h=>h) fun ds U2 vs O2 F2 H2 R2 e2 p2 g2=>?_);have:=g2 (v::vs) O2 F2 H2 R2 (e1.trans e2) (aa (p1.mono e2) p2);subst hx;exact this
theorem nA:∀(more acc:List (Key×V)),((acc++more).map (·.1)).Nodup->jQ acc more=acc++more
 |[],acc,_=>by simp[jQ]
 |kv::more,acc,h=>by
  have hn:gQ acc kv.1=none:=by
   cases e:gQ acc kv.1 with
   |none=>rfl
   |some v =>
    exfalso
    have hm:kv.1∈acc.map (·.1):=by
     have q:(acc.any fun x=>decide (x.1=kv.1))=true:=by rw[lP,e];rfl
     obtain⟨p,hp,e⟩:=List.any_eq_true.mp q;exact List.mem_map.mpr ⟨p,hp,X8 e⟩
    rw[WW,List.nodup_append] at h;exact h.2.2 _ hm _ (by simp) rfl
  show jQ (iX acc kv.1 kv.2) more=_;rw[GT _ hn];rw[nA more (acc++[(kv.1,kv.2)]) (by simpa using h)];simp
theorem pY (f:β->γ):∀(l:List β) (r:List δ),(l.map f).zip r=(l.zip r).map fun p=>(f p.1,p.2)
 |[],_=>by simp
 |_::_,[]=>by simp
 |a::l,b::r=>by simp only[VW,YF];rw[pY f l r]
theorem md:∀{ks:List DK},ks.Nodup->(ks.map dk).Nodup
 |[],_=>List.nodup_nil
 |k::ks,h=>by
  rw[Ys] at h;rw[VW,Ys];refine⟨fun hm=>?_,md h.2⟩;obtain⟨q,hq,e⟩:=List.mem_map.mp hm;exact h.1 (wr e▸hq)
def mDic (ks:List DK) (ms:l7):MX:=fun ρ U=>(ms ρ U).bind fun ds U1=>.ok (.dic ks ds) U1
theorem Q6 {keys:List (Option Expr)}{values:Zx}(h:MPs X EX pos keys values ks ms) (nd:ks.Nodup) (hall:keys.all (·.isSome)=true) (hl:keys.length=values.length) (h0:keys≠[]) (h15:keys.length<=15) :
  ME X EX (.Dict keys values pos) (mDic ks ms):=by
 obtain⟨hk,⟨trs,pp,sp⟩,lp⟩:=h;refine⟨_,BV pp hall hl h0 h15,fun Z O F H σ ρ U Q R g=>?_⟩;intro p hp;have hz:Z.z p=none:=by
  cases e:Z.z p with
  |none=>rfl
  |some u=>rw[R.hp.zs _ _ e] at hp;cases hp
 refine sp (ZS.up Z p (.dK [])) O F (b6 H p (.dK [])) σ ρ U _ ⟨R.hp.hold _ hp,R.len,R.sl⟩ (GA.stepE (G:=GE X.K EX Z O F Q) g (fun _ _ h=>EX.mono _ _ _ _ _ hz h) (fun h=>h) fun ds U1 vs O1 F1 H1 hm R1 e1 p1 g1=>?_);have hlen:=lp _ _ _ _ hm;have hlen2:=p1.length;refine⟨R1.zs _ _ dI,(ks.map dk).zip vs,?_,?_,?_⟩
 ·show(ks.map fun k=>kV (dk k)).zip vs=((ks.map dk).zip vs).map fun kv=>(kV kv.1,kv.2)
  have:(ks.map fun k=>kV (dk k))=(ks.map dk).map kV:=by simp
  rw[this];exact pY kV _ _
 ·rw[XT,VS];omega
 ·have nd2:(((ks.map dk).zip vs).map (·.1)).Nodup:=by
   rw[YU (by simp;omega)];exact md nd
  rw[nA _ [] (by simpa using nd2),WU];obtain⟨R2,s2⟩:=R1.unhold (.dK ((ks.map dk).zip vs)) hz;refine g1 _ O1 _ _ R2 (e1.trans ⟨s2,fun _ _ h=>h⟩) ?_;unfold aG;exact⟨p,vs,rfl,aw,by omega,p1.mono ⟨s2,fun _ _ h=>h⟩⟩
abbrev GL:=ZE->ZF
def Tu (K:Zl) (O:Zr) (F H:Hp):ZE->List V->Prop
 |[],vs=>vs=[]
 |d::ds,vs=>∃v r,vs=v::r/\Pk K O F H d v/\Tu K O F H ds r
theorem RH.pks {K:Zl}{Z:ZS}{O:Zr}(r:RH K Z O F H U):∀{ds:ZE}{vs:List V},Reps K F O ds vs->Tu K O F H (ds.map (ai U)) vs
 |[],vs,h=>by unfold Reps at h;exact h
 |d::ds,vs,h=>by
  unfold Reps at h;obtain⟨v,vr,hv,h1,h2⟩:=h;exact⟨v,vr,hv,r.pk h1,RH.pks r h2⟩
def Dp (K:Zl) (r:List V->Hp->VK->Prop) (g:GL):Prop:=∀Z O F H U ds c vs Q,RH K Z O F H U->Tu K O F H ds vs->g ds=some c ->
 (∀v F' H',RH K Z O F' H' U->Same F F'->aG K F' O c v->Q v H')->r vs H Q
def jo (X:Cx) (f:Value) (g:GL):Prop:=∃r,gP X f r/\Dp X.K r g
def mCallB (g:GL) (ms:l7):MX:=fun ρ U=>(ms ρ U).bind fun ds U1=>ofO U1 (g (ds.map (ai U1)))
theorem rG (st:∀Z O F H σ ρ U Q,RS X.K Z O F H σ ρ U->GA X.K EX Z O F Q (ms ρ U)->t σ H Q) (hs:Dp X.K r g):eu X EX (Uv r t) (mCallB g ms):=by
 intro Z O F H σ ρ U Q R gd;refine st Z O F H σ ρ U _ R (GA.step (G:=GE X.K EX Z O F Q) gd (fun _ _ h=>h) (fun h=>h) fun ds U1 vs O1 F1 H1 R1 e1 p1 g1=>?_);cases hg:g (ds.map (ai U1)) with
 |none=>rw[hg] at g1;exact g1.elim
 |some c =>
  rw[hg] at g1;exact hs Z O1 F1 H1 U1 _ c vs Q R1 (R1.pks p1) hg fun v F' H' R' sf rp=>g1 v O1 F' H' R' (e1.trans ⟨sf,fun _ _ h=>h⟩) rp
theorem f6 {x:Str}{p:Pos}{id:String}(hc:jo X (.builtin id) g) (hg:Gl X x) (hm:X.mg x=none) (hv:bootBuiltins x=some (.builtin id)) (ha:MA X EX (e::es) ms) (hn:x≠"__name__":=by decide) (hdb:(x==("__debug__":Str))=false:=by decide)
  (he:starEach (e::es) X.env=(false,eval e X.env)::starEach es X.env:=by rfl) (hpl:(backTo pos (starEach es X.env)).any (·.1)=false:=by rfl):ME X EX (.Call (.Name x p) (e::es) [] pos) (mCallB g ms):=by
 obtain⟨r,h1,h2⟩:=hc;obtain⟨t,pt,st,_⟩:=ha;exact⟨_,qE h1 hg hm hv pt hn hdb he hpl,rG st h2⟩
theorem kA (hc:jo X (.type T) g) (hg:Gl X x) (hm:X.mg x=none) (hv:bootBuiltins x=some (.type T)) (ha:MA X EX (e::es) ms) (hn:x≠"__name__":=by decide) (hdb:(x==("__debug__":Str))=false:=by decide)
  (he:starEach (e::es) X.env=(false,eval e X.env)::starEach es X.env:=by rfl) (hpl:(backTo pos (starEach es X.env)).any (·.1)=false:=by rfl):ME X EX (.Call (.Name x p) (e::es) [] pos) (mCallB g ms):=by
 obtain⟨r,h1,h2⟩:=hc;obtain⟨t,pt,st,_⟩:=ha;exact⟨_,E8 h1 hg hm hv pt hn hdb he hpl,rG st h2⟩
def bM:GL:=fun ds=>match ds with
 |[.lst xs]=>some (.int xs.length)
 |[.tup xs]=>some (.int xs.length)
 |[.str xs]=>if xs.length<=16777216 then some (.int xs.length) else none
 |_=>none
theorem Bd:jo X (.builtin "len") bM:=by
 refine⟨_,Jw,fun Z O F H U ds c vs Q R hp hg k=>?_⟩
 match ds,hg with
 |[.lst xs],hg =>
  obtain⟨v,r,rfl,⟨a,us,rfl,hs,hr⟩,hq⟩:=hp;have hq:r=[]:=hq;subst hq;cases hg;exact⟨_,_,rfl,.inl ⟨us,hs,rfl⟩,by rw[←hr.length];exact k _ F H R (Same.refl _) (cv _)⟩
 |[.tup xs],hg =>
  obtain⟨v,r,rfl,hv,hq⟩:=hp;have hq:r=[]:=hq;subst hq;unfold Pk aG at hv;obtain⟨a,us,rfl,hs,hr⟩:=hv;cases hg;exact⟨_,_,rfl,.inr ⟨us,Same.tup R.sub hs,rfl⟩,by rw[←hr.length];exact k _ F H R (Same.refl _) (cv _)⟩
 |[.str xs],hg =>
  obtain⟨v,r,rfl,hv,hq⟩:=hp;have hq:r=[]:=hq;subst hq;have hv:=qC hv;subst hv;simp only[bM] at hg;split at hg
  ·rename_i hl;cases hg;refine⟨_,xs.length,rfl,⟨by rw[Wb];simpa[Str.length] using hl,by simp[Str.length]⟩,k _ F H R (Same.refl _) (cv _)⟩
  ·cases hg
def t5:GL:=fun ds=>match ds with
 |[.int i,.int j]=>some (.int (if j>i then j else i))
 |_=>none
def B4:GL:=fun ds=>match ds with
 |[.int i,.int j]=>some (.int (if j<i then j else i))
 |_=>none
theorem S6 {K:Zl}{O:Zr}{F H:Hp}{a b:D}(h:Tu K O F H [a,b] vs):∃v u,vs=[v,u]/\Pk K O F H a v/\Pk K O F H b u:=by
 obtain⟨v,r,rfl,h1,u,r',rfl,h2,h3⟩:=h;have h3:r'=[]:=h3;subst h3;exact⟨v,u,rfl,h1,h2⟩
theorem S7 {K:Zl}{O:Zr}{F H:Hp}{a:D}(h:Tu K O F H [a] vs):∃v,vs=[v]/\Pk K O F H a v:=by
 obtain⟨v,r,rfl,h1,h3⟩:=h;have h3:r=[]:=h3;subst h3;exact⟨v,rfl,h1⟩
theorem QF (hc:X.calm=true):jo X (.builtin "max") t5:=by
 refine⟨_,Fj hc,fun Z O F H U ds c vs Q R hp hg k=>?_⟩
 match ds,hg with
 |[.int i,.int j],hg =>
  obtain⟨v,u,rfl,h1,h2⟩:=S6 hp;rw[fo h1,fo h2];cases hg;exact⟨i,j,rfl,k _ F H R (Same.refl _) (cv _)⟩
theorem QE (hc:X.calm=true):jo X (.builtin "min") B4:=by
 refine⟨_,Fi hc,fun Z O F H U ds c vs Q R hp hg k=>?_⟩
 match ds,hg with
 |[.int i,.int j],hg =>
  obtain⟨v,u,rfl,h1,h2⟩:=S6 hp;rw[fo h1,fo h2];cases hg;exact⟨i,j,rfl,k _ F H R (Same.refl _) (cv _)⟩
def kc:GL:=fun ds=>match ds with
 |[.int i]=>some (.int i)
 |[.bl k]=>some (.int (if k then 1 else 0))
 |_=>none
theorem QG:jo X (.type "int") kc:=by
 refine⟨_,Fk,fun Z O F H U ds c vs Q R hp hg k=>?_⟩
 match ds,hg with
 |[.int i],hg =>
  obtain⟨v,rfl,h1⟩:=S7 hp;rw[fo h1];cases hg;exact .inl ⟨i,rfl,k _ F H R (Same.refl _) (cv _)⟩
 |[.bl i],hg =>
  obtain⟨v,rfl,h1⟩:=S7 hp;rw[Nb h1];cases hg;exact .inr ⟨i,rfl,k _ F H R (Same.refl _) (cv _)⟩
inductive Ki where
 |int|bool|str|list|tuple
def Ki.nm:Ki->String
 |.int=>"int"
 |.bool=>"bool"
 |.str=>"str"
 |.list=>"list"
 |.tuple=>"tuple"
def R9 (k:Ki) (d:D):Option Bool:=match d,k with
 |.non,_=>some false
 |.bl _,.bool=>some true
 |.bl _,.int=>some true
 |.bl _,_=>some false
 |.int _,.int=>some true
 |.int _,_=>some false
 |.str _,.str=>some true
 |.str _,_=>some false
 |.tup _,.tuple=>some true
 |.tup _,_=>some false
 |.lst _,.list=>some true
 |.lst _,_=>some false
 |.dic _ _,_=>some false
 |.ref _,_=>none
def tyD:D->Option String
 |.non=>some "NoneType"
 |.bl _=>some "bool"
 |.int _=>some "int"
 |.str _=>some "str"
 |.tup _=>some "tuple"
 |.lst _=>some "list"
 |.dic _ _=>some "dict"
 |.ref _=>none
theorem LZ {K:Zl}{k:Ki}{d:D}{b:Bool}(h:R9 k d=some b) (ht:tyD d=some t):PySem.W.kitOne K (.type t) (.type k.nm)=some b:=by
 cases d<;>cases ht<;>cases k<;>cases h<;>rfl
theorem EM {Q:Zm}{cl:Value}{b:Bool}{d:D}{v:V}{u:Value}{t:String}
  (I:Inv X pins σ H s) (sub:Same F H) (h:Pk X.K O F H d v) (r:aV v u) (ht:tyD d=some t) (e:PySem.W.kitOne X.K (.type t) cl=some b) (q:∀tk,Q (.bool b) { s with toks:=tk}) :
  wpAny (model X.prog X.w) A (call (.builtin "isinstance") [u,cl]) Q E s:=by
 cases d with
 |non=>cases ht;have:=P3 h;subst this;exact iI I r .non e q
 |bl x=>cases ht;have:=Nb h;subst this;exact iI I r (.bl x) e q
 |int x=>cases ht;have:=fo h;subst this;exact iI I r (.int x) e q
 |str x=>cases ht;have:=qC h;subst this;exact iI I r (.str _) e q
 |tup x =>
  cases ht;unfold Pk aG at h;obtain⟨a,vs,rfl,hs,hr⟩:=h;cases r;obtain⟨its,rv,⟨o,h1,h2,_⟩,_⟩:=I.tuple (Same.tup sub hs);exact Ww PySem.W.kitx_tuple I.kIn ⟨o,h1,h2⟩ e (fun z=>nomatch z) q
 |lst x =>
  cases ht;obtain⟨a,vs,rfl,hs,hr⟩:=h;cases r;obtain⟨its,rv,⟨o,n,h1,h2,_⟩,_⟩:=I.list hs;exact Ww YH I.kIn ⟨o,h1,h2⟩ e (fun z=>nomatch z) q
 |dic ks x =>
  cases ht;obtain⟨a,vs,rfl,hs,_⟩:=h;exact iI I r (.dK hs) e q
 |ref x=>cases ht
def mIsI (k:Ki) (m:MX):MX:=fun ρ U=>(m ρ U).bind fun d U1=>ofO U1 ((R9 k (ai U1 d)).map .bl)
theorem Jy (k:Ki):gP X (.builtin "isinstance") (fun xs H Q=>∃F O d v b,Same F H/\xs=[v,.ty k.nm]/\Pk X.K O F H d v/\R9 k d=some b/\Q (.bl b) H):=by
 intro pins s σ H xs us Q I r h;obtain⟨F,O,d,v,b,sub,rfl,hp,hk,q⟩:=h;obtain⟨u,w',rfl,h1,h2⟩:=q9 r;cases h2;obtain⟨t,ht⟩:∃t,tyD d=some t:=by
  cases d<;>first|exact⟨_,rfl⟩|(cases hk)
 exact EM I sub hp h1 ht (LZ hk ht) fun tk=>⟨.bl b,H,I.tok _,rfl,q⟩
theorem qT (k:Ki) (hx:bootBuiltins x=some (.type k.nm)) (hg:Gl X "isinstance") (hm:X.mg "isinstance"=none) (hg2:Gl X x) (hm2:X.mg x=none) (ha:ME X EX e m) (hn2:x≠"__name__":=by decide) (hd2:(x==("__debug__":Str))=false:=by decide)
  (hs:starEach [e,.Name x p2] X.env=(false,eval e X.env)::starEach [.Name x p2] X.env:=by rfl) (hs2:starEach [.Name x p2] X.env=[(false,eval (.Name x p2) X.env)]:=by rfl):ME X EX (.Call (.Name "isinstance" p) [e,.Name x p2] [] pos) (mIsI k m):=by
 obtain⟨t,pt,st⟩:=ha;refine⟨_,qE (Jy k) hg hm Yt (g9 pt (g9 (KU (v:=.ty k.nm) hg2 hm2 hx rfl hn2 hd2) nk hs2) hs) (by decide) (by decide) hs (by rw[hs2];rfl),fun Z O F H σ ρ U Q R g=>?_⟩;refine st Z O F H σ ρ U _ R (GE.step (G:=GE X.K EX Z O F Q) g (fun _ _ h=>h) (fun h=>h) fun d U1 v O1 F1 H1 R1 e1 p1 g1=>?_);cases hk:R9 k (ai U1 d) with
 |none=>rw[hk] at g1;exact g1.elim
 |some b =>
  rw[hk] at g1;exact⟨F1,O1,ai U1 d,v,b,R1.sub,rfl,R1.pk p1,hk,g1 _ O1 F1 H1 R1 e1 (fm _)⟩
end
def Ds:EXT:=⟨fun _ _ _=>False,fun _ _ _ _ _ _ h=>h⟩
abbrev Fn:=ZE->Mu->Res D
def noX :Res O->Res O
 |.exc _ _=>.bad
 |r=>r
@[simp] theorem vc (a:O) (U:Mu):noX (.ok a U)=.ok a U:=rfl
def Ag (K:Zl) (n:Nat) (φ:Fn):Sp:=fun vs H Q _=>∃Z O F ds U,RH K Z O F H U/\Reps K F O ds vs/\ds.length=n/\GE K Ds Z O F Q (φ ds U)
def mCall (φ:Fn) (ms:l7):MX:=fun ρ U=>(ms ρ U).bind fun ds U1=>noX (φ ds U1)
section
variable {X:Cx}{EX:EXT}{e a b c:Expr}{pos:Pos}{m ma mb mc:MX}{es rest:Zx}{ms:l7}
theorem GE.noX {K:Zl}{Z:ZS}{O:Zr}(h:GE K EX Z O F Q (M.noX r)):GE K Ds Z O F Q r:=by
 cases r with
 |ok d U=>exact h
 |exc x U=>exact h.elim
 |bad=>exact h
theorem LL (F:ei X.prog X.w X.K X.mg X.base mZ k f fd ps (Ag X.K ps.length φ)) (hr:aQ k X.A) (hg:Gl X x) (hm:X.mg x=some (.ref f)) (hk:PySem.W.keepIn X.K (.ref f)=true) (hb:jq X.K fd ps [])
  (ha:MA X EX (e::es) ms) (hl:(e::es).length=ps.length) (hdb:(x==("__debug__":Str))=false:=by decide) (he:starEach (e::es) X.env=(false,eval e X.env)::starEach es X.env:=by rfl) (hpl:(backTo pos (starEach es X.env)).any (·.1)=false:=by rfl) :
  ME X EX (.Call (.Name x p) (e::es) [] pos) (mCall φ ms):=by
 obtain⟨t,pt,st,lt⟩:=ha;refine⟨_,BW F hr hg hm hk hb .nil Ho pt hdb he hpl,fun Z O G H σ ρ U Q R g=>?_⟩;refine st Z O G H σ ρ U _ R (GA.stepE (G:=GE X.K EX Z O G Q) g (fun _ _ h=>h) (fun h=>h) fun ds U1 vs O1 F1 H1 hm1 R1 e1 p1 g1=>?_);rw[WC];exact⟨Z,O1,F1,ds,U1,R1,p1,(lt _ _ _ _ hm1).trans hl,GE.noX (GE.ext e1 g1)⟩
theorem Iq (F:ei X.prog X.w X.K X.mg X.base mZ k f fd [] (Ag X.K 0 φ)) (hr:aQ k X.A) (hg:Gl X x) (hm:X.mg x=some (.ref f)) (hk:PySem.W.keepIn X.K (.ref f)=true) (hb:jq X.K fd [] [])
  (hdb:(x==("__debug__":Str))=false:=by decide):ME X EX (.Call (.Name x p) [] [] pos) (mCall φ mNil):=by
 refine⟨_,Hl F hr hg hm hk hb .nil Ho hdb,fun Z O G H σ ρ U Q R g=>?_⟩;exact⟨Z,O,G,[],U,R.hp,ax,rfl,GE.noX g⟩
variable {st:Stmt}{sts:Zz}{n n1 n2:bD}{t:MB}
def mSkip:bD:=fun ρ U=>.ok (.nx ρ) U
def ag (n1 n2:bD):bD:=fun ρ U=>(n1 ρ U).bind fun o U1=>match o with
 |.nx ρ1=>n2 ρ1 U1
 |o=>.ok o U1
def av (m:MX):bD:=fun ρ U=>(m ρ U).bind fun d U1=>.ok (.rt d) U1
def Sy:bD:=fun _ U=>.ok (.rt .non) U
def mDrop (m:MX):bD:=fun ρ U=>(m ρ U).bind fun _ U1=>.ok (.nx ρ) U1
def mSet (i:Nat) (m:MX):bD:=fun ρ U=>(m ρ U).bind fun d U1=>.ok (.nx (ρ.set i (some d))) U1
def mIte (t:MB) (n1 n2:bD):bD:=fun ρ U=>(t ρ U).bind fun k U1=>match k with
 |true=>n1 ρ U1
 |false=>n2 ρ U1
theorem Lr:MSs X EX [] mSkip:=⟨_,KG,fun Z O F H σ ρ U N R g=>g σ O F H R (Ext.refl _ _)⟩
theorem df (h:MS X EX st n):MSs X EX [st] n:=let⟨t,p,s⟩:=h;⟨t,BR p,s⟩
theorem aE (h1:MS X EX st n1) (h2:MSs X EX sts n2):MSs X EX (st::sts) (ag n1 n2):=by
 obtain⟨t,p,s⟩:=h1;obtain⟨u,q,r⟩:=h2;refine⟨_,xL p q,fun Z O F H σ ρ U N R g=>?_⟩;refine s Z O F H σ ρ U _ R ?_;unfold ag at g;cases e:n1 ρ U with
 |ok o U1 =>
  rw[e] at g;cases o with
  |nx ρ1=>exact fun σ' O' F' H' R' e'=>r Z O' F' H' σ' ρ1 U1 N R' (GS.ext e' g)
  |rt d=>exact g
  |bk ρ1=>exact g
  |ct ρ1=>exact g
 |exc x U1=>rw[e] at g;exact g
 |bad=>rw[e] at g;exact g
theorem jP (h:ME X EX e m):MS X EX (.Return (some e) pos) (av m):=by
 obtain⟨t,p,s⟩:=h;refine⟨_,OX p,fun Z O F H σ ρ U N R g=>?_⟩;exact s Z O F H σ ρ U _ R (GE.step (G:=GS X.K EX Z O F N) g (fun _ _ h=>h) (fun h=>h) fun d U1 v O1 F1 H1 R1 e1 p1 g1=>g1 v O1 F1 H1 R1 e1 p1)
theorem Ci (h:ME X EX e m) (hs:swapsWith e none pos.line X.env=pure false:=by rfl):MS X EX (.Expr e pos) (mDrop m):=by
 obtain⟨t,p,s⟩:=h;refine⟨_,BS p hs,fun Z O F H σ ρ U N R g=>?_⟩;exact s Z O F H σ ρ U _ R (GE.step (G:=GS X.K EX Z O F N) g (fun _ _ h=>h) (fun h=>h) fun d U1 v O1 F1 H1 R1 e1 p1 g1=>g1 σ O1 F1 H1 (R.to R1 e1) e1)
theorem RS.set {K:Zl}{Z:ZS}{F H:Hp}{O:Zr}{σ:L2.St}(i:Nat) (R:RS K Z O F H σ ρ U) (p:aG K F O d v):RS K Z O F H (σ.set i (some v)) (ρ.set i (some d)) U:=by
 refine⟨R.hp,by simpa using R.len,fun j e h=>?_⟩;by_cases hj:j=i
 ·subst hj;have hl:j<ρ.length:=by
   have:=(List.getElem?_eq_some_iff.mp h).1;simpa using this
  rw[Wi hl] at h;cases h;exact⟨v,Wi (by rw[←R.len];exact hl),p⟩
 ·rw[Wp (Wr hj)] at h;obtain⟨u,h1,h2⟩:=R.sl j e h;exact⟨u,by rw[Wp (Wr hj)];exact h1,h2⟩
theorem I9 (hN:X.nd) (hi:X.N[i]? =some x) (hx:zD X.env.scope x) (hf:X.fn x=true\/X.env.scope.names.lookup x=some .local) (h:ME X EX e m) (hs:swapsWith e (some (.Name x pos')) pos.line X.env=pure false:=by rfl) :
  MS X EX (.Assign [.Name x pos'] e pos) (mSet i m):=by
 obtain⟨t,p,s⟩:=h;refine⟨_,OW hN hi hx p hs hf,fun Z O F H σ ρ U N R g=>?_⟩;exact s Z O F H σ ρ U _ R (GE.step (G:=GS X.K EX Z O F N) g (fun _ _ h=>h) (fun h=>h) fun d U1 v O1 F1 H1 R1 e1 p1 g1=>g1 _ O1 F1 H1 ((R.to R1 e1).set i p1) e1)
theorem tU (hc:MT X EX c t) (ha:MSs X EX sa n1) (hb:MSs X EX sb n2):MS X EX (.If c sa sb pos) (mIte t n1 n2):=by
 obtain⟨tc,pc,sc⟩:=hc;obtain⟨ta,pa,ga⟩:=ha;obtain⟨tb,pb,gb⟩:=hb;refine⟨_,S5 pc pa pb,fun Z O F H σ ρ U N R g=>?_⟩;refine sc Z O F H σ ρ U _ R (GB.step (G:=GS X.K EX Z O F N) g (fun _ _ h=>h) (fun h=>h) fun k U1 O1 F1 H1 R1 e1 g1=>?_);cases k with
 |true=>exact ga Z O1 F1 H1 σ ρ U1 N (R.to R1 e1) (GS.ext e1 g1)
 |false=>exact gb Z O1 F1 H1 σ ρ U1 N (R.to R1 e1) (GS.ext e1 g1)
abbrev MG:=D->En->Option En
def MTg (X:Cx) (tg:Expr) (mg:MG):Prop:=∃g:TG,PG X tg g/\∀Z O F H σ ρ U v d ρ' Q,RS X.K Z O F H σ ρ U->aG X.K F O d v->mg d ρ=some ρ'->(∀σ',RS X.K Z O F H σ' ρ' U->Q σ' H)->g v σ H Q
def gN (i:Nat):MG:=fun d ρ=>some (ρ.set i (some d))
theorem Cg (hN:X.nd) (hi:X.N[i]? =some x) (hx:zD X.env.scope x) (hf:X.fn x=true\/X.env.scope.names.lookup x=some .local):MTg X (.Name x pos) (gN i) :=
 ⟨_,KP hN hi hx hf,fun Z O F H σ ρ U v d ρ' Q R p h k=>by cases h;exact k _ (R.set i p)⟩
def forGo (tg:MG) (n:bD):ZE->En->Mu->Res Out
 |[],ρ,U=>.ok (.nx ρ) U
 |d::ds,ρ,U=>match tg d ρ with
  |none=>.bad
  |some ρ1=>(n ρ1 U).bind fun o U1=>match o with
   |.nx ρ2=>forGo tg n ds ρ2 U1
   |.ct ρ2=>forGo tg n ds ρ2 U1
   |.bk ρ2=>.ok (.nx ρ2) U1
   |.rt d=>.ok (.rt d) U1
abbrev JX:=En->Mu->Res (ZE)
def mFor (tg:MG) (it:JX) (n:bD):bD:=fun ρ U=>(it ρ U).bind fun ds U1=>forGo tg n ds ρ U1
def WalkOk (K:Zl) (O:Zr) (F:Hp) (J:It) (ds:ZE):Prop :=
 ∀(Z:ZS) O' F' H' (U':Mu),RH K Z O' F' H' U'->Ext O F O' F'->∀i,(i<ds.length->J.go i H'/\∀x H2,J.yld i H' x H2->∃d F2,ds[i]? =some d/\RH K Z O' F2 H2 U'/\Same F' F2/\aG K F2 O' d x)/\(ds.length=i->J.stop i H')
def MI (X:Cx) (EX:EXT) (tg e:Expr) (m:JX):Prop:=∃wi:TI,PI X tg e wi/\∀Z O F H σ ρ U Rr,RS X.K Z O F H σ ρ U ->
 (match m ρ U with
  |.ok ds U'=>∀J O' F' H',RH X.K Z O' F' H' U'->Ext O F O' F'->WalkOk X.K O' F' J ds->Rr J H'
  |.exc x U'=>EX.P Z x U'
  | .bad=>False)->wi σ H Rr
theorem vf (hp:PassesOwn (model X.prog X.w) X.A X.env X.xe) (hc:X.calm=true) (hi:MI X EX tg it mi) (hg:MTg X tg g) (hb:MSs X EX body n)
  (hs:∀x,foldedSetIterable it X.env x=pure x:=by intro _;rfl):MS X EX (.For tg it body [] pos) (mFor g mi n):=by
 obtain⟨wi,pi,si⟩:=hi;obtain⟨tgt,pg,sg⟩:=hg;obtain⟨tb,pb,sb⟩:=hb;refine⟨_,OY hp hc pi pg pb hs,fun Z O F H σ ρ U N R gd=>?_⟩;refine si Z O F H σ ρ U _ R ?_;unfold mFor at gd;cases hm:mi ρ U with
 |exc x U1=>rw[hm] at gd;exact gd
 |bad=>rw[hm] at gd;exact gd
 |ok ds U1 =>
  rw[hm] at gd;intro J O1 F1 H1 R1 e1 wk
  let W:Nat->Nat->L2.St->Hp->Prop:=fun i k σ' H'=>k=ds.length-i/\i<=ds.length/\∃O' F' ρ' U',RS X.K Z O' F' H' σ' ρ' U'/\Ext O1 F1 O' F'/\GS X.K EX Z O' F' N (forGo g n (ds.drop i) ρ' U')
  refine⟨W,⟨ds.length,rfl,WK _,O1,F1,ρ,U1,R.to R1 e1,Ext.refl _ _,GS.ext e1 gd⟩,?_⟩
  rintro i k σ2 H2 ⟨rfl,hi2,O2,F2,ρ2,U2,R2,e2,g2⟩
  obtain⟨w1,w2⟩:=wk Z O2 F2 H2 U2 R2.hp e2 i;by_cases hlt:i<ds.length
  ·obtain⟨w3,w4⟩:=w1 hlt;refine .inr ⟨w3,fun σ' H'=>W (i+1) (ds.length-(i+1)) σ' H',fun σ' H' h=>⟨_,by omega,h⟩,fun x H3 y=>?_⟩;obtain⟨d,F3,hd,R3,s3,p3⟩:=w4 x H3 y;have e3:Ext O2 F2 O2 F3:=⟨s3,fun _ _ h=>h⟩
   rw[XE hlt] at g2;have hd':ds[i]=d:=by
    rw[VI hlt] at hd;exact Option.some.inj hd
   rw[hd'] at g2;have R3':RS X.K Z O2 F3 H3 σ2 ρ2 U2:=R2.to R3 e3;simp only[forGo] at g2;cases ht:g d ρ2 with
   |none=>rw[ht] at g2;exact g2.elim
   |some ρ4 =>
    rw[ht] at g2;simp only at g2;refine sg Z O2 F3 H3 σ2 ρ2 U2 x d ρ4 _ R3' p3 ht fun σ4 R4=>?_
    refine sb Z O2 F3 H3 σ4 ρ4 U2 _ R4 ?_;cases hn:n ρ4 U2 with
    |exc x U1=>rw[hn] at g2;exact g2
    |bad=>rw[hn] at g2;exact g2
    |ok o U5 =>
     rw[hn] at g2;cases o with
     |nx ρ5=>exact fun σ' O' F' H' R' e'=>⟨rfl,hlt,O',F',ρ5,U5,R',e2.trans (e3.trans e'),GS.ext (e3.trans e') g2⟩
     |ct ρ5=>exact fun σ' O' F' H' R' e'=>⟨rfl,hlt,O',F',ρ5,U5,R',e2.trans (e3.trans e'),GS.ext (e3.trans e') g2⟩
     |bk ρ5=>exact fun σ' O' F' H' R' e'=>g2 σ' O' F' H' R' (e3.trans e')
     |rt d=>exact fun v O' F' H' R' e' q=>g2 v O' F' H' R' (e3.trans e') q
  ·refine .inl ⟨w2 (by omega),?_⟩;rw[Y5 (by omega)] at g2;exact g2 σ2 O2 F2 H2 R2 (Ext.refl _ _)
def rangeD (n:Nat):ZE:=(List.range n).map fun k=>.int (k:Nat)
def gz (ds:ZE):Option (ZE):=match ds with
 |[.int j]=>if -(2 ^ 62)<=j/\j<2 ^ 62 then some (rangeD j.toNat) else none
 |_=>none
def mRange1 (m:MX):JX:=fun ρ U=>(m ρ U).bind fun d U1=>ofO U1 (gz [d])
theorem zJ {K:Zl}{F:Hp}(n:Nat):WalkOk K O F (Rf 0 n) (rangeD n):=by
 intro Z O' F' H' U' R e i;have hl:(rangeD n).length=n:=by simp[rangeD]
 refine⟨fun h=>⟨by rw[hl] at h;exact h,fun x H2 y=>?_⟩,fun h=>by rw[hl] at h;exact Xg h⟩;obtain⟨rfl,rfl⟩:=y;rw[hl] at h;refine⟨.int (i:Nat),F',by simp[rangeD,h],R,Same.refl _,?_⟩;rw[Int.zero_add];exact cv _
theorem tV (hg:Gl X "range") (hm:X.mg "range"=none) (ha:ME X EX a m) (hs:starEach [a] X.env=[(false,eval a X.env)]:=by rfl):MI X EX tg (.Call (.Name "range" p) [a] [] pos) (mRange1 m):=by
 obtain⟨t,pt,st⟩:=ha;refine⟨_,E6 hg hm (g9 pt nk hs) hs,fun Z O F H σ ρ U Rr R g=>?_⟩;unfold mRange1 at g;refine st Z O F H σ ρ U _ R ?_;cases h1:m ρ U with
 |exc x U1=>rw[h1] at g;exact g
 |bad=>rw[h1] at g;exact g
 |ok d U1 =>
  rw[h1] at g;intro v O' F' H' R' e' p;cases d with
  |int j =>
   unfold aG at p;subst p;simp only[ae,gz] at g;by_cases hj:-(2 ^ 62)<=j/\j<2 ^ 62
   ·rw[VJ hj] at g;exact⟨j,rfl,hj.1,hj.2,g _ O' F' H' R' e' (zJ _)⟩
   ·rw[VN hj] at g;exact g.elim
  |_=>exact g.elim
def sM (d:D):Option (ZE):=match d with
 |.lst xs=>some xs
 |_=>none
def JK (d:D):Option (ZE):=match d with
 |.tup xs=>some xs
 |_=>none
def mOverL (m:MX):JX:=fun ρ U=>(m ρ U).bind fun d U1=>ofO U1 (sM d)
def Q7 (m:MX):JX:=fun ρ U=>(m ρ U).bind fun d U1=>ofO U1 (JK d)
theorem DC {K:Zl}{F:Hp}{O:Zr}{a:Addr}(hs:gR K F a vs) (hr:Reps K F O ds vs):WalkOk K O F (V0 K a) ds:=by
 intro Z O' F' H' U' R e i;have hl:=hr.length;have hq:gR K H' a vs:=(e.fr.trans R.sub).seq hs;refine⟨fun h=>?_,fun h=>⟨vs,hq,by omega⟩⟩;obtain⟨v,h1,h2⟩:=hr.get (VI h);refine⟨⟨vs,v,hq,h1⟩,fun x H2 y=>?_⟩;obtain⟨rfl,y⟩:=y;have hx:=y vs hq;rw[h1] at hx;cases hx;exact⟨_,F',VI h,R,Same.refl _,h2.mono e⟩
theorem LA (ha:ME X EX a m):MI X EX tg a (mOverL m):=by
 obtain⟨t,pt,st⟩:=ha;refine⟨_,KN pt,fun Z O F H σ ρ U Rr R g=>?_⟩;unfold mOverL at g;refine st Z O F H σ ρ U _ R ?_;cases h1:m ρ U with
 |exc x U1=>rw[h1] at g;exact g
 |bad=>rw[h1] at g;exact g
 |ok d U1 =>
  rw[h1] at g;intro v O' F' H' R' e' p;cases d with
  |lst ds =>
   unfold aG at p;obtain⟨b,vs,rfl,hs,hr⟩:=p;exact⟨b,rfl,⟨vs,R'.sub.seq hs⟩,g _ O' F' H' R' e' (DC hs hr)⟩
  |_=>exact g.elim
end
def fin (r:Res Out):Res D:=r.bind fun o U1=>match o with
 |.rt d=>.ok d U1
 |.nx _=>.ok .non U1
 |_=>.bad
def fnOf (k:Nat) (n:bD):Fn:=fun ds U=>fin (n (ds.map some++List.replicate k none) U)
section
variable {P:Program}{w:World}{K:Zl}{mg:Zn}{base:Heap}
theorem xA (N:Zv) (k:Nat) (hk:N.length-vs.length=k) (R:RH K Z O F H U) (r:Reps K F O ds vs):RS K Z O F H (start N vs) (ds.map some++List.replicate k none) U:=by
 have hl:=r.length;refine⟨R,by simp[L2.start,hl,hk],fun i d h=>?_⟩;by_cases hi:i<ds.length
 ·rw[Wv (by simpa using hi),Wk] at h;cases e:ds[i]? with
  |none=>rw[e] at h;cases h
  |some d' =>
   rw[e] at h;cases h;obtain⟨v,h1,h2⟩:=r.get e;refine⟨v,?_,h2⟩;unfold L2.start;rw[Wv (by rw[VS];omega),Wk,h1];rfl
 ·rw[VQ (by simp;omega)] at h;have:=Xb (a:=(none:ZF)) (n:=k) (i:=i-(ds.map some).length);rw[this] at h;split at h<;>cases h
theorem NK {x qual:Str}{st:Stmt}{f:Addr}{fd:FuncData}(F:wS K x qual st f fd) (S:cX N ps (af st)) (hj:N.length-ps.length=j)
  (hb:∀(cdv:Value) (A:Around) (outer:Zy) (s:Shared) (H:Hp) (E:XK),aQ k (A.deeper (envOfC qual (af st) s.heap.objs.size f cdv)) ->
   MSs (fP mZ P w K mg base N qual (af st) f cdv A outer s H E).nox Ds (bU st) n):ei P w K mg base mZ (k+1) f fd ps (Ag K ps.length (fnOf j n)):=by
 refine F.ok S (fun vs H Q E h=>?_) (fun cdv A outer s H vs Q E hr h=>?_)
 ·obtain⟨Z,O,G,ds,U,R,r,hl,_⟩:=h;rw[←hl,r.length]
 ·obtain⟨Z,O,G,ds,U,R,r,hl,g⟩:=h;obtain⟨t,p,s'⟩:=hb cdv A outer s H E hr;refine⟨t,p,s' Z O G H (start N vs) (ds.map some++List.replicate j none) U _ (xA N j (by rw[←r.length,hl];exact hj) R r) ?_⟩;unfold fnOf fin at g;cases e:n (ds.map some++List.replicate j none) U with
  |exc x U1=>rw[e] at g;exact g
  |bad=>rw[e] at g;exact g
  |ok o U1 =>
   rw[e] at g;cases o with
   |rt d=>exact g
   |nx ρ=>exact fun σ' O' F' H' R' e'=>g .non O' F' H' R'.hp e' uQ
   |bk ρ=>exact g.elim
   |ct ρ=>exact g.elim
structure Ct (X:Cx) (N G:Zv):Prop where
 hN:X.N=N
 nd:N.Nodup
 loc:∀x∈N,zD X.env.scope x/\(x==("__debug__":Str))=false/\(x==("__classdict__":Str))=false
 gl:∀x∈G,Gl X x
 fn:∀x,X.fn x=true
 calm:X.calm=true
 un:X.A.units+200<cLine
theorem Ct.ndX (C:Ct X N G):X.N.Nodup:=by rw[C.hN];exact C.nd
theorem Ct.at (C:Ct X N G) {i:Nat}{x:Str}(h:N[i]? =some x):X.N[i]? =some x:=by rw[C.hN];exact h
theorem cU {N:Zv}{i:Nat}(h:N[i]? =some x):x∈N:=WF h
theorem zD.vis (h:zD sc x):MH sc x:=h.elim .inl fun z=>.inr (.inl z)
theorem sv (C:Ct X N G) (i:Nat) (h:N[i]? =some x):ME X EX (.Name x pos) (a4 i) :=
 AR (C.at h) (zD.vis (C.loc x (cU h)).1) (C.loc x (cU h)).2.1 (C.loc x (cU h)).2.2
theorem sa (C:Ct X N G) (i:Nat) (h:N[i]? =some x) (he:ME X EX e m) (hs:swapsWith e (some (.Name x pos')) pos.line X.env=pure false:=by rfl) (hk:X.kn=none:=by rfl) :
  MS X EX (.Assign [.Name x pos'] e pos) (mSet i m):=I9 ⟨C.ndX,hk⟩ (C.at h) (C.loc x (cU h)).1 (.inl (C.fn x)) he hs
theorem st (C:Ct X N G) (i:Nat) (h:N[i]? =some x) (hk:X.kn=none:=by rfl):MTg X (.Name x pos) (gN i):=Cg ⟨C.ndX,hk⟩ (C.at h) (C.loc x (cU h)).1 (.inl (C.fn x))
theorem Ct.g (C:Ct X N G) (j:Nat) (h:G[j]? =some x):Gl X x:=C.gl x (cU h)
theorem Jt (nd:N.Nodup)
  (loc:∀x∈N,zD sc x/\(x==("__debug__":Str))=false/\(x==("__classdict__":Str))=false) (gl:∀x∈G,sc.names.lookup x=some .globalImplicit) (hr:aQ k (A.deeper (envOfC qual sc s.heap.objs.size f cdv))) :
  Ct (fP CX P w K mg base N qual sc f cdv A outer s H E).nox N G :=
 ⟨rfl,nd,loc,gl,fun _=>rfl,rfl,by have:=hr.un;show(A.deeper _).units+200<cLine;omega⟩
end
def mNeg (m:MX):MX:=fun ρ U=>(m ρ U).bind fun d U1=>ofO U1 (match d with
 |.int i=>some (.int (-i))
 | _=>none)
theorem Q2 (h:ME X EX e m):ME X EX (.UnaryOp .USub e pos) (mNeg m):=by
 obtain⟨t,p,s⟩:=h;refine⟨_,S8 Oj p,fun Z O F H σ ρ U Q R g=>?_⟩;refine s Z O F H σ ρ U _ R (GE.step (G:=GE X.K EX Z O F Q) g (fun _ _ h=>h) (fun h=>h) fun d U1 v O1 F1 H1 R1 e1 p1 g1=>?_);cases d with
 |int i=>unfold aG at p1;exact⟨i,p1,g1 _ O1 F1 H1 R1 e1 (cv _)⟩
 |_=>exact g1.elim
theorem Fu:bootBuiltins "bool"=some (.type "bool"):=by decide +kernel
theorem JB:bootBuiltins "str"=some (.type "str"):=by decide +kernel
theorem uz:bootBuiltins "list"=some (.type "list"):=by decide +kernel
theorem sH:bootBuiltins "tuple"=some (.type "tuple"):=by decide +kernel
def cI (K:Zl) (mg:Zn) (x:Str) (d:D):Prop:=∃v u,mg x=some u/\aV v u/\∀F O,aG K F O d v
theorem cK (c:cI X.K X.mg x d) (hg:Gl X x) (hd:(x==("__debug__":Str))=false:=by decide):ME X EX (.Name x pos) (mC d):=by
 obtain⟨v,u,h1,h2,h3⟩:=c;exact Ir (BU hg h1 h2 hd) h3
def fY (fd:FuncData) (ps:Zv):Prop:=∀us:Zt,us.length=ps.length->bindArgs fd ⟨us,[]⟩=pure (ps.zip us)
def aR (K:Zl) (mg:Zn) (x:Str) (st:Stmt) (ps:Zv):Prop:=∃f fd,mg x=some (.ref f)/\wS K x x st f fd/\fY fd ps
def bS (P:Program) (w:World) (K:Zl) (mg:Zn) (base:Heap) (x:Str) (k n:Nat) (φ:Fn):Prop :=
 ∃f fd ps,mg x=some (.ref f)/\PySem.W.keepIn K (.ref f)=true/\fY fd ps/\ps.length=n/\ei P w K mg base mZ k f fd ps (Ag K n φ)
theorem CN {P:Program}{w:World}{K:Zl}{st:Stmt}{N ps:Zv}{k j n:Nat}{b:bD}{f:Addr}{fd:FuncData}(F:wS K x x st f fd) (S:cX N ps (af st)) (hj:N.length-ps.length=j) (hn:ps.length=n)
  (hb:∀(cdv:Value) (A:Around) (outer:Zy) (s:Shared) (H:Hp) (E:XK),aQ k (A.deeper (envOfC x (af st) s.heap.objs.size f cdv)) ->
   MSs (fP mZ P w K mg base N x (af st) f cdv A outer s H E).nox Ds (bU st) b):ei P w K mg base mZ (k+1) f fd ps (Ag K n (fnOf j b)):=by
 subst hn;exact NK F S hj hb
theorem Mb {P:Program}{w:World}{K:Zl}{st:Stmt}{ps:Zv}{k n:Nat}{φ:Fn}(D:aR K mg x st ps) (hn:ps.length=n)
  (hb:∀(f:Addr) (fd:FuncData),wS K x x st f fd->ei P w K mg base mZ k f fd ps (Ag K n φ)):bS P w K mg base x k n φ:=by
 obtain⟨f,fd,h1,h2,h3⟩:=D;exact⟨f,fd,ps,h1,h2.kp,h3,hn,hb f fd h2⟩
theorem Qz {K:Zl}{mg:Zn}{h:Heap}{x:Str}{st:Stmt}{ps:Zv}{osl:Zp}{kV doc pm cdv ct:Value}(X:K.In h) (G:h.Ns mainGlobals mg)
  (a:PySem.W.nsIn K mainGlobals x=some (some (.ref f))) (l:K.lookup f=some ⟨oc,od,.func (PySem.W.fnOf x x (fb st) (bU st) (af st) .none kV doc pm an cdv ct),osl⟩)
  (c:PySem.W.codeIn K cdv x=true) (k:PySem.W.keepIn K (.ref f)=true) (hb:fY (PySem.W.fnOf x x (fb st) (bU st) (af st) .none kV doc pm an cdv ct) ps):aR K mg x st ps :=
 ⟨f,_,WQ X G a,B6 (st:=st) l c k,hb⟩
theorem iR {K:Zl}{mg:Zn}{h:Heap}(X:K.In h) (G:h.Ns mainGlobals mg) (a:PySem.W.nsIn K mainGlobals x=some (some (.int i t))):cI K mg x (.int i) :=
 ⟨.int i,_,WQ X G a,⟨t,rfl⟩,fun _ _=>cv i⟩
theorem eL {K:Zl}{mg:Zn}{h:Heap}{x:Str}{p:Addr}{od:Zw}(X:K.In h) (G:h.Ns mainGlobals mg)
  (a:PySem.W.nsIn K mainGlobals x=some (some (.ref p))) (l:K.lookup p=some ⟨.type "tuple",od,.seq its n,sl⟩) (hz:its.size<=16777216) (hv:aW vs its.toList) (hr:∀F O,Reps K F O ds vs):cI K mg x (.tup ds) :=
 ⟨.ref p,_,WQ X G a,rfl,fun F O=>by unfold aG;exact⟨p,vs,rfl,.inr ⟨_,its,n,l,rfl,rfl,by rw[Wb];exact hz,hv⟩,hr F O⟩⟩
theorem tF {K:Zl}{F:Hp} :∀ns:ZC,Reps K F O (ns.map D.int) (ns.map V.int)
 |[]=>ax
 |n::ns=>aa (cv n) (tF ns)
theorem b4 (F:bS X.prog X.w X.K X.mg X.base x k n φ) (hr:aQ k X.A) (hg:Gl X x)
  (ha:MA X EX (e::es) ms) (hl:(e::es).length=n) (hdb:(x==("__debug__":Str))=false:=by decide) (he:starEach (e::es) X.env=(false,eval e X.env)::starEach es X.env:=by rfl) (hpl:(backTo pos (starEach es X.env)).any (·.1)=false:=by rfl) :
  ME X EX (.Call (.Name x p) (e::es) [] pos) (mCall φ ms):=by
 obtain⟨f,fd,ps,h1,h2,h3,h4,h5⟩:=F;subst h4;exact LL h5 hr hg h1 h2 (.all h3) ha hl hdb he hpl
theorem Kk5 (F:bS X.prog X.w X.K X.mg X.base x k n φ) {k0} (hr:aQ k0 X.A) (hk:k≤k0:=by decide) (hg:Gl X x:=by walk_at "g") (ha:MA X EX (e::es) ms:=by walk_at "e") (hl:(e::es).length=n:=by rfl) (hdb:(x==("__debug__":Str))=false:=by decide) (he:starEach (e::es) X.env=(false,eval e X.env)::starEach es X.env:=by rfl) (hpl:(backTo pos (starEach es X.env)).any (·.1)=false:=by rfl):ME X EX (.Call (.Name x p) (e::es) [] pos) (mCall φ ms):=b4 F (aQ.mono hr hk) hg ha hl hdb he hpl
theorem Q5 (F:bS X.prog X.w X.K X.mg X.base x k 0 φ) (hr:aQ k X.A) (hg:Gl X x) (hdb:(x==("__debug__":Str))=false:=by decide):ME X EX (.Call (.Name x p) [] [] pos) (mCall φ mNil):=by
 obtain⟨f,fd,ps,h1,h2,h3,h4,h5⟩:=F;obtain rfl:ps=[]:=List.length_eq_zero_iff.mp h4;exact Iq h5 hr hg h1 h2 (.all h3) hdb
def IA (sc:Scope) (N:Zv):Bool:=N.all fun x=>(sc.names.lookup x==some .local||sc.names.lookup x==some .cell)&&!(x==("__debug__":Str))&&!(x==("__classdict__":Str))
def Ra (sc:Scope) (N:Zv):Bool:=N.all fun x=>sc.names.lookup x==some .globalImplicit
theorem qX (h:IA sc N=true):∀x∈N,zD sc x/\(x==("__debug__":Str))=false/\(x==("__classdict__":Str))=false:=fun x hx=>by
 have:=List.all_eq_true.mp h x hx;simp only[W0,Bool.or_eq_true,Xz,Xw] at this;exact⟨this.1.1,this.1.2,this.2⟩
theorem yL (h:Ra sc N=true):∀x∈N,sc.names.lookup x=some .globalImplicit:=fun x hx=>by
 have:=List.all_eq_true.mp h x hx;simpa using this
section
variable (ρ:En) (U:Mu) (m ma mb mc:MX) (ms:l7) (t t1 t2:MB) (n n1 n2:bD) (x y d:D) (ds:ZE) (g g':G2) (gl:GL) (b:Bool) (φ:Fn) (i:Nat) (tg:MG) (it:JX)
def NB (g:G2) (mb:MX) (ρ:En) (x:D) (U:Mu):Res D:=(mb ρ U).bind fun y U2=>ofO U2 (g (ai U2 x) (ai U2 y))
def Cu (g:G2) (x y:D) (U:Mu):Res D:=ofO U (g (ai U x) (ai U y))
theorem z9:a6 g ma mb ρ U=(ma ρ U).bind (NB g mb ρ):=rfl
theorem sx:NB g mb ρ x U=(mb ρ U).bind (Cu g x):=rfl
theorem sw:Cu g x y U=ofO U (g (ai U x) (ai U y)):=rfl
theorem sj (o:D) (r:En):a4 0 (some o::r) U=.ok o U:=rfl
theorem sd (o:ZF) (r:En) (i:Nat):a4 (i+1) (o::r) U=a4 i r U:=rfl
theorem Tc:mC d ρ U=.ok d U:=rfl
def Nv (d:D) (U:Mu):Res Bool:=ofO U (Rb d)
theorem vV:a9 m ρ U=(m ρ U).bind Nv:=rfl
theorem pG:Nv (.bl b) U=.ok b U:=rfl
def SY (g g':G2) (mb mc:MX) (ρ:En) (x:D) (U1:Mu):Res D:=(mb ρ U1).bind fun y U2=>(ofO U2 ((g (ai U2 x) (ai U2 y)).bind Rb)).bind fun k U3=>match k with
 |true=>(mc ρ U3).bind fun z U4=>ofO U4 (g' (ai U4 y) (ai U4 z))
 |false=>.ok (.bl false) U3
def SX (g g':G2) (mc:MX) (ρ:En) (x y:D) (U2:Mu):Res D:=(ofO U2 ((g (ai U2 x) (ai U2 y)).bind Rb)).bind fun k U3=>match k with
 |true=>(mc ρ U3).bind fun z U4=>ofO U4 (g' (ai U4 y) (ai U4 z))
 |false=>.ok (.bl false) U3
def Qi (g':G2) (mc:MX) (ρ:En) (y:D) (k:Bool) (U3:Mu):Res D:=match k with
 |true=>(mc ρ U3).bind fun z U4=>ofO U4 (g' (ai U4 y) (ai U4 z))
 |false=>.ok (.bl false) U3
theorem Ba:mChain g g' ma mb mc ρ U=(ma ρ U).bind (SY g g' mb mc ρ):=rfl
theorem ur:SY g g' mb mc ρ x U=(mb ρ U).bind (SX g g' mc ρ x):=rfl
theorem uq:SX g g' mc ρ x y U=(ofO U ((g (ai U x) (ai U y)).bind Rb)).bind (Qi g' mc ρ y):=rfl
theorem Jo:Qi g' mc ρ y true U=(mc ρ U).bind (Cu g' y):=rfl
theorem D8:Qi g' mc ρ y b U=if b=true then(mc ρ U).bind (Cu g' y) else .ok (.bl false) U:=by cases b<;>rfl
def SS (d:D) (U:Mu):Res D:=.ok (.bl (IW d)) U
def Ny (d:D) (U:Mu):Res D:=.ok (.bl (!IW d)) U
theorem D6:mIsN m ρ U=(m ρ U).bind SS:=rfl
theorem vZ:mNotN m ρ U=(m ρ U).bind Ny:=rfl
theorem wf:SS d U=.ok (.bl (IW d)) U:=rfl
theorem pL:Ny d U=.ok (.bl (!IW d)) U:=rfl
def SI (d:D) (U:Mu):Res Bool:=ofO U (nh (ai U d))
theorem CU:mTru m ρ U=(m ρ U).bind SI:=rfl
theorem w8:SI d U=ofO U (nh (ai U d)):=rfl
def SZ (n:MB) (ρ:En) (k:Bool) (U1:Mu):Res Bool:=match k with
 |true=>n ρ U1
 |false=>.ok false U1
def Va (n:MB) (ρ:En) (k:Bool) (U1:Mu):Res Bool:=match k with
 |true=>.ok true U1
 |false=>n ρ U1
def SM (k:Bool) (U1:Mu):Res Bool:=.ok (!k) U1
theorem D9:mAnd t1 t2 ρ U=(t1 ρ U).bind (SZ t2 ρ):=rfl
theorem Mh:mOr t1 t2 ρ U=(t1 ρ U).bind (Va t2 ρ):=rfl
theorem CY:mNot t ρ U=(t ρ U).bind SM:=rfl
theorem wl:SZ t ρ b U=if b=true then t ρ U else .ok false U:=by cases b<;>rfl
theorem D3:Va t ρ b U=if b=true then .ok true U else t ρ U:=by cases b<;>rfl
theorem wb:SM b U=.ok (!b) U:=rfl
def NC (mb:MX) (ρ:En) (x:D) (U1:Mu):Res D:=match x with
 |.bl true=>mb ρ U1
 |.bl false=>.ok (.bl false) U1
 |_=>.bad
def SL (mb:MX) (ρ:En) (x:D) (U1:Mu):Res D:=match x with
 |.bl true=>.ok (.bl true) U1
 |.bl false=>mb ρ U1
 |_=>.bad
def Nx (x:D) (U1:Mu):Res D:=match x with
 |.bl k=>.ok (.bl (!k)) U1
 |_=>.bad
theorem wo:mAndV ma mb ρ U=(ma ρ U).bind (NC mb ρ):=rfl
theorem CW:mOrV ma mb ρ U=(ma ρ U).bind (SL mb ρ):=rfl
theorem vY:mNotV ma ρ U=(ma ρ U).bind Nx:=rfl
theorem pQ:NC mb ρ (.bl b) U=if b=true then mb ρ U else .ok (.bl false) U:=by cases b<;>rfl
theorem wa:SL mb ρ (.bl b) U=if b=true then .ok (.bl true) U else mb ρ U:=by cases b<;>rfl
theorem pK:Nx (.bl b) U=.ok (.bl (!b)) U:=rfl
def Vb (ma mb:MX) (ρ:En) (k:Bool) (U1:Mu):Res D:=match k with
 |true=>ma ρ U1
 |false=>mb ρ U1
theorem Mi:mIf t ma mb ρ U=(t ρ U).bind (Vb ma mb ρ):=rfl
theorem D4:Vb ma mb ρ b U=if b=true then ma ρ U else mb ρ U:=by cases b<;>rfl
def IT (ms:l7) (ρ:En) (d:D) (U1:Mu):Res (ZE):=(ms ρ U1).bind fun ds U2=>.ok (d::ds) U2
def IS (d:D) (ds:ZE) (U2:Mu):Res (ZE):=.ok (d::ds) U2
theorem yY:mNil ρ U=.ok [] U:=rfl
theorem o8:a5 m ms ρ U=(m ρ U).bind (IT ms ρ):=rfl
theorem kH:IT ms ρ d U=(ms ρ U).bind (IS d):=rfl
theorem kG:IS d ds U=.ok (d::ds) U:=rfl
def SH (ds:ZE) (U1:Mu):Res D:=.ok (.tup ds) U1
def SQ (ds:ZE) (U1:Mu):Res D:=.ok (.lst ds) U1
def SW (ks:List DK) (ds:ZE) (U1:Mu):Res D:=.ok (.dic ks ds) U1
theorem yV:mTup ms ρ U=(ms ρ U).bind SH:=rfl
theorem D0:mLst ms ρ U=(ms ρ U).bind SQ:=rfl
theorem z0 (ks:List DK):mDic ks ms ρ U=(ms ρ U).bind (SW ks):=rfl
theorem sk:SH ds U=.ok (.tup ds) U:=rfl
theorem wd:SQ ds U=.ok (.lst ds) U:=rfl
theorem su (ks:List DK):SW ks ds U=.ok (.dic ks ds) U:=rfl
def IU (g:GL) (ds:ZE) (U1:Mu):Res D:=ofO U1 (g (ds.map (ai U1)))
theorem mK:mCallB gl ms ρ U=(ms ρ U).bind (IU gl):=rfl
theorem kh:IU gl ds U=ofO U (gl (ds.map (ai U))):=rfl
def SU (k:Ki) (d:D) (U1:Mu):Res D:=ofO U1 ((R9 k (ai U1 d)).map .bl)
theorem D7 (k:Ki):mIsI k m ρ U=(m ρ U).bind (SU k):=rfl
theorem wg (k:Ki):SU k d U=ofO U ((R9 k (ai U d)).map .bl):=rfl
def NA (φ:Fn) (ds:ZE) (U1:Mu):Res D:=noX (φ ds U1)
theorem wn:mCall φ ms ρ U=(ms ρ U).bind (NA φ):=rfl
theorem pP:NA φ ds U=noX (φ ds U):=rfl
def SO (d:D) (U1:Mu):Res D:=ofO U1 (match d with
 |.int i=>some (.int (-i))
 | _=>none)
theorem CZ:mNeg m ρ U=(m ρ U).bind SO:=rfl
theorem wc (i:Int):SO (.int i) U=.ok (.int (-i)) U:=rfl
theorem vW:mSkip ρ U=.ok (.nx ρ) U:=rfl
def IN (n2:bD) (o:Out) (U1:Mu):Res Out:=match o with
 |.nx ρ1=>n2 ρ1 U1
 |o=>.ok o U1
theorem yX:ag n1 n2 ρ U=(n1 ρ U).bind (IN n2):=rfl
theorem mH:IN n (.nx ρ) U=n ρ U:=rfl
theorem pH:IN n (.rt d) U=.ok (.rt d) U:=rfl
theorem pJ:IN n (.bk ρ) U=.ok (.bk ρ) U:=rfl
theorem pI:IN n (.ct ρ) U=.ok (.ct ρ) U:=rfl
def SK (d:D) (U1:Mu):Res Out:=.ok (.rt d) U1
theorem CV:av m ρ U=(m ρ U).bind SK:=rfl
theorem w9:SK d U=.ok (.rt d) U:=rfl
theorem vX:Sy ρ U=.ok (.rt .non) U:=rfl
def Nz (ρ:En) (d:D) (U1:Mu):Res Out:=.ok (.nx ρ) U1
theorem wm:mDrop m ρ U=(m ρ U).bind (Nz ρ):=rfl
theorem pO:Nz ρ d U=.ok (.nx ρ) U:=rfl
def SJ (i:Nat) (ρ:En) (d:D) (U1:Mu):Res Out:=.ok (.nx (ρ.set i (some d))) U1
theorem yW:mSet i m ρ U=(m ρ U).bind (SJ i ρ):=rfl
theorem sq:SJ i ρ d U=.ok (.nx (ρ.set i (some d))) U:=rfl
def SR (n1 n2:bD) (ρ:En) (k:Bool) (U1:Mu):Res Out:=match k with
 |true=>n1 ρ U1
 |false=>n2 ρ U1
theorem D5:mIte t n1 n2 ρ U=(t ρ U).bind (SR n1 n2 ρ):=rfl
theorem we:SR n1 n2 ρ b U=if b=true then n1 ρ U else n2 ρ U:=by cases b<;>rfl
def SV (tg:MG) (n:bD) (ρ:En) (ds:ZE) (U1:Mu):Res Out:=forGo tg n ds ρ U1
theorem yZ:mFor tg it n ρ U=(it ρ U).bind (SV tg n ρ):=rfl
theorem wj:SV tg n ρ ds U=forGo tg n ds ρ U:=rfl
def Cs (d:D) (U1:Mu):Res (ZE):=ofO U1 (gz [d])
theorem kf:mRange1 m ρ U=(m ρ U).bind Cs:=rfl
theorem iN:Cs d U=ofO U (gz [d]):=rfl
def IQ (d:D) (U1:Mu):Res (ZE):=ofO U1 (sM d)
def IP (d:D) (U1:Mu):Res (ZE):=ofO U1 (JK d)
theorem mG:mOverL m ρ U=(m ρ U).bind IQ:=rfl
theorem pF:Q7 m ρ U=(m ρ U).bind IP:=rfl
theorem mJ:IQ (.lst ds) U=.ok ds U:=rfl
theorem mI:IP (.tup ds) U=.ok ds U:=rfl
def LW (o:Out) (U1:Mu):Res D:=match o with
 |.rt d=>.ok d U1
 |.nx _=>.ok .non U1
 |_=>.bad
theorem Tb (r:Res Out):fin r=r.bind LW:=by cases r with
 |ok o U=>cases o<;>rfl
 |exc _ _=>rfl
 |bad=>rfl
theorem pM:LW (.rt d) U=.ok d U:=rfl
theorem pN:LW (.nx ρ) U=.ok .non U:=rfl
theorem lC (k:Nat):fnOf k n ds U=(n (ds.map some++List.replicate k none) U).bind LW:=Tb _
def Nt (tg:MG) (n:bD) (ds:ZE) (o:Out) (U1:Mu):Res Out:=match o with
 |.nx ρ2=>forGo tg n ds ρ2 U1
 |.ct ρ2=>forGo tg n ds ρ2 U1
 |.bk ρ2=>.ok (.nx ρ2) U1
 |.rt d=>.ok (.rt d) U1
theorem gB (i:Nat):forGo (gN i) n (d::ds) ρ U=(n (ρ.set i (some d)) U).bind (Nt (gN i) n ds):=by
 simp only[forGo,gN];cases n (ρ.set i (some d)) U with
 |ok o U=>cases o<;>rfl
 |exc _ _=>rfl
 |bad=>rfl
theorem vU:Nt tg n ds (.nx ρ) U=forGo tg n ds ρ U:=rfl
end
section
variable (i j:Int) (a b:Zu) (xs ys:ZE) (k l:Bool)
theorem yN:bi (.int i) (.int j)=some (.int (i+j)):=rfl
theorem CH:dn (.int i) (.int j)=some (.int (i-j)):=rfl
theorem dc (h:-18446744073709551616<i) (h2:i<18446744073709551616):eM (.int i) (.int j)=some (.int (i*j)):=by
 simp only[eM,iq];rw[VJ (.inl ⟨h,h2⟩)];rfl
theorem ka (h:-18446744073709551616<j) (h2:j<18446744073709551616):eM (.int i) (.int j)=some (.int (i*j)):=by
 simp only[eM,iq];rw[VJ (.inr ⟨h,h2⟩)];rfl
theorem gK (h:0<j) (h2:j<18446744073709551616):dq (.int i) (.int j)=some (.int (i / j)):=by
 simp only[dq,iq];rw[VJ ⟨h,h2⟩];rfl
theorem cS (h:0<j):bL (.int i) (.int j)=some (.int (i % j)):=by
 simp only[bL,iq];rw[VJ h];rfl
theorem CK:EW (.int i) (.int j)=some (.int (Builtin.bitAnd i j)):=rfl
theorem M7:M9 (.int i) (.int j)=some (.int (Builtin.bitOr i j)):=rfl
theorem CG:M8 (.int i) (.int j)=some (.int (Builtin.bitXor i j)):=rfl
theorem NF (h:0<=j) (h1:j<=1000000) (h2:i.natAbs<18446744073709551616):Ja (.int i) (.int j)=some (.int (i*2 ^ j.toNat)):=by
 simp only[Ja,iq];rw[VJ ⟨h,h1,h2⟩];rfl
theorem NE (h:0<=j):J9 (.int i) (.int j)=some (.int (i / 2 ^ j.toNat)):=by
 simp only[J9,iq];rw[VJ h];rfl
theorem J6:t6 (.int i) (.int j)=some (.bl (decide (i<j))):=rfl
theorem B3:EV (.int i) (.int j)=some (.bl (decide (i<=j))):=rfl
theorem EU:yP (.int i) (.int j)=some (.bl (decide (j<i))):=rfl
theorem vN:t7 (.int i) (.int j)=some (.bl (decide (j<=i))):=rfl
theorem rP:bB (.int i) (.int j)=some (.bl (i==j)):=by
 unfold bB;rw[VJ (by rfl)];simp[eqD]
theorem rM:kQ (.int i) (.int j)=some (.bl (!(i==j))):=by
 unfold kQ;rw[VJ (by rfl)];simp[eqD]
theorem CJ:bB (.bl k) (.bl l)=some (.bl (k==l)):=by
 unfold bB;rw[VJ (by rfl)];simp[eqD]
def sO (a:Zu):Bool:=a.all (· < 0x110000)
theorem NH (ha:sO a=true) (hb:sO b=true):bB (.str a) (.str b)=some (.bl (a==b)):=by
 unfold sO at ha hb;unfold bB iS;simp only[au,kl,ha,hb];simp[eqD]
theorem NG (ha:sO a=true) (hb:sO b=true):kQ (.str a) (.str b)=some (.bl (!(a==b))):=by
 unfold sO at ha hb;unfold kQ iS;simp only[au,kl,ha,hb];simp[eqD]
theorem vM:gIdx (.lst xs) (.int i)=atI xs i:=rfl
theorem rO:gIdx (.tup xs) (.int i)=atI xs i:=rfl
theorem vK:bM [.lst xs]=some (.int xs.length):=rfl
theorem vJ:bM [.tup xs]=some (.int xs.length):=rfl
theorem ui:t5 [.int i,.int j]=some (.int (if j>i then j else i)):=rfl
theorem CI:B4 [.int i,.int j]=some (.int (if j<i then j else i)):=rfl
theorem rN:kc [.bl k]=some (.int (if k then 1 else 0)):=rfl
theorem vL:kc [.int i]=some (.int i):=rfl
theorem jb {β:Type}{xs:List β}{i:Int}(h0:0<=i):atI xs i=xs[i.toNat]?:=by
 unfold atI FF;rw[VJ h0];by_cases h:i<xs.length
 ·rw[VJ h];rfl
 ·rw[VN h];simp only[Option.bind_none]
  symm
  rw[List.getElem?_eq_none_iff];omega
theorem oM (n:Nat) (h:n<4611686018427387904):gz [.int (n:Nat)]=some (rangeD n):=by
 simp only[gz];have h1:(-(2 ^ 62):Int)= -4611686018427387904:=by decide
 have h2:(2 ^ 62:Int)=4611686018427387904:=by decide
 rw[h2,VJ (by constructor<;>omega),X5]
end
def oH (env:Env):List (Str×NameKind)->List (Str×Addr)->List (Str×Addr)
 |[],acc=>acc
 |p::r,acc=>oH env r (if(p.2==.free)=true then(p.1,(env.cells.lookup p.1).getD 0)::acc else acc)
theorem sC (h:∀p∈scope.names,p.2=.free->∃c,env.cells.lookup p.1=some c):closureFor scope env=pure (oH env scope.names []):=by
 simp only[closureFor];generalize ([]:List (Str×Addr))=acc;generalize scope.names=l at h
 induction l generalizing acc with
 |nil=>rfl
 |cons p r ih =>
  obtain⟨n,k⟩:=p;rw[Yu];by_cases hk:(k==NameKind.free)=true
  ·obtain⟨c,hc⟩:=h (n,k) Wg (by simpa using hk);have hc':cellOf env n=pure c:=by unfold cellOf;rw[hc]
   simp only[hk,Xt,hc',pure_bind,oH];rw[hc];exact ih _ (fun p hp=>h p (W6 _ hp))
  ·simp only[hk,XO,pure_bind,oH];exact ih _ (fun p hp=>h p (W6 _ hp))
theorem uw :∀(l:List (Str×NameKind)) (acc:List (Str×Addr)),(∀p∈l,p.2=.free->∃c,env.cells.lookup p.1=some c)->(∀p∈acc,env.cells.lookup p.1=some p.2)->∀p∈oH env l acc,env.cells.lookup p.1=some p.2
 |[],_,_,ha=>ha
 |q::r,acc,h,ha=>by
  refine uw r _ (fun p hp=>h p (W6 _ hp)) ?_;by_cases hk:(q.2==NameKind.free)=true
  ·rw[VJ hk];intro p hp;rcases List.mem_cons.mp hp with rfl|hp
   ·obtain⟨c,hc⟩:=h q Wg (by simpa using hk);simp[hc]
   ·exact ha p hp
  ·rw[VN hk];exact ha
theorem j3 {l:List (Str×β)}{x:Str}{c:β}(h:l.lookup x=some c):(x,c)∈l:=by
 induction l with
 |nil=>cases h
 |cons p r ih =>
  obtain⟨n,k⟩:=p;rw[Wc] at h;by_cases e:x=n
  ·subst e;simp at h;subst h;exact Wg
  ·have e':(x==n)=false:=by simpa using e
   rw[e'] at h;exact W6 _ (ih h)
theorem AQ {l:List (Str×β)}{x:Str}{c:β}(h:(x,c)∈l):∃c',l.lookup x=some c':=by
 induction l with
 |nil=>cases h
 |cons p r ih =>
  obtain⟨n,k⟩:=p;rw[Wc];by_cases e:x=n
  ·subst e;exact⟨k,by simp⟩
  ·rcases List.mem_cons.mp h with h|h
   ·cases h;exact absurd rfl e
   ·obtain⟨c',hc⟩:=ih h;have e':(x==n)=false:=by simpa using e
    exact⟨c',by rw[e'];exact hc⟩
theorem uy :∀(l:List (Str×NameKind)) (acc:List (Str×Addr)) (p:Str×Addr),p∈acc->p∈oH env l acc
 |[],_,_,h=>h
 |q::r,acc,p,h=>by
  refine uy r _ p ?_;split
  ·exact W6 _ h
  ·exact h
theorem o9 {env:Env}:∀(l:List (Str×NameKind)) (acc:List (Str×Addr)) (x:Str),(x,NameKind.free)∈l->∃c,(oH env l acc).lookup x=some c
 |[],_,_,h=>nomatch h
 |q::r,acc,x,h=>by
  rcases List.mem_cons.mp h with rfl|h
  ·exact AQ (uy r _ (x,(env.cells.lookup x).getD 0) (by simp))
  ·exact o9 r _ x h
structure cQ (scope:Scope) (env:Env):Prop where
 kind:scope.kind=.function
 nocell:∀y∈scope.names,y.2≠.cell
 loc:∀y∈scope.names,y.2=.local->scope.names.lookup y.1=some .local
 cap:∀y∈scope.names,y.2=.free->env.kindOf y.1=some .cell\/env.kindOf y.1=some .free
abbrev sE (scope:Scope) (env:Env):List (Str×Addr):=oH env scope.names []
theorem uR (hn:∀y∈scope.names,y.2≠.cell) (h:(relabel scope env).names.lookup x=some .cell\/(relabel scope env).names.lookup x=some .free):(x,NameKind.free)∈scope.names:=by
 have:∃k,(x,k)∈(relabel scope env).names/\(k=.cell\/k=.free):=by
  rcases h with h|h
  ·exact⟨_,j3 h,.inl rfl⟩
  ·exact⟨_,j3 h,.inr rfl⟩
 obtain⟨k,hm,hk⟩:=this;unfold relabel at hm;obtain⟨⟨n,k'⟩,hq,e⟩:=List.mem_map.mp hm;simp only at e;split at e
 ·rename_i hc;simp only[W0,Xz] at hc;cases e;rw[hc.1.1] at hq;exact hq
 ·cases e;rcases hk with rfl|rfl
  ·exact absurd rfl (hn _ hq)
  ·exact hq
abbrev JW:Zm:=fun _ _=>False
theorem wy (I:Nat->Shared->Prop)
  (turn:∀n s,I n s->wpAny (model prog w) A (pyNext it) (fun r s₁=>match r with
   |none=>R (.ok .next) s₁
   | some v=>wpAny (model prog w) A (letOwnedTupleGo target it v) (fun _ s₁'=>wpAny (model prog w) A (assign target env v) (fun _ s₂ =>
     wpAny (model prog w) A (forIn ifs true fun c r=>if r=true then do let ok ←isTrue c env (eval c env);pure (ForInStep.yield ok) else pure (ForInStep.yield r)) (fun ok s₃ =>
      if ok=true then wpAny (model prog w) A (eval elt env) (fun x s₄ =>
       wpAny (model prog w) A (call (.builtin "list.append") [acc,x]) (fun _ s₅=>∃m,m<n/\I m s₅) JW s₄) JW s₃
      else ∃m,m<n/\I m s₃) JW s₂) JW s₁') JW s₁) JW s)
  (n:Nat) (h:I n s):codeAny (model prog w) A (.compLoop (.ListComp elt [⟨target,iter,ifs,0⟩] scope pos) 0 it acc env) R s:=by
 refine codeAny_loop rfl I (fun n s hI=>?_) n h;show wpAny _ A ((compTurn (.ListComp elt [⟨target,iter,ifs,0⟩] scope pos) 0 it acc env).onRaise (fun x=>do noteFrame x env;theTreesLotGoes x)) _ _ s;refine wpAny_noted ?_;rw[compTurn_list];refine VG (Yl (VG (Wj (turn n s hI) (fun r s₁ h₁=>?_) fun _ _ h'=>h'.elim)));cases r with
 |none=>exact VO h₁
 |some v =>
  refine VG (Wj h₁ (fun _ s₁' h₁'=>?_) fun _ _ h'=>h'.elim);refine VG (Wj h₁' (fun _ s₂ h₂=>VG (Wj h₂ (fun ok s₃ h₃=>?_) fun _ _ h'=>h'.elim)) fun _ _ h'=>h'.elim);cases ok with
  |false=>exact VO ⟨rfl,h₃⟩
  |true =>
   exact VG (VG (Wj h₃ (fun x s₄ h₄=>VG (Wj h₄ (fun _ s₅ h₅=>VO (VO ⟨rfl,h₅⟩)) fun _ _ h'=>h'.elim)) fun _ _ h'=>h'.elim))
def fV (X:Cx) (N':Zv) (scope:Scope) (C:Addr) (s:Shared) (H:Hp) (ex:Zr):Cx :=
 { X with N:=N',s₀:=s,H₀:=H,env:=compEnvC scope (sE scope X.env) C X.env,outer:=X.stack,ex:=ex,fn:=fun _=>false,pn:=[],xe:=JW,kn:=none}
section
variable {X:Cx}{EX:EXT}{pins:Zo}{σ:L2.St}{H:Hp}{s:Shared}{scope:Scope}{C:Addr}{ex:Zr}{N':Zv}
theorem cQ.had (cs:cQ scope X.env) (ok:X.Ok):∀p∈scope.names,p.2=.free->∃c,X.env.cells.lookup p.1=some c:=fun p hp hk=>ok.has p.1 (cs.cap p hp hk)
theorem gD (cs:cQ scope X.env) (ok:X.Ok) (h:(sE scope X.env).lookup x=some c):X.env.cells.lookup x=some c :=
 uw scope.names [] (cs.had ok) (fun _ z=>nomatch z) (x,c) (j3 h)
theorem Ff (I:Inv X pins σ H s) (cs:cQ scope X.env) (hC:s.heap.objs.size<=C) (hex:∀b∈ex,je X pins H b/\∃o,s.heap.get? b=some o):(fV X N' scope C s H ex).Ok:=by
 refine⟨I.ok.mod,cs.kind,I.ok.glob,I.ok.blt,hC,fun x y c h1 h2=>I.ok.inj x y c (gD cs I.ok h1) (gD cs I.ok h2),fun x h=>?_,fun x c h=>(by cases h),I.ok.hd,I.ok.frames,.inl rfl,fun b hb=>⟨?_,fun x c h=>?_⟩,I.bs,Wh I.ok.bsz I.sz,fun b o e hb=>?_,fun b hb hf=>?_,I.stack,I.stkFree⟩
 ·exact o9 scope.names [] x (uR cs.nocell h)
 ·obtain⟨o,e⟩:=(hex b hb).2;exact W3 (W4 (VM e) hC)
 ·exact(hex b hb).1.2.2.2.2.1 x c (gD cs I.ok h)
 ·rcases(hex b hb).1.2.2.2.1 with z|z
  ·exact I.ok.noex b o e z
  ·exact absurd (W4 (VM e) (Wh I.ok.bsz z)) (Xm _)
 ·rcases List.mem_cons.mp (I.stkSub b hf) with z|z
  ·exact(hex b hb).1.2.1 z
  ·exact(hex b hb).1.2.2.1 z
theorem m5 (h:scope.names.lookup x=some .free):(relabel scope env).names.lookup x=some .cell\/(relabel scope env).names.lookup x=some .free:=by
 unfold relabel;generalize scope.names=l at h;simp only
 induction l with
 |nil=>cases h
 |cons p r ih =>
  obtain⟨n,k⟩:=p;rw[Wc] at h;simp only[VW];by_cases e:(x==n)=true
  ·rw[e] at h;cases h;split
   ·left;rw[Wc,e]
   ·right;rw[Wc,e]
  ·have e':(x==n)=false:=by simpa using e
   rw[e'] at h;have:=ih h;split
   ·rw[Wc,e'];exact this
   ·rw[Wc,e'];exact this
structure Br (X:Cx) (scope:Scope) (T caps:Zv) (ix:Zu):Prop where
 len:ix.length=caps.length
 at':∀(j:Nat) (x:Str) (i:Nat),caps[j]? =some x->ix[j]? =some i->X.N[i]? =some x/\scope.names.lookup x=some .free
def K2 (k:Nat) (ix:Zu) (σ:List (Option β)):List (Option β):=List.replicate k none++ix.map fun i=>(σ[i]?).getD none
theorem Bb (I:Inv X pins σ H s) (cs:cQ scope X.env) (cp:Br X scope T caps ix) (hC:C=s.heap.objs.size) (hex:∀b∈ex,je X pins H b/\∃o,s.heap.get? b=some o)
  (hn:h'.Ns C fun _=>none) (hk:∀b o,s.heap.get? b=some o->h'.get? b=some o) :
  Inv (fV X (T++caps) scope C s H ex) [] (K2 T.length ix σ) H { s with heap:=h',toks:=tk}:=by
 have ok:=Ff (N':=T++caps) (C:=C) I cs (by rw[hC];exact VL _) hex;refine⟨ok,rfl,I.bare,Un.kept hk,⟨_,hn,fun i x v e1 e2 e3=>?_⟩,fun x c e=>?_,?_,fun x c e=>I.freeC x c (gD cs I.ok e),fun p hp=>(by simp[fV] at hp),I.hok.kept hk,by simp[K2,fV,cp.len],fun f e=>by cases(show(none:Option (Zn))=some f from e)⟩
 ·have e1:(T++caps)[i]? =some x:=e1;unfold K2 at e2;by_cases hi:i<T.length
  ·rw[Wv (by simpa using hi),Xb] at e2;split at e2<;>cases e2
  ·rw[VQ (by simp;omega)] at e2;rw[VQ (by omega)] at e1;simp only[Yb,Wk] at e2;cases q:ix[i-T.length]? with
   |none=>rw[q] at e2;cases e2
   |some j =>
    rw[q] at e2;obtain⟨hN,hl⟩:=cp.at' _ x j e1 q;have e2:(σ[j]?).getD none=some v:=by simpa using e2
    have hσ:σ[j]? =some (some v):=by
     cases z:σ[j]? with
     |none=>rw[z] at e2;cases e2
     |some o=>rw[z] at e2;simp at e2;rw[e2]
    have hm:(x,NameKind.free)∈scope.names:=j3 hl;have hkind:=cs.cap (x,.free) hm rfl;obtain⟨m,hns,hloc⟩:=I.loc;obtain⟨u,ru,look⟩:=hloc j x v hN hσ (hkind.elim (fun z=>.inr (.inl z)) fun z=>.inr (.inr z));refine⟨u,ru,.inr ⟨m5 hl,?_⟩⟩;rcases look with⟨z,_⟩|⟨_,c,hc,hcell⟩
    ·rcases hkind with y|y
     ·rw[z] at y;cases y
     ·rw[z] at y;cases y
    ·obtain⟨c',hc'⟩:=o9 (env:=X.env) scope.names [] x hm;have:=gD cs I.ok hc';rw[hc] at this;cases this;obtain⟨o,ho,hd⟩:=hcell;exact⟨c,hc',o,hk _ _ ho,hd⟩
 ·obtain⟨v,o,ho,hd⟩:=I.cell x c (gD cs I.ok e);exact⟨v,o,hk _ _ ho,hd⟩
 ·show H C=none;rw[hC];exact I.fresh
theorem Fe {s2 s3 s':Shared}{D:Addr}{o:HO}(I2:Inv X pins σ H1 s2) (hD:s2.heap.objs.size<=D) (h3:s3.os=s2.os) (hk:∀b u,s2.heap.get? b=some u->s3.heap.get? b=some u)
  (hex:∀b∈ex,je X pins H1 b) (I':Inv (fV X (T++caps) scope C s3 (b6 H1 D o) ex) [] σ' H' s'):Inv X pins σ H' s':=by
 have hos:s'.os=s2.os:=I'.os.trans h3;have u0:Un (oR X.stack) ex H1 (b6 H1 D o) s2.heap s3.heap:=Un.laid hk hD (I2.hok.fresh hD);have u:Un (oR X.stack) ex H1 H' s2.heap s'.heap:=u0.trans I'.base;exact I2.call' hos u I'.hok I'.bare fun b hb=>⟨(hex b hb).2.2.2.1,(hex b hb).2.1,(hex b hb).2.2.2.2.1,(hex b hb).2.2.2.2.2⟩
end
def aA (tg:MG) (t:MB) (m:MX):ZE->En->Mu->ZE->Res (ZE)
 |[],_,U,acc=>.ok acc U
 |d::ds,ρ,U,acc=>match tg d ρ with
  |none=>.bad
  |some ρ1=>(noX (t ρ1 U)).bind fun k U1=>if k=true then(noX (m ρ1 U1)).bind fun x U2=>aA tg t m ds ρ1 U2 (acc++[x]) else aA tg t m ds ρ1 U1 acc
def b7 (k:Nat) (ix:Zu) (tg:MG) (it:JX) (t:MB) (m:MX):MX:=fun ρ U=>(it ρ U).bind fun ds U1=>if ds.length<=16777216 then(aA tg t m ds (K2 k ix ρ) U1 []).bind fun xs U2=>.ok (.lst xs) U2 else .bad
def fh:MB:=fun _ U=>.ok true U
def ML (X:Cx) (ifs:Zx) (t:MB):Prop:=∀pins s Z O F H σ ρ U Q,Inv X pins σ H s->RS X.K Z O F H σ ρ U->GB X.K Ds Z O F Q (t ρ U) ->
 wpAny (model X.prog X.w) X.A (forIn ifs true fun c r=>if r=true then do let ok ←isTrue c X.env (eval c X.env);pure (ForInStep.yield ok) else pure (ForInStep.yield r)) (TP X pins σ Q) X.xe s
theorem d6 :ML X [] fh:=fun pins s Z O F H σ ρ U Q I R g=>wpAny_tests_nil ⟨H,I,g O F H R.hp (Ext.refl _ _)⟩
theorem Ie (h:MT X Ds c t):ML X [c] t:=by
 obtain⟨tt,pt,st⟩:=h;exact fun pins s Z O F H σ ρ U Q I R g=>wpAny_tests_one (pt pins s σ H Q I (st Z O F H σ ρ U Q R g))
theorem OO {K:Zl}{Z:ZS}{F H:Hp}{O:Zr}(k:Nat) (ix:Zu) (R:RS K Z O F H σ ρ U):RS K Z O F H (K2 k ix σ) (K2 k ix ρ) U:=by
 refine⟨R.hp,by simp[K2],fun i d h=>?_⟩;unfold K2 at h ⊢;by_cases hi:i<k
 ·rw[Wv (by simpa using hi),Xb] at h;split at h<;>cases h
 ·rw[VQ (by simp;omega)] at h ⊢;simp only[Yb,Wk] at h ⊢;cases q:ix[i-k]? with
  |none=>rw[q] at h;cases h
  |some j =>
   rw[q] at h;have e2:(ρ[j]?).getD none=some d:=by simpa using h
   have hρ:ρ[j]? =some (some d):=by
    cases z:ρ[j]? with
    |none=>rw[z] at e2;cases e2
    |some o=>rw[z] at e2;simp at e2;rw[e2]
   obtain⟨v,h1,h2⟩:=R.sl j d hρ;exact⟨v,by simp[h1],h2⟩
theorem RH.rehold {K:Zl}{Z:ZS}{F H:Hp}{O:Zr}(o':HO) (r:RH K (ZS.up Z p o) O F H U):RH K (ZS.up Z p o') O F (b6 H p o') U:=by
 have fp:F p=none:=r.zf p o dI;have nc:∀(k:Nat) (a:Addr) (c:Cell),O[k]? =some a->U[k]? =some c->c≠.dead->a≠p:=fun k a c ha hc hd z=>by
  have:=r.zc k a c ha hc hd;rw[z,dI] at this;cases this
 refine⟨fun b u e=>?_,r.len,fun k a c ha hc=>?_,fun b u e=>?_,fun b u e=>?_,fun k a c ha hc hd=>?_,r.dis,r.ext⟩
 ·rw[ak (az e fp)];exact r.sub b u e
 ·exact(r.cell k a c ha hc).go (Ext.refl _ _) (fun _=>rfl) fun hd=>ak (nc k a c ha hc hd)
 ·by_cases hb:b=p
  ·subst hb;rw[dI] at e;rw[aw];exact e
  ·rw[fJ hb] at e;rw[ak hb];exact r.zs b u (by rw[fJ hb];exact e)
 ·by_cases hb:b=p
  ·subst hb;exact fp
  ·rw[fJ hb] at e;exact r.zf b u (by rw[fJ hb];exact e)
 ·have:=r.zc k a c ha hc hd;rw[fJ (nc k a c ha hc hd)] at this ⊢;exact this
theorem Oi (h:H p=some o):b6 H p o=H:=by
 funext b
 unfold b6;split
 ·rename_i e;rw[e,h]
 ·rfl
section
variable {X:Cx}{EX:EXT}{elt tg iter:Expr}{ifs:Zx}{scope:Scope}{pos:Pos}{T caps:Zv}{ix:Zu}{g:MG}{t:MB}{m:MX}
def TQ (X:Cx) (scope:Scope) (N':Zv) (tg:Expr) (ifs:Zx) (elt:Expr) (g:MG) (t:MB) (m:MX):Prop :=
 ∀C s H ex,MTg (fV X N' scope C s H ex) tg g/\ML (fV X N' scope C s H ex) ifs t/\ME (fV X N' scope C s H ex) Ds elt m
theorem RH.drop {K:Zl}{Z:ZS}{F H:Hp}{O:Zr}(r:RH K (ZS.up Z p o) O F H U) (hz:Z.z p=none):RH K Z O F H U:=by
 refine⟨r.sub,r.len,r.cell,fun b u e=>?_,fun b u e=>?_,fun k a c ha hc hd=>?_,r.dis,r.ext⟩
 ·exact r.zs b u (by rw[fJ (az e hz)];exact e)
 ·exact r.zf b u (by rw[fJ (az e hz)];exact e)
 ·have:=r.zc k a c ha hc hd;by_cases ha':a=p
  ·rw[ha'];exact hz
  ·rw[fJ ha'] at this;exact this
inductive Vk (Y:Cx) (Z:ZS) (D':Addr) (fp:Zr) (tn:Nat->Heap->Prop) (O:Zr) (F:Hp) (g:MG) (t:MB) (m:MX) (ds:ZE) (G:Res (ZE)->Prop):Nat->Shared->Prop
 |mk {i:Nat}{σ':L2.St}{H':Hp}{O':Zr}{F':Hp}{ρ':En}{U':Mu}{xs:ZE}{vs:List V}{s':Shared}:i<=ds.length->xs.length<=i->Inv Y [] σ' H' s'->tn i s'.heap->(∀b∈fp,H' b=none)->RS Y.K (ZS.up Z D' (.lst vs)) O' F' H' σ' ρ' U'->Ext O F O' F'->Reps Y.K F' O' xs vs->G (aA g t m (ds.drop i) ρ' U' xs)->Vk Y Z D' fp tn O F g t m ds G (ds.length+1-i) s'
theorem Fc {U:Mu}{ds:ZE}{J:It}{fp:Zr}{it D':Addr}{tn:Nat->Heap->Prop}{G:Res (ZE)->Prop}(hxe:Y.xe=JW) (hcalm:Y.calm=true)
  (hgt:MTg Y tg g) (hif:ML Y ifs t) (he:ME Y Ds elt m) (Tn:wR Y.prog Y.w Y.K tg J fp it tn) (stat:∀H',(∀b∈fp,H' b=none)->∀b∈fp,je Y [] H' b) (I:Inv Y [] σ H s) (ht0:tn 0 s.heap) (hf0:∀b∈fp,H b=none)
  (R:RS Y.K (ZS.up Z D' (.lst [])) O F H σ ρ U) (wk:WalkOk Y.K O F J ds) (hds:ds.length<=16777216) (hG:G (aA g t m ds ρ U [])) (hbad:¬G .bad)
  (hR:∀(σ':L2.St) (H':Hp) (s':Shared) (O':Zr) (F':Hp) (xs:ZE) (vs:List V) (U':Mu),Inv Y [] σ' H' s'->RH Y.K (ZS.up Z D' (.lst vs)) O' F' H' U'->Ext O F O' F'->Reps Y.K F' O' xs vs->G (.ok xs U')->Rr (.ok .next) s') :
  codeAny (model Y.prog Y.w) Y.A (.compLoop (.ListComp elt [⟨tg,iter,ifs,0⟩] scope pos) 0 (.ref it) (.ref D') Y.env) Rr s:=by
 obtain⟨tgt,pg,sg⟩:=hgt;obtain⟨te,pe,se⟩:=he;have nox:∀{O:Type}{tr:Sem O}{Q:O->Shared->Prop}{s:Shared},wpAny (model Y.prog Y.w) Y.A tr Q Y.xe s->wpAny (model Y.prog Y.w) Y.A tr Q JW s:=fun h=>by rw[hxe] at h;exact h
 refine wy (Vk Y Z D' fp tn O F g t m ds G) ?_ (ds.length+1) (.mk (i:=0) (xs:=[]) (vs:=[]) (WK _) (WK _) I ht0 hf0 R (Ext.refl _ _) ax hG)
 rintro n s1 (@⟨i,σ1,H1,O1,F1,ρ1,U1,xs,vs,_,hi,hxl,I1,t1,f1,R1,e1,r1,g1⟩)
 obtain⟨w1,w2⟩:=wk _ O1 F1 H1 U1 R1.hp e1 i;by_cases hlt:i<ds.length
 ·obtain⟨w3,w4⟩:=w1 hlt;refine Wj (Tn.item Y rfl rfl rfl hcalm i [] s1 σ1 H1 JW I1 (stat H1 f1) t1 w3) (fun r s2 h2=>?_) fun _ _ z=>z
  obtain⟨u,rfl,h2⟩:=h2;refine Wj h2 (fun _ s3 h3=>?_) fun _ _ z=>z
  obtain⟨x,H3,I3,rx,yl,t3,f3⟩:=h3;obtain⟨d,F3,hd,R3,sf3,p3⟩:=w4 x H3 yl;have e3:Ext O1 F1 O1 F3:=⟨sf3,fun _ _ h=>h⟩
  rw[XE hlt] at g1;have hd':ds[i]=d:=by
   rw[VI hlt] at hd;exact Option.some.inj hd
  rw[hd'] at g1;simp only[aA] at g1;cases ht:g d ρ1 with
  |none=>rw[ht] at g1;exact absurd g1 hbad
  |some ρ4 =>
   rw[ht] at g1;simp only at g1;have I3':=I3.pinned (stat H3 f3) (Tn.obj _ _ t3);have R3':RS Y.K (ZS.up Z D' (.lst vs)) O1 F3 H3 σ1 ρ1 U1:=R1.to R3 e3;refine Wj (nox (pg _ s3 σ1 H3 x u (fun σ4 H4=>H4=H3/\RS Y.K (ZS.up Z D' (.lst vs)) O1 F3 H3 σ4 ρ4 U1) I3' rx (sg _ O1 F3 H3 σ1 ρ1 U1 x d ρ4 _ R3' p3 ht fun σ4 R4=>⟨rfl,R4⟩))) (fun _ s4 h4=>?_) fun _ _ z=>z
   obtain⟨σ4,H4,I4,rfl,R4⟩:=h4;have back:∀{σ5:L2.St}{H5:Hp}{s5:Shared},Inv Y ([]++qD fp s3.heap) σ5 H5 s5->Inv Y [] σ5 H5 s5/\tn (i+1) s5.heap/\∀b∈fp,H5 b=none:=fun{σ5 H5 s5} I5=>by
    refine⟨I5.unpinned,Tn.keep _ _ _ t3 fun b hb o e=>(I5.pin (b,o) (W8 _ (W8 _ (iZ hb e)))).1,fun b hb=>?_⟩;obtain⟨o,e,_⟩:=Tn.obj _ _ t3 b hb;exact(I5.pin (b,o) (W8 _ (W8 _ (iZ hb e)))).2.1
   refine Wj (nox (hif _ s4 _ O1 F3 H4 σ4 ρ4 U1 (fun k H5=>∃U5 O5 F5,RH Y.K (ZS.up Z D' (.lst vs)) O5 F5 H5 U5/\Ext O1 F3 O5 F5/\G (if k=true then(noX (m ρ4 U5)).bind fun x U2=>aA g t m (ds.drop (i+1)) ρ4 U2 (xs++[x]) else aA g t m (ds.drop (i+1)) ρ4 U5 xs)) I4 R4 ?_)) (fun k s5 h5=>?_) fun _ _ z=>z
   ·cases hk:t ρ4 U1 with
    |ok k U5=>rw[hk] at g1;exact fun O5 F5 H5 R5 e5=>⟨U5,O5,F5,R5,e5,g1⟩
    |exc x U5=>rw[hk] at g1;exact absurd g1 hbad
    |bad=>rw[hk] at g1;exact absurd g1 hbad
   obtain⟨H5,I5,U5,O5,F5,R5,e5,g5⟩:=h5;cases k with
   |false =>
    obtain⟨b1,b2,b3⟩:=back I5;exact⟨_,by omega,.mk (i:=i+1) hlt (Nat.le_succ_of_le hxl) b1 b2 b3 (R4.to R5 e5) (e1.trans (e3.trans e5)) ((r1.mono e3).mono e5) g5⟩
   |true =>
    simp only[Xt] at g5 ⊢;refine Wj (nox (pe _ s5 σ4 H5 (fun v6 H6=>∃x6 U6 O6 F6,RH Y.K (ZS.up Z D' (.lst vs)) O6 F6 H6 U6/\Ext O5 F5 O6 F6/\aG Y.K F6 O6 x6 v6/\G (aA g t m (ds.drop (i+1)) ρ4 U6 (xs++[x6]))) I5 (se _ O5 F5 H5 σ4 ρ4 U5 _ (R4.to R5 e5) ?_))) (fun y s6 h6=>?_) fun _ _ z=>z
    ·cases hm:m ρ4 U5 with
     |ok x6 U6=>rw[hm] at g5;exact fun v6 O6 F6 H6 R6 e6 p6=>⟨x6,U6,O6,F6,R6,e6,p6,g5⟩
     |exc x U5=>rw[hm] at g5;exact absurd g5 hbad
     |bad=>rw[hm] at g5;exact absurd g5 hbad
    obtain⟨v6,H6,I6,rv,x6,U6,O6,F6,R6,e6,p6,g6⟩:=h6;have hHD:H6 D'=some (.lst vs):=R6.zs _ _ dI;have hvl:vs.length<sizeLine:=by rw[←r1.length,Wb];omega
    refine Wj (nox (tS (X:=Y) _ s6 σ4 H6 (.ref D') [v6] (.ref D') [y] (fun _ H7=>H7=b6 H6 D' (.lst (vs++[v6]))) I6 rfl (.cons rv .nil) ⟨D',vs,v6,rfl,rfl,hHD,hvl,rfl⟩)) (fun z s7 h7=>?_) fun _ _ z=>z
    obtain⟨_,H7,I7,_,rfl⟩:=h7;obtain⟨b1,b2,b3⟩:=back I7;have R7:=R6.rehold (.lst (vs++[v6]));refine⟨_,by omega,.mk (i:=i+1) (xs:=xs++[x6]) (vs:=vs++[v6]) hlt ?_ b1 b2 b3 ?_ (e1.trans (e3.trans (e5.trans e6))) ?_ g6⟩
    ·rw[Wy,Yc];exact Nat.succ_le_succ hxl
    ·exact⟨R7,R4.len,fun j dd h=>let⟨v,h1,h2⟩:=R4.sl j dd h;⟨v,h1,(h2.mono e5).mono e6⟩⟩
    ·exact((((r1.mono e3).mono e5).mono e6).append (aa p6 ax))
 ·refine Wj (Tn.done Y rfl rfl rfl hcalm i [] s1 σ1 H1 JW I1 (stat H1 f1) t1 (w2 (by omega))) (fun r s2 h2=>?_) fun _ _ z=>z
  obtain⟨rfl,I2⟩:=h2;rw[Y5 (by omega)] at g1;exact hR σ1 H1 s2 O1 F1 xs vs U1 I2 R1.hp e1 r1 g1
theorem Bc {RR:Value->Addr->Result->Shared->Prop}{it:Addr}{fp:Zr}{tn:Nat->Heap->Prop}{J:It}{Z:ZS}{O:Zr}{F:Hp}{ρ:En}{U:Mu}{ds:ZE}{G:Res (ZE)->Prop}
  (cs:cQ scope X.env) (cp:Br X scope T caps ix) (hcalm:X.calm=true) (hb:TQ X scope (T++caps) tg ifs elt g t m)
  (I2:Inv X pins σ H1 s2) (Tn:wR X.prog X.w X.K tg J fp it tn) (ht0:tn 0 s2.heap) (hfp:∀b∈fp,je X pins H1 b) (R:RS X.K Z O F H1 σ ρ U) (wk:WalkOk X.K O F J ds) (hds:ds.length<=16777216)
  (hG:G (aA g t m ds (K2 T.length ix ρ) U [])) (hbad:¬G .bad)
  (hRR:∀(D' C:Addr) (H':Hp) (s':Shared) (O':Zr) (F':Hp) (xs:ZE) (vs:List V) (U':Mu) (mm:Zn),Inv X pins σ H' s'->je X pins H' C->s'.heap.Ns C mm->RH X.K (ZS.up Z D' (.lst vs)) O' F' H' U'->Z.z D'=none->Ext O F O' F'->Reps X.K F' O' xs vs->G (.ok xs U')->RR (.ref D') C (.ok .next) s') :
  wpAny (model X.prog X.w) X.A (newList []) (fun acc s₃=>wpAny (model X.prog X.w) X.A (newFunctionEnv scope X.env.globals (sE scope X.env) [] X.env.qual none .none (some X.env)) (fun cenv s₄ =>
   codeAny (model X.prog X.w) X.A (.compStart (.ListComp elt [⟨tg,iter,ifs,0⟩] scope pos) 0 (.ref it) acc { cenv with scope:=relabel scope X.env}) (RR acc cenv.locals) s₄) E s₃) E s2:=by
 have hD:H1 s2.heap.objs.size=none:=I2.fresh;have hZ:Z.z s2.heap.objs.size=none:=by
  cases e:Z.z s2.heap.objs.size with
  |none=>rfl
  |some u=>rw[R.hp.zs _ _ e] at hD;cases hD
 have I3:Inv X pins σ (b6 H1 s2.heap.objs.size (.lst [])) { s2 with heap:=s2.heap.push { cls:=.type "list",data:=.seq ([]:Zt).toArray},toks:=s2.toks}:=I2.lnew (its:=[]) (ys:=[]) .nil (WK _);have k3:∀b u,s2.heap.get? b=some u->(s2.heap.push { cls:=.type "list",data:=.seq ([]:Zt).toArray}).get? b=some u:=fun b u e=>VH _ e
 refine WB (wpAny_newFunctionEnv cs.nocell (by intro y hy;simp at hy) (fun h₁ hns₁ hsb₁=>?_) cs.kind);have hobj:∀b∈fp,∃o,s2.heap.get? b=some o:=fun b hb=>let⟨o,e,_⟩:=Tn.obj 0 _ ht0 b hb;⟨o,e⟩
 have hnD:∀b∈fp,b≠s2.heap.objs.size:=fun b hb=>let⟨o,e⟩:=hobj b hb;W3 (VM e)
 have hex3:∀b∈fp,je X pins (b6 H1 s2.heap.objs.size (.lst [])) b/\∃o,(s2.heap.push { cls:=.type "list",data:=.seq ([]:Zt).toArray}).get? b=some o:=fun b hb=>by
  obtain⟨f0,f1⟩:=hfp b hb;obtain⟨o,e⟩:=hobj b hb;exact⟨⟨by rw[ak (hnD b hb)];exact f0,f1⟩,o,k3 b o e⟩
 have keep1:∀b o,(s2.heap.push { cls:=.type "list",data:=.seq ([]:Zt).toArray}).get? b=some o->h₁.get? b=some o:=fun b o e =>
  hsb₁.extBut b o (W3 (VM e)) (VH _ e)
 have I4:=Bb (scope:=scope) (T:=T) (caps:=caps) (ix:=ix) (ex:=fp) (tk:=s2.toks+([]:Zq).length) I3 cs cp rfl hex3 (by simpa using hns₁) keep1;obtain⟨hgt,hif,he⟩:=hb (s2.heap.push { cls:=.type "list",data:=.seq ([]:Zt).toArray}).objs.size { s2 with heap:=s2.heap.push { cls:=.type "list",data:=.seq ([]:Zt).toArray},toks:=s2.toks} (b6 H1 s2.heap.objs.size (.lst [])) fp;have t1:tn 0 h₁:=Tn.keep 0 _ _ ht0 fun b _ o e=>keep1 b o (k3 b o e)
 have stat:∀H':Hp,(∀b∈fp,H' b=none)->∀b∈fp,je (fV X (T++caps) scope (s2.heap.push { cls:=.type "list",data:=.seq ([]:Zt).toArray}).objs.size { s2 with heap:=s2.heap.push { cls:=.type "list",data:=.seq ([]:Zt).toArray},toks:=s2.toks} (b6 H1 s2.heap.objs.size (.lst [])) fp) [] H' b:=fun H' hn b hb=>by
  refine⟨hn b hb,(I4.ok.exf b hb).1,I4.ok.exfs b hb,.inl hb,(I4.ok.exf b hb).2,fun p hp=>?_⟩;exact absurd hp (by simp[fV])
 have loop:codeAny (model X.prog X.w) X.A (.compLoop (.ListComp elt [⟨tg,iter,ifs,0⟩] scope pos) 0 (.ref it) (.ref s2.heap.objs.size) (compEnvC scope (sE scope X.env) (s2.heap.push { cls:=.type "list",data:=.seq ([]:Zt).toArray}).objs.size X.env))
   (RR (.ref s2.heap.objs.size) (s2.heap.push { cls:=.type "list",data:=.seq ([]:Zt).toArray}).objs.size) { s2 with heap:=h₁,toks:=s2.toks+([]:Zq).length}:=by
  refine Fc (Y:=fV X (T++caps) scope (s2.heap.push { cls:=.type "list",data:=.seq ([]:Zt).toArray}).objs.size { s2 with heap:=s2.heap.push { cls:=.type "list",data:=.seq ([]:Zt).toArray},toks:=s2.toks} (b6 H1 s2.heap.objs.size (.lst [])) fp) (Z:=Z) (G:=G) rfl hcalm hgt hif he Tn stat I4 t1 (fun b hb=>by rw[ak (hnD b hb)];exact(hfp b hb).1)
   (OO T.length ix ⟨R.hp.hold (.lst []) hD,R.len,R.sl⟩) wk hds hG hbad fun σ' H' s' O' F' xs vs U' I' R' e' r' g'=>?_
  have Ib:=Fe (T:=T) (caps:=caps) (s3:={ s2 with heap:=s2.heap.push { cls:=.type "list",data:=.seq ([]:Zt).toArray},toks:=s2.toks}) I2 (VL _) rfl k3 hfp I';obtain⟨mm,hmm,_⟩:=I'.loc;exact hRR _ _ H' s' O' F' xs vs U' mm Ib (I3.fpOk (VL _) I'.free) hmm R' hZ e' r' g'
 exact codeAny_compStart_list loop (Tn.self X.A 0 _ _ _ t1 loop)
theorem uv {RR:Value->Addr->Result->Shared->Prop}{it:Addr}{fp:Zr}{tn:Nat->Heap->Prop}{J:It}{Z:ZS}{O:Zr}{F:Hp}{ρ:En}{U:Mu}{ds:ZE}{G:Res (ZE)->Prop}
  (cs:cQ scope X.env) (cp:Br X scope T caps ix) (hcalm:X.calm=true) (hb:TQ X scope (T++caps) tg ifs elt g t m)
  (I2:Inv X pins σ H1 s2) (Tn:wR X.prog X.w X.K tg J fp it tn) (ht0:tn 0 s2.heap) (hfp:∀b∈fp,je X pins H1 b) (R:RS X.K Z O F H1 σ ρ U) (wk:WalkOk X.K O F J ds) (hds:ds.length<=16777216)
  (hG:G (aA g t m ds (K2 T.length ix ρ) U [])) (hbad:¬G .bad)
  (hRR:∀(D' C:Addr) (H':Hp) (s':Shared) (O':Zr) (F':Hp) (xs:ZE) (U':Mu) (mm:Zn),Inv X pins σ H' s'->je X pins H' C->s'.heap.Ns C mm->RH X.K Z O' F' H' U'->Ext O F O' F'->aG X.K F' O' (.lst xs) (.ref D')->G (.ok xs U')->RR (.ref D') C (.ok .next) s') :
  wpAny (model X.prog X.w) X.A (newList []) (fun acc s₃=>wpAny (model X.prog X.w) X.A (newFunctionEnv scope X.env.globals (sE scope X.env) [] X.env.qual none .none (some X.env)) (fun cenv s₄ =>
   codeAny (model X.prog X.w) X.A (.compStart (.ListComp elt [⟨tg,iter,ifs,0⟩] scope pos) 0 (.ref it) acc { cenv with scope:=relabel scope X.env}) (RR acc cenv.locals) s₄) E s₃) E s2:=by
 refine Bc (G:=G) cs cp hcalm hb I2 Tn ht0 hfp R wk hds hG hbad fun D' C H' s' O' F' xs vs U' mm I' fC hn R' hZ e' r' g'=>?_
 have hHD:H' D'=some (.lst vs):=R'.zs _ _ dI;obtain⟨R2,s2'⟩:=R'.unhold (.lst vs) hZ;rw[Oi hHD] at R2;refine hRR _ _ H' s' O' _ xs U' mm I' fC hn R2 (e'.trans ⟨s2',fun _ _ h=>h⟩) ?_ g';unfold aG;exact⟨_,vs,rfl,gR.of aw,r'.mono ⟨s2',fun _ _ h=>h⟩⟩
theorem CB (I:Inv X pins σ H s) (f:je X pins H C) (hs:Heap.SameBut C s.heap h'):Inv X pins σ H { s with heap:=h'} :=
 I.turned (t':=s.toks) (fun b o hb e=>hs.extBut b o hb e) f.1 f.2.1 f.2.2.2.1 f.2.2.2.2.1 f.2.2.2.2.2
theorem eB (cs:cQ scope X.env) (cp:Br X scope T caps ix) (hcalm:X.calm=true) (hi:MI X EX tg iter mi) (hb:TQ X scope (T++caps) tg ifs elt g t m) (hs:∀x,foldedSetIterable iter X.env x=pure x:=by intro _;rfl) :
  ME X EX (.ListComp elt [⟨tg,iter,ifs,0⟩] scope pos) (b7 T.length ix g mi t m):=by
 obtain⟨wi,pi,si⟩:=hi;refine⟨fun σ H Q=>∀pins s,Inv X pins σ H s->wpAny (model X.prog X.w) X.A (eval (.ListComp elt [⟨tg,iter,ifs,0⟩] scope pos) X.env) (EP X pins σ Q) X.xe s,fun pins s σ H Q I h=>h pins s I,fun Z O F H σ ρ U Q R gd pins s I=>?_⟩;rw[eval_ListComp];refine YM (use:=none) rfl hs (sC (cs.had I.ok)) cs.kind cs.loc ?_;unfold b7 at gd;cases hm:mi ρ U with
 |exc x U1 =>
  rw[hm] at gd;have hw:wi σ H fun _ _=>False:=si Z O F H σ ρ U _ R (by rw[hm];exact gd)
  refine bP (pi pins s σ H _ I hw) fun v s1 h1=>bP h1 fun itv s2 h2=>?_
  obtain⟨_,_,_,_,_,_,_,_,_,_,z⟩:=h2;exact z.elim
 |bad=>rw[hm] at gd;exact gd.elim
 |ok ds U1 =>
  rw[hm] at gd;simp only[ae] at gd;by_cases hds:ds.length<=16777216
  ·rw[VJ hds] at gd;have hw:wi σ H fun J H1=>∃O1 F1,RH X.K Z O1 F1 H1 U1/\Ext O F O1 F1/\WalkOk X.K O1 F1 J ds:=si Z O F H σ ρ U _ R (by rw[hm];exact fun J O' F' H' R' e' w'=>⟨O',F',R',e',w'⟩)
   refine bP (pi pins s σ H _ I hw) fun v s1 h1=>bP h1 fun itv s2 h2=>?_
   obtain⟨it,fp,tn,J,H2,rfl,I2,Tn,t0,f2,O1,F1,R1,e1,wk⟩:=h2;refine uv (G:=fun r=>GE X.K Ds Z O F Q (r.bind fun xs U2=>.ok (.lst xs) U2)\/GE X.K EX Z O F Q (r.bind fun xs U2=>.ok (.lst xs) U2)) cs cp hcalm hb I2 Tn t0 f2 (R.to R1 e1) wk hds (.inr gd) (fun z=>z.elim id id) fun D' C H' s' O' F' xs U' mm I' fC hn R' e' rp gg=>?_
   refine⟨mm,hn,fun h' hs'=>⟨.ref D',H',CB I' fC hs',rfl,?_⟩⟩;rcases gg with gg|gg
   ·exact gg _ O' F' H' R' (e1.trans e') rp
   ·exact gg _ O' F' H' R' (e1.trans e') rp
  ·rw[VN hds] at gd;exact gd.elim
theorem Lu (hN:X.nd) (hi':X.N[i]? =some x) (hx:zD X.env.scope x) (hf:X.fn x=true\/X.env.scope.names.lookup x=some .local) (cs:cQ scope X.env) (cp:Br X scope T caps ix) (hcalm:X.calm=true) (hi:MI X EX tg iter mi)
  (hb:TQ X scope (T++caps) tg ifs elt g t m) (hsw:swapsWith (.ListComp elt [⟨tg,iter,ifs,0⟩] scope pos) (some (.Name x pos')) spos.line X.env=pure true) (hs:∀x,foldedSetIterable iter X.env x=pure x:=by intro _;rfl) :
  MS X EX (.Assign [.Name x pos'] (.ListComp elt [⟨tg,iter,ifs,0⟩] scope pos) spos) (mSet i (b7 T.length ix g mi t m)):=by
 obtain⟨wi,pi,si⟩:=hi;refine⟨fun N σ H=>∀pins s,Inv X pins σ H s->wpAny (model X.prog X.w) X.A (exec (.Assign [.Name x pos'] (.ListComp elt [⟨tg,iter,ifs,0⟩] scope pos) spos) X.env) (SP X pins N) X.xe s,fun pins s σ H N I h=>h pins s I,fun Z O F H σ ρ U N R gd pins s I=>?_⟩;rw[exec_Assign_Name_used _ _ _ _ hsw];refine VG (Yl (VG ?_));show wpAny _ X.A (do let _ ←comprehension (.ListComp elt [⟨tg,iter,ifs,0⟩] scope pos) scope X.env _ (newList []) false (eval iter X.env) (some (assign (.Name x pos') X.env))) _ _ s;refine VG (Wj (YM (use:=some (assign (.Name x pos') X.env)) (Q:=fun _ s'=>SP X pins N .next s') rfl hs (sC (cs.had I.ok)) cs.kind cs.loc ?_) (fun _ s' hq=>VO (VO hq)) fun _ _ e=>e);unfold mSet b7 at gd;cases hm:mi ρ U with
 |exc y U1 =>
  rw[hm] at gd;have hw:wi σ H fun _ _=>False:=si Z O F H σ ρ U _ R (by rw[hm];exact gd)
  refine bP (pi pins s σ H _ I hw) fun v s1 h1=>bP h1 fun itv s2 h2=>?_
  obtain⟨_,_,_,_,_,_,_,_,_,_,z⟩:=h2;exact z.elim
 |bad=>rw[hm] at gd;exact gd.elim
 |ok ds U1 =>
  rw[hm] at gd;simp only[ae] at gd;by_cases hds:ds.length<=16777216
  ·rw[VJ hds] at gd;have hw:wi σ H fun J H1=>∃O1 F1,RH X.K Z O1 F1 H1 U1/\Ext O F O1 F1/\WalkOk X.K O1 F1 J ds:=si Z O F H σ ρ U _ R (by rw[hm];exact fun J O' F' H' R' e' w'=>⟨O',F',R',e',w'⟩)
   refine bP (pi pins s σ H _ I hw) fun v s1 h1=>bP h1 fun itv s2 h2=>?_
   obtain⟨it,fp,tn,J,H2,rfl,I2,Tn,t0,f2,O1,F1,R1,e1,wk⟩:=h2;refine uv (G:=fun r=>GS X.K EX Z O F N ((r.bind fun xs U2=>.ok (.lst xs) U2).bind fun d U1=>.ok (.nx (ρ.set i (some d))) U1)) cs cp hcalm hb I2 Tn t0 f2 (R.to R1 e1) wk hds gd (fun z=>z) fun D' C H' s' O' F' xs U' mm I' fC hn R' e' rp gg=>?_
   show wpAny _ X.A (assign (.Name x pos') X.env (.ref D')) _ _ _;refine wpAny_assign_Name (tw (v:=.ref D') I' hN hi' hx rfl (fun s'' I'' hsb=>?_) hf);obtain⟨a,hsb,ha⟩:=hsb;have hCa:C≠a:=by
    rcases ha with rfl|ha
    ·exact fC.2.1
    ·exact fun z=>fC.2.2.2.2.1 x a ha z.symm
   refine⟨mm,hn.sameBut hsb hCa,fun h' hs'=>⟨_,H',CB I'' fC hs',?_⟩⟩;exact gg _ O' F' H' ((R.to R' (e1.trans e')).set i rp) (e1.trans e')
  ·rw[VN hds] at gd;exact gd.elim
end
section
variable {prog:Program}{w:World}{A:Around}
theorem F8 (hh:A.handled=none) (j tp:Addr) (hne:tp≠j) (xs:ZB):Draws prog w A j [j,tp] xs.size (fun i v=>xs[i]? =some v) (fun i h=>h.IsTupleIter j tp i/\h.IsTuple tp xs):=by
 have start:∀{s:Shared}{Q:Zm}{E:Zm}{i:Nat},s.heap.IsTupleIter j tp i->s.heap.IsTuple tp xs ->
   wpAny (model prog w) A.in1 (match xs[i]? with
    |some x=>do setField (.ref j) 1 (rawInt ((i:Int)+1));ret x
    | none=>do rule "tuple_iterator.__next__.end";setField (.ref j) 0 .none;Builtin.SmallTypes.stopIteration) (fun f s'=>∃v,f=.done (.ret v)/\wpAny (model prog w) A (pure v) Q E s') E s ->
   wpAny (model prog w) A (Builtin.SmallTypes.nextOf (.ref j)) Q E s:=fun{s Q E i} a b h=>by
  obtain⟨oj,ej,_,dj⟩:=id a;obtain⟨ot,et,_,n,dt⟩:=b;unfold Builtin.SmallTypes.nextOf;refine VG (Xc (name:="__next__") a.typeIs Y6 (Yf Y6 a.typeIs PySem.F.entry_tuple_iterator_next ?_ (PySem.F.args_tuple_iterator_next_1 _)));refine(VG (Wq ej dj (x:=.ref tp) rfl ?_):wpAny _ _ (field (.ref j) 0 >>= _) _ _ s);refine(VG (Wq ej dj (x:=.int i 0) rfl ?_):wpAny _ _ (field (.ref j) 1 >>= _) _ _ s);refine(VG (X2 et dt ?_):wpAny _ _ (seqItems? (.ref tp) >>= _) _ _ s);simp only[X5];exact h
 refine⟨fun _ _ st=>let⟨o,e,_⟩:=st.1;⟨o,e⟩,fun i h h' st k=>?_,fun i s Q E hi st q=>start st.1 st.2 ?_,fun s Q E st q=>start st.1 st.2 ?_⟩
 ·obtain⟨⟨o,e,r⟩,⟨o2,e2,r2⟩⟩:=st;exact⟨⟨o,k j (by simp) o e,r⟩,⟨o2,k tp (by simp) o2 e2,r2⟩⟩
 ·obtain⟨⟨o,e,c,d⟩,b⟩:=id st;rw[Array.getElem?_eq_getElem hi];refine VG (WT e d (by simp) (VO ⟨_,rfl,VO (q _ _ _ (by simp[hi]) ⟨⟨_,Wt _ e (Obj.isFreed_of_fields (Obj.data_mapFields d _)),(Obj.cls_mapFields ..).trans c,by rw[Obj.data_mapFields d];simp[rawInt]⟩,b.extBut (Yx ..).extBut hne⟩ (Yx ..))⟩))
 ·obtain⟨⟨o,e,c,d⟩,b⟩:=id st;rw[show xs[xs.size]? =none by simp];refine VG (Z7 (VG (WT e d (by simp) ?_)));simp only[Builtin.SmallTypes.stopIteration,newExc,newTuple];refine VG (VG (WB (VG (m:=firstArgMember _ _) (YJ (a:=Value.none) (by first|rfl|(simp only[firstArgMember];rfl)) (WB ?_ (by size_fits)))) (by size_fits)));simp only[raiseNew];refine VG (wpAny_handled ?_);rw[show A.in1.handled=none from hh];exact VG (VO (wpAny_throw (q _ _ (((Yx ..).extBut.push _).push _) ⟨_,VZ _ rfl,rfl⟩)))
structure oN (z tI tO i1 i2:Addr) (f1 f2:Zr):Prop where
 a:z≠tO
 b:z≠tI
 c:tI≠tO
 z1:z∉f1
 z2:z∉f2
 o1:tO∉f1
 o2:tO∉f2
 m1:i1∈f1
 m2:i2∈f2
 x1:i1∉f2
 x2:i2∉f1
 t1:tI∉f1
 t2:tI∉f2
theorem oN.ne1 (P:oN z tI tO i1 i2 f1 f2):i1≠z/\i1≠tO/\i1≠i2/\i1≠tI:=⟨fun e=>P.z1 (e▸P.m1),fun e=>P.o1 (e▸P.m1),fun e=>P.x1 (e▸P.m2),fun e=>P.t1 (e▸P.m1)⟩
theorem oN.ne2 (P:oN z tI tO i1 i2 f1 f2):i2≠z/\i2≠tO/\i2≠tI:=⟨fun e=>P.z2 (e▸P.m2),fun e=>P.o2 (e▸P.m2),fun e=>P.t2 (e▸P.m2)⟩
theorem cB {f:Zr}{c:Addr}(hc:c∉f) (k:Heap.ExtBut c h h'):∀b∈f,∀o,h.get? b=some o->h'.get? b=some o:=fun b hb o e=>k b o (fun z=>hc (z▸hb)) e
variable {E:Zm}{s:Shared}{z tI tO i1 i2:Addr}{f1 f2:Zr}{n1 n2 k:Nat}{P1 P2:Nat->Value->Prop}{S1 S2:Nat->Heap->Prop}{p q:Value}
theorem FI {Q:Zm}(D1:Draws prog w A.in1 i1 f1 n1 P1 S1) (D2:Draws prog w A.in1 i2 f2 n2 P2 S2) (ap:oN z tI tO i1 i2 f1 f2) (hz:IsZip s.heap z tI tO .none) (hI:IsPair s.heap tI (.ref i1) (.ref i2)) (hOq:IsPair s.heap tO p q)
  (s1:S1 k s.heap) (s2:S2 k s.heap) (l1:k<n1) (l2:k<n2)
  (fin:∀x y h' tk,P1 k x->P2 k y->IsZip h' z tI tO (rawInt s.heap.objs.size)->IsPair h' tO x y->S1 (k+1) h'->S2 (k+1) h'->IsPair h' s.heap.objs.size x y->(∀c o,c≠z->c≠tO->c≠i1->c≠i2->s.heap.get? c=some o->h'.get? c=some o) ->
   Q (.ref s.heap.objs.size) { s with heap:=h',toks:=tk}) :
  wpAny (model prog w) A.in1 (Builtin.«zip.__next__» ⟨[.ref z],[]⟩) (fun f s'=>∃v,f=.done (.ret v)/\Q v s') E s:=by
 obtain⟨u1,u2,u3,u4⟩:=ap.ne1;obtain⟨v1,v2,v3⟩:=ap.ne2;refine(VG (Wq hz rfl (x:=.bool false) rfl ?_):wpAny _ _ (field (.ref z) 2 >>= _) _ _ _);refine(VG (Wq hz rfl (x:=.ref tI) rfl ?_):wpAny _ _ (field (.ref z) 3 >>= _) _ _ _);refine VG (X2 hI rfl ?_);have free:∀{R:Bool->Shared->Prop},R true s->wpAny (model prog w) A.in1 (Builtin.SmallTypes.ownedTupleIsFree (.ref z)) R E s:=fun r=>by
  unfold Builtin.SmallTypes.ownedTupleIsFree;exact VG (Wq hz rfl (x:=.none) rfl (VO r))
 refine(VG (free ?_):wpAny _ _ (Builtin.SmallTypes.ownedTupleIsFree (.ref z) >>= _) _ _ _);simp only[Xt];refine VG (Z7 ?_);refine VG (Wq hz rfl (x:=.ref tO) rfl ?_);refine VG (Xi hz (by simp) fun g1 z1 k1=>VG ?_);simp only[List.zipIdx_cons,List.zipIdx_nil,Yu,List.forIn_nil];have a1:S1 k g1:=D1.frame _ _ _ s1 (cB ap.z1 k1.extBut);have a2:S2 k g1:=D2.frame _ _ _ s2 (cB ap.z2 k1.extBut);have aO:IsPair g1 tO p q:=k1.extBut _ _ ap.a.symm hOq;refine VG (VG (Yn ((VG (D1.item k _ _ _ l1 a1 fun x g2 tk2 px b1 k2=>VO ?_)):wpAny _ _ (Builtin.SmallTypes.nextOf (.ref i1) >>= _) _ _ _)));have b2:S2 k g2:=D2.frame _ _ _ a2 (cB ap.x1 k2.extBut);have bO:IsPair g2 tO p q:=k2.extBut _ _ u2.symm aO;refine VG (X2 bO rfl (VG (Yp bO fun g3 cO k3=>VG (wpAny_letGo (VO ?_)))));have cO':IsPair g3 tO x q:=cO;have c1:S1 (k+1) g3:=D1.frame _ _ _ b1 (cB ap.o1 k3.extBut);have c2:S2 k g3:=D2.frame _ _ _ b2 (cB ap.o2 k3.extBut);refine VG (VG (Yn ((VG (D2.item k _ _ _ l2 c2 fun y g4 tk4 py d2 k4=>VO ?_)):wpAny _ _ (Builtin.SmallTypes.nextOf (.ref i2) >>= _) _ _ _)));have d1:S1 (k+1) g4:=D1.frame _ _ _ c1 (cB ap.x2 k4.extBut);have dO:IsPair g4 tO x q:=k4.extBut _ _ v2.symm cO';refine VG (X2 dO rfl (VG (Yp dO fun g5 eO k5=>VG (wpAny_letGo (VO (VO ?_))))));have eO':IsPair g5 tO x y:=eO;have e1:S1 (k+1) g5:=D1.frame _ _ _ d1 (cB ap.o1 k5.extBut);have e2:S2 (k+1) g5:=D2.frame _ _ _ d2 (cB ap.o2 k5.extBut);have sz:g5.objs.size=s.heap.objs.size:=by rw[k5.1,k4.1,k3.1,k2.1,k1.1]
 have z5:IsZip g5 z tI tO .ellipsis:=k5.extBut _ _ ap.a (k4.extBut _ _ v1.symm (k3.extBut _ _ ap.a (k2.extBut _ _ u1.symm z1)));have old:∀c o,c≠z->c≠tO->c≠i1->c≠i2->s.heap.get? c=some o->g5.get? c=some o:=fun c o n1 n2 n3 n4 e=>k5.extBut _ _ n2 (k4.extBut _ _ n4 (k3.extBut _ _ n2 (k2.extBut _ _ n3 (k1.extBut _ _ n1 e))))
 refine VG (X2 eO' rfl (VG (wpAny_newTuple ?_)));have z6:IsZip (g5.push { cls:=.type "tuple",data:=.seq #[x,y]}) z tI tO .ellipsis:=VH _ z5;have out:∀{R:ZA},(∀g7,IsZip g7 z tI tO (rawInt g5.objs.size)->Heap.ExtBut z (g5.push { cls:=.type "tuple",data:=.seq #[x,y]}) g7->R () { s with heap:=g7,toks:=tk4}) ->
   wpAny (model prog w) A.in1 (Builtin.SmallTypes.ownedTupleHandOut (.ref z) (.ref g5.objs.size)) R E { s with heap:=g5.push { cls:=.type "tuple",data:=.seq #[x,y]},toks:=tk4}:=fun r=>by
  unfold Builtin.SmallTypes.ownedTupleHandOut;refine VG (Xi z6 (by simp) fun g7 z7 k7=>Xi (show IsZip g7 z tI tO (rawInt g5.objs.size) from z7) (by simp) fun g8 z8 k8=>r g8 z8 fun c o hc e=>k8.extBut c o hc (k7.extBut c o hc e))
 show wpAny _ _ (Builtin.SmallTypes.ownedTupleHandOut (.ref z) (.ref g5.objs.size) >>= _) _ _ _;refine VG (out fun g7 z7 k7=>?_);refine VO ⟨_,rfl,?_⟩;have up:∀c o,c≠z->g5.get? c=some o->g7.get? c=some o:=fun c o hc e=>k7 c o hc (VH _ e)
 have zlt:z<g5.objs.size:=VM z5;show Q (.ref g5.objs.size) _;rw[sz] at z7 ⊢;refine fin x y g7 tk4 px py z7 (up _ _ ap.a.symm eO') (D1.frame _ _ _ e1 fun b hb o e=>up b o (fun zz=>ap.z1 (zz▸hb)) e) (D2.frame _ _ _ e2 fun b hb o e=>up b o (fun zz=>ap.z2 (zz▸hb)) e) ?_ fun c o n1 n2 n3 n4 e=>up c o n1 (old c o n1 n2 n3 n4 e)
 rw[←sz];exact k7 _ _ (WP zlt) (VZ _ rfl)
theorem FJ (D1:Draws prog w A.in1 i1 f1 n1 P1 S1) (D2:Draws prog w A.in1 i2 f2 n2 P2 S2) (ap:oN z tI tO i1 i2 f1 f2) (hz:IsZip s.heap z tI tO .none) (hI:IsPair s.heap tI (.ref i1) (.ref i2)) (hOq:IsPair s.heap tO p q)
  (s1:S1 k s.heap) (s2:S2 k s.heap) (le1:k<=n1) (le2:k<=n2) (hend:k=n1\/k=n2)
  (fin:∀h' e tk,(∀c o,c≠z->c≠tO->c≠i1->c≠i2->s.heap.get? c=some o->h'.get? c=some o)->(∃o,h'.get? e=some o/\o.cls=.type "StopIteration")->E (.ref e) { s with heap:=h',toks:=tk}) :
  wpAny (model prog w) A.in1 (Builtin.«zip.__next__» ⟨[.ref z],[]⟩) Q E s:=by
 obtain⟨u1,u2,u3,u4⟩:=ap.ne1;obtain⟨v1,v2,v3⟩:=ap.ne2;refine(VG (Wq hz rfl (x:=.bool false) rfl ?_):wpAny _ _ (field (.ref z) 2 >>= _) _ _ _);refine(VG (Wq hz rfl (x:=.ref tI) rfl ?_):wpAny _ _ (field (.ref z) 3 >>= _) _ _ _);refine VG (X2 hI rfl ?_);have free:∀{R:Bool->Shared->Prop},R true s->wpAny (model prog w) A.in1 (Builtin.SmallTypes.ownedTupleIsFree (.ref z)) R E s:=fun r=>by
  unfold Builtin.SmallTypes.ownedTupleIsFree;exact VG (Wq hz rfl (x:=.none) rfl (VO r))
 refine(VG (free ?_):wpAny _ _ (Builtin.SmallTypes.ownedTupleIsFree (.ref z) >>= _) _ _ _);simp only[Xt];refine VG (Z7 ?_);refine VG (Wq hz rfl (x:=.ref tO) rfl ?_);refine VG (Xi hz (by simp) fun g1 z1 k1=>VG ?_);simp only[List.zipIdx_cons,List.zipIdx_nil,Yu,List.forIn_nil];have a1:S1 k g1:=D1.frame _ _ _ s1 (cB ap.z1 k1.extBut);have a2:S2 k g1:=D2.frame _ _ _ s2 (cB ap.z2 k1.extBut);have aO:IsPair g1 tO p q:=k1.extBut _ _ ap.a.symm hOq;have pass:∀{g:Heap}{e:Addr}{tk:Nat},IsZip g z tI tO .ellipsis->(∃o,g.get? e=some o/\o.cls=.type "StopIteration")->(∀c o,c≠z->c≠tO->c≠i1->c≠i2->s.heap.get? c=some o->g.get? c=some o) ->
   wpAny (model prog w) A.in1 (setField (.ref z) 0 .none) (fun _ s'=>E (.ref e) s') E { s with heap:=g,toks:=tk}:=fun{g e tk} zg he kg=>by
  obtain⟨oe,ee,ce⟩:=he;have nez:e≠z:=fun x=>by rw[x,zg] at ee;cases ee;simp at ce
  exact Xi zg (by simp) fun g' _ k'=>fin g' e tk (fun c o m1 m2 m3 m4 x=>k'.extBut _ _ m1 (kg c o m1 m2 m3 m4 x)) ⟨oe,k'.extBut _ _ nez ee,ce⟩
 by_cases h1:k=n1
 ·subst h1;refine VG (VG (Yn ((VG (D1.done _ _ _ a1 fun g2 e k2 he=>?_)):wpAny _ _ (Builtin.SmallTypes.nextOf (.ref i1) >>= _) _ _ _)));exact pass (tk:=s.toks) (k2 _ _ u1.symm z1) he fun c o m1 m2 m3 m4 x=>k2 _ _ m3 (k1.extBut _ _ m1 x)
 ·have h2:k=n2:=hend.resolve_left h1;subst h2;refine VG (VG (Yn ((VG (D1.item k _ _ _ (by omega) a1 fun x g2 tk2 px b1 k2=>VO ?_)):wpAny _ _ (Builtin.SmallTypes.nextOf (.ref i1) >>= _) _ _ _)));have b2:S2 k g2:=D2.frame _ _ _ a2 (cB ap.x1 k2.extBut);have bO:IsPair g2 tO p q:=k2.extBut _ _ u2.symm aO;refine VG (X2 bO rfl (VG (Yp bO fun g3 cO k3=>VG (wpAny_letGo (VO ?_)))));have c2:S2 k g3:=D2.frame _ _ _ b2 (cB ap.o2 k3.extBut);refine VG (VG (Yn ((VG (D2.done _ _ _ c2 fun g4 e k4 he=>?_)):wpAny _ _ (Builtin.SmallTypes.nextOf (.ref i2) >>= _) _ _ _)));exact pass (tk:=tk2) (k4 _ _ v1.symm (k3.extBut _ _ ap.a (k2.extBut _ _ u1.symm z1))) he fun c o m1 m2 m3 m4 x=>k4 _ _ m4 (k3.extBut _ _ m2 (k2.extBut _ _ m3 (k1.extBut _ _ m1 x)))
end
section
variable {X:Cx}{pins:Zo}{σ:L2.St}{H:Hp}{s:Shared}{h':Heap}{fp:Zr}
theorem yH (I:Inv X pins σ H s) (hf:∀b∈fp,je X pins H b) (hk:∀b o,b∉fp->s.heap.get? b=some o->h'.get? b=some o) (rv:aW vs us) (hz:vs.length<=sizeLine) (hT:IsTup h' s.heap.objs.size us.toArray) :
  Inv X pins σ (b6 H s.heap.objs.size (.tup vs)) { s with heap:=h',toks:=t'}:=by
 have hn:H s.heap.objs.size=none:=I.fresh;have nfp:∀b o,H b=some o->b∉fp:=fun b o e z=>by rw[(hf b z).1] at e;cases e
 refine I.step (g':=s.gens) (d':=s.drawn) (ch:=fp) (fun b hb=>⟨(hf b hb).2.2.2.1,(hf b hb).2.1,(hf b hb).2.2.2.2.1,(hf b hb).2.2.2.2.2⟩) (fun b o _ _ hc e _=>hk b o hc e) (fun b o _ _ hc e _=>⟨o.slots,hk b o hc e⟩)
  (fun b o _ e n=>by rw[ak (W3 (VM e))];exact n) (fun b o hc e=>⟨o,hk b o hc e⟩) (fun b xs e=>by rw[ak (az e hn)];exact e) (fun b o xs e=>by rw[ak (az e hn)];exact e)
  (fun b ps e=>⟨#[],by rw[ak (az e hn),e];simp⟩) (fun m hm=>?_) (fun b u e=>?_) I.bare
 ·obtain⟨o,es,ep,e,r⟩:=hm;exact⟨o,es,ep,hk _ o (fun z=>(hf _ z).2.1 rfl) e,r⟩
 ·by_cases hb:b=s.heap.objs.size
  ·subst hb;rw[aw] at e;cases e;exact⟨hz,us,rv,hT⟩
  ·rw[ak hb] at e;refine(I.hok b u e).stay (fun c v hc q=>hk c v ?_ q) (fun c q=>by rw[ak (az q hn)];exact q) fun c xs q=>by rw[ak (az q hn)];exact q
   rcases hc with rfl|hc
   ·exact nfp _ _ e
   ·exact nfp _ _ hc
theorem yG (I:Inv X pins σ H s) (hf:∀b∈fp,je X pins H b) (hk:∀b o,b∉fp->s.heap.get? b=some o->h'.get? b=some o):Inv X pins σ H { s with heap:=h',toks:=t'}:=by
 have nfp:∀b o,H b=some o->b∉fp:=fun b o e z=>by rw[(hf b z).1] at e;cases e
 refine I.step (g':=s.gens) (d':=s.drawn) (ch:=fp) (fun b hb=>⟨(hf b hb).2.2.2.1,(hf b hb).2.1,(hf b hb).2.2.2.2.1,(hf b hb).2.2.2.2.2⟩) (fun b o _ _ hc e _=>hk b o hc e) (fun b o _ _ hc e _=>⟨o.slots,hk b o hc e⟩)
  (fun b o _ e n=>n) (fun b o hc e=>⟨o,hk b o hc e⟩) (fun b xs e=>e) (fun b o xs e=>e) (fun b ps e=>⟨#[],by rw[e];simp⟩) (fun m hm=>?_) (fun b u e=>?_) I.bare
 ·obtain⟨o,es,ep,e,r⟩:=hm;exact⟨o,es,ep,hk _ o (fun z=>(hf _ z).2.1 rfl) e,r⟩
 ·refine(I.hok b u e).stay (fun c v hc q=>hk c v ?_ q) (fun c q=>q) fun c xs q=>q
  rcases hc with rfl|hc
  ·exact nfp _ _ e
  ·exact nfp _ _ hc
end
def zC (K:Zl) (b:Bool) (H:Hp) (a:Addr) (xs:List V):Prop:=match b with
 |true=>SqT K H a xs
 |false=>gR K H a xs
def FG (b:Bool) (h:Heap) (a:Addr) (xs:ZB):Prop:=match b with
 |true=>h.IsTuple a xs
 |false=>h.IsList a xs
def JY (b:Bool) (h:Heap) (it a:Addr) (k:Nat):Prop:=match b with
 |true=>h.IsTupleIter it a k
 |false=>h.IsListIter it a k
abbrev yF (b:Bool) (a:Addr):Obj:={ cls:=.type (match b with|true=>"tuple_iterator"|false=>"list_iterator"),data:=.fields #[.ref a,.int 0 0]}
theorem zC.mono {K:Zl}{b:Bool}{H H':Hp}(x:zC K b H a xs) (e:Same H H'):zC K b H' a xs:=by
 cases b
 ·exact e.seq x
 ·exact Same.tup e x
theorem Inv.sqB (I:L2.Inv X pins σ H s) (h:zC X.K b H a xs):∃its:Zt,aW xs its/\FG b s.heap a its.toArray:=by
 cases b
 ·obtain⟨its,r,p,_⟩:=I.list h;exact⟨its,r,p.isList⟩
 ·obtain⟨its,r,p,_⟩:=I.tuple h;exact⟨its,r,p⟩
theorem BA (I:L2.Inv X pins σ H s) (h:zC X.K b H a xs) (h':zC X.K b H a ys):xs=ys:=by
 cases b
 ·exact I.list_inj h h'
 ·exact I.tuple_inj h h'
theorem FG.lt (x:FG b h a xs):a<h.objs.size:=by
 cases b
 ·obtain⟨o,e,_⟩:=x;exact VM e
 ·obtain⟨o,e,_⟩:=x;exact VM e
theorem FG.kept (x:FG b h a xs) (k:∀o,h.get? a=some o->h'.get? a=some o):FG b h' a xs:=by
 cases b
 ·obtain⟨o,e,r⟩:=x;exact⟨o,k o e,r⟩
 ·obtain⟨o,e,r⟩:=x;exact⟨o,k o e,r⟩
theorem JY.kept (x:JY b h it a k) (kk:∀o,h.get? it=some o->h'.get? it=some o):JY b h' it a k:=by
 cases b
 ·obtain⟨o,e,r⟩:=x;exact⟨o,kk o e,r⟩
 ·obtain⟨o,e,r⟩:=x;exact⟨o,kk o e,r⟩
theorem JY.ob (x:JY b h it a k):∃o,h.get? it=some o/\∀v,o.data≠.cell v:=by
 cases b
 ·obtain⟨o,e,c,d⟩:=x;exact⟨o,e,fun v z=>by rw[d] at z;cases z⟩
 ·obtain⟨o,e,c,d⟩:=x;exact⟨o,e,fun v z=>by rw[d] at z;cases z⟩
theorem wq (b:Bool) (hh:A.handled=none) (it a:Addr) (hne:a≠it) (xs:ZB):Draws prog w A it [it,a] xs.size (fun i v=>xs[i]? =some v) (fun i h=>JY b h it a i/\FG b h a xs):=by
 cases b
 ·exact Draws.list hh it a hne xs
 ·exact F8 hh it a hne xs
theorem BO (h:FG b s.heap a xs) (q:Q (.ref s.heap.objs.size) { s with heap:=s.heap.push (yF b a)}):wpAny (model prog w) A (pyIter (.ref a)) Q E s:=by
 cases b
 ·exact Xs h q
 ·exact wpAny_pyIter_tuple h q
theorem uc {b:Bool}{h:Heap} :JY b (h.push (yF b a)) h.objs.size a 0:=by
 cases b
 ·exact⟨_,VZ _ rfl,rfl,rfl⟩
 ·exact⟨_,VZ _ rfl,rfl,rfl⟩
abbrev Rg (h:Heap) (b1:Bool) (l1:Addr):Heap:=h.push (yF b1 l1)
abbrev TV (h:Heap) (b1 b2:Bool) (l1 l2:Addr):Heap:=(Rg h b1 l1).push (yF b2 l2)
abbrev TU (h:Heap) (b1 b2:Bool) (l1 l2:Addr):Heap:=(TV h b1 b2 l1 l2).push { cls:=.type "tuple",data:=.seq #[.ref h.objs.size,.ref (Rg h b1 l1).objs.size]}
abbrev TR (h:Heap) (b1 b2:Bool) (l1 l2:Addr):Heap:=(TU h b1 b2 l1 l2).push { cls:=.type "tuple",data:=.seq #[.none,.none]}
abbrev K5 (h:Heap) (b1 b2:Bool) (l1 l2:Addr):Heap:=(TR h b1 b2 l1 l2).push { cls:=.type "zip",data:=.fields #[.none,.bool false,.bool false,.ref (TV h b1 b2 l1 l2).objs.size,.ref (TU h b1 b2 l1 l2).objs.size]}
theorem Du (b1 b2:Bool) (l1 l2:Addr) (xs ys:ZB) :
  PySem.Meets (Builtin.«zip.__new__» ⟨[.type "zip",.ref l1,.ref l2],[]⟩) (fun _ R s=>FG b1 s.heap l1 xs/\FG b2 s.heap l2 ys/\R (.ok (.ret (.ref (TR s.heap b1 b2 l1 l2).objs.size))) { s with heap:=K5 s.heap b1 b2 l1 l2}) :=
 .of_wp fun prog w A R s h=>by
  obtain⟨hp,g,d,tk,os⟩:=s;obtain⟨q1,q2,q⟩:=h;have sub:=sub_zip;have e1:FG b1 (Shared.heap ⟨hp,g,d,tk,os⟩) l1 xs:=q1;have e2:FG b2 (Shared.heap ⟨hp.push (yF b1 l1),g,d,tk,os⟩) l2 ys:=q2.kept fun o e=>VH _ e
  wp_walk using BO e1,BO e2
  exact⟨_,rfl,q⟩
def UZ (K:Zl) (b1 b2:Bool) (l1 l2:Addr):It :=
  ⟨fun i H=>∃xs ys x y,zC K b1 H l1 xs/\zC K b2 H l2 ys/\xs[i]? =some x/\ys[i]? =some y,
   fun i H v H'=>∃p x y,v=.ref p/\H p=none/\(∀xs,zC K b1 H l1 xs->xs[i]? =some x)/\(∀ys,zC K b2 H l2 ys->ys[i]? =some y)/\H'=b6 H p (.tup [x,y]),
   fun i H=>∃xs ys,zC K b1 H l1 xs/\zC K b2 H l2 ys/\i<=xs.length/\i<=ys.length/\(i=xs.length\/i=ys.length)⟩
def Tr (b1 b2:Bool) (z tI tO i1 i2 l1 l2:Addr) (i:Nat) (h:Heap):Prop:=∃p q,IsZip h z tI tO .none/\IsPair h tI (.ref i1) (.ref i2)/\IsPair h tO p q/\JY b1 h i1 l1 i/\JY b2 h i2 l2 i
theorem Gd {P:Program}{w:World}{K:Zl}{elts:Zx}(ap:oN z tI tO i1 i2 [i1,l1] [i2,l2]) (n1:l1≠i1) (n2:l2≠i2) :
  wR P w K (.Tuple elts x1 tpos) (UZ K b1 b2 l1 l2) [z,tI,tO,i1,i2] z (Tr b1 b2 z tI tO i1 i2 l1 l2) where
 mem:=by simp
 obj:=fun i h st b hb=>by
  obtain⟨p,q,hz,hI,hOq,h1,h2⟩:=st;simp only[Wd,VR,WL] at hb;rcases hb with rfl|rfl|rfl|rfl|rfl
  ·exact⟨_,hz,fun v e=>by cases e⟩
  ·exact⟨_,hI,fun v e=>by cases e⟩
  ·exact⟨_,hOq,fun v e=>by cases e⟩
  ·exact h1.ob
  ·exact h2.ob
 keep:=fun i h h' st k=>by
  obtain⟨p,q,hz,hI,hOq,h1,h2⟩:=st;exact⟨p,q,k z (by simp) _ hz,k tI (by simp) _ hI,k tO (by simp) _ hOq,h1.kept (k i1 (by simp)),h2.kept (k i2 (by simp))⟩
 item:=by
  intro X hP hw hK hc i pins s σ H E I hf st hg;subst hP hw hK;obtain⟨p,q,hz,hI,hOq,h1,h2⟩:=st;obtain⟨xs,ys,x,y,q1,q2,ex,ey⟩:=hg;obtain⟨us,r1,g1⟩:=Inv.sqB I q1;obtain⟨ws,r2,g2⟩:=Inv.sqB I q2;have hh:X.A.in1.handled=none:=I.ok.hd hc;have lx:i<us.toArray.size:=by
   have:=(List.getElem?_eq_some_iff.mp ex).1;simp only[VT,←r1.length];exact this
  have ly:i<ws.toArray.size:=by
   have:=(List.getElem?_eq_some_iff.mp ey).1;simp only[VT,←r2.length];exact this
  have hT:s.TypeIs (.ref z) "zip":=⟨_,hz,rfl⟩
  unfold pyNext;refine VG (Xn (Xc (name:="__next__") hT Xo (Yf Xo hT Z8 (FI (wq b1 hh i1 l1 n1 us.toArray) (wq b2 hh i2 l2 n2 ws.toArray) ap hz hI hOq ⟨h1,g1⟩ ⟨h2,g2⟩ lx ly fun a c h' tk pa pc z' Oo' t1 t2 T' kp=>VO ?_) (YV _))));refine⟨_,rfl,wpAny_letOwnedTupleGo_zip z' fun h'' z'' sb=>?_⟩;have fz:s.heap.objs.size≠z:=WP (VM hz);have kp':∀b o,b∉[z,tI,tO,i1,i2]->s.heap.get? b=some o->h''.get? b=some o:=fun b o hb e=>by
   simp only[Wd,VR,WL,not_or] at hb;exact sb.extBut b o hb.1 (kp b o hb.1 hb.2.2.1 hb.2.2.2.1 hb.2.2.2.2 e)
  obtain⟨a',ea,ra⟩:=r1.get ex;obtain⟨c',ec,rc⟩:=r2.get ey;have pa':a=a':=by
   have:us.toArray[i]? =some a:=pa;simp only[X3] at this;rw[ea] at this;exact(Option.some.inj this).symm
  have pc':c=c':=by
   have:ws.toArray[i]? =some c:=pc;simp only[X3] at this;rw[ec] at this;exact(Option.some.inj this).symm
  subst pa' pc';have T'':h''.get? s.heap.objs.size=some { cls:=.type "tuple",data:=.seq #[a,c]}:=sb.extBut _ _ fz T';have I':=yH (t':=tk) I hf kp' (vs:=[x,y]) (us:=[a,c]) (.cons ra (.cons rc .nil)) (by rw[Wb];show 2<=16777216;decide) ⟨_,T'',rfl,_,rfl⟩;refine⟨.ref s.heap.objs.size,_,I',rfl,⟨_,x,y,rfl,I.fresh,fun xs' hx=>by rw[BA I hx q1];exact ex,fun ys' hy=>by rw[BA I hy q2];exact ey,rfl⟩,?_,fun b hb=>?_⟩
  ·have hI':IsPair h' tI (.ref i1) (.ref i2):=kp _ _ ap.b.symm ap.c ap.ne1.2.2.2.symm ap.ne2.2.2.symm hI;exact⟨a,c,z'',sb.extBut _ _ ap.b.symm hI',sb.extBut _ _ ap.a.symm Oo',t1.1.kept fun o e=>sb.extBut _ _ ap.ne1.1 e,t2.1.kept fun o e=>sb.extBut _ _ ap.ne2.1 e⟩
  ·have:b<s.heap.objs.size:=by
    simp only[Wd,VR,WL] at hb;rcases hb with rfl|rfl|rfl|rfl|rfl
    ·exact VM hz
    ·exact VM hI
    ·exact VM hOq
    ·obtain⟨o,e,_⟩:=h1.ob;exact VM e
    ·obtain⟨o,e,_⟩:=h2.ob;exact VM e
   rw[ak (W3 this)];exact(hf b hb).1
 done:=by
  intro X hP hw hK hc i pins s σ H E I hf st hg;subst hP hw hK;obtain⟨p,q,hz,hI,hOq,h1,h2⟩:=st;obtain⟨xs,ys,q1,q2,le1,le2,hend⟩:=hg;obtain⟨us,r1,g1⟩:=Inv.sqB I q1;obtain⟨ws,r2,g2⟩:=Inv.sqB I q2;have hh:X.A.in1.handled=none:=I.ok.hd hc;have hT:s.TypeIs (.ref z) "zip":=⟨_,hz,rfl⟩
  unfold pyNext;refine VG (Xn (Xc (name:="__next__") hT Xo (Yf Xo hT Z8 (FJ (k:=i) (wq b1 hh i1 l1 n1 us.toArray) (wq b2 hh i2 l2 n2 ws.toArray) ap hz hI hOq ⟨h1,g1⟩ ⟨h2,g2⟩ (by simp only[VT,←r1.length];exact le1) (by simp only[VT,←r2.length];exact le2)
   (by simp only[VT,←r1.length,←r2.length];exact hend) fun h' e tk kp he=>?_) (YV _))))
  obtain⟨o,eo,co⟩:=he;refine VG (Yh (T:="StopIteration") (b:=true) ⟨o,eo,co⟩ isSubtype_stop (VO ⟨rfl,?_⟩));exact yG (t':=tk) I hf fun b o hb e=>by
   simp only[Wd,VR,WL,not_or] at hb;exact kp b o hb.1 hb.2.2.1 hb.2.2.2.1 hb.2.2.2.2 e
 self:=fun A i s Q E st h=>by
  obtain⟨p,q,hz,_⟩:=st;exact wpAny_pyIter_zip hz h
def fZ (xs ys:ZE):ZE:=(xs.zip ys).map fun p=>.tup [p.1,p.2]
theorem tJ:∀(xs ys:ZE) (i:Nat),(fZ xs ys)[i]? =match xs[i]?,ys[i]? with
  |some x,some y=>some (.tup [x,y])
  |_,_=>none
 |[],ys,i=>by simp[fZ]
 |x::xs,[],i=>by
  simp only[fZ,List.zip_nil_right,X7,List.getElem?_nil];cases(x::xs)[i]? <;> rfl
 |x::xs,y::ys,0=>rfl
 |x::xs,y::ys,i+1=>by
  have:=tJ xs ys i;simpa[fZ] using this
theorem Eb (xs ys:ZE):(fZ xs ys).length=min xs.length ys.length:=by simp[fZ]
theorem FV {K:Zl}{F:Hp}{O:Zr}{b1 b2:Bool}(h1:zC K b1 F l1 us) (r1:Reps K F O xs us) (h2:zC K b2 F l2 vs) (r2:Reps K F O ys vs):WalkOk K O F (UZ K b1 b2 l1 l2) (fZ xs ys):=by
 intro Z O' F' H' U' R e i;have g1:zC K b1 H' l1 us:=h1.mono (e.fr.trans R.sub);have g2:zC K b2 H' l2 vs:=h2.mono (e.fr.trans R.sub);have e1:=r1.length;have e2:=r2.length;rw[Eb];refine⟨fun hi=>?_,fun hi=>⟨us,vs,g1,g2,by omega,by omega,by omega⟩⟩;obtain⟨u,a1,a2⟩:=r1.get (VI (show i<xs.length by omega));obtain⟨v,c1,c2⟩:=r2.get (VI (show i<ys.length by omega));refine⟨⟨us,vs,u,v,g1,g2,a1,c1⟩,fun x H2 y=>?_⟩;obtain⟨p,x',y',rfl,hp,m1,m2,rfl⟩:=y;have k1:=m1 us g1;rw[a1] at k1;cases k1;have k2:=m2 vs g2;rw[c1] at k2;cases k2;obtain⟨R2,s2,p2⟩:=kB R (aa (a2.mono e) (aa (c2.mono e) ax)) hp;refine⟨_,_,?_,R2,s2,p2⟩;rw[tJ,VI (show i<xs.length by omega),VI (show i<ys.length by omega)]
theorem Fz (n l1 l2:Nat) (h1:l1<n) (h2:l2<n):oN (n+4) (n+2) (n+3) n (n+1) [n,l1] [n+1,l2]:=by
 have nat:∀{a b:Nat},a≠b-> @Ne Addr a b:=fun h=>h
 constructor
 ·exact nat (by omega)
 ·exact nat (by omega)
 ·exact nat (by omega)
 all_goals first
  |exact Wg
  |(refine XX (nat (by omega)) (XX (nat (by omega)) VR))
theorem AM {n l:Nat}(h:l<n):@Ne Addr l (n+1):=fun e=>by
 have e':l=n+1:=e;omega
def Bm (b:Bool) (d:D):Option (ZE):=match b,d with
 |true,.tup xs=>some xs
 |false,.lst xs=>some xs
 |_,_=>none
def mZip (b1 b2:Bool) (ma mb:MX):JX:=fun ρ U=>(ma ρ U).bind fun x U1=>(mb ρ U1).bind fun y U2=>ofO U2 ((Bm b1 x).bind fun xs=>(Bm b2 y).map fun ys=>fZ xs ys)
theorem zu {K:Zl}{F:Hp}{O:Zr}{b:Bool}(h:Bm b d=some xs) (r:aG K F O d v):∃a vs,v=.ref a/\zC K b F a vs/\Reps K F O xs vs:=by
 cases b<;>cases d<;>first|(cases h;done)|skip
 ·cases h;unfold aG at r;exact r
 ·cases h;unfold aG at r;exact r
section
variable {X:Cx}{EX:EXT}{a b:Expr}{pos p tpos:Pos}{ma mb:MX}{elts:Zx}{x1:Nat}
theorem Ig (b1 b2:Bool) (hg:Gl X "zip") (hm:X.mg "zip"=none) (ha:ME X EX a ma) (hb:ME X EX b mb) (hs:starEach [a,b] X.env=[(false,eval a X.env),(false,eval b X.env)]:=by rfl) (hs2:starEach [b] X.env=[(false,eval b X.env)]:=by rfl) :
  MI X EX (.Tuple elts x1 tpos) (.Call (.Name "zip" p) [a,b] [] pos) (mZip b1 b2 ma mb):=by
 obtain⟨t,pt,st,lt⟩:=aS ha (aS hb f7 hs2) (by rw[hs,hs2]);refine⟨fun σ H R=>∀pins s,Inv X pins σ H s->wpAny (model X.prog X.w) X.A (eval (.Call (.Name "zip" p) [a,b] [] pos) X.env) (fun v s1=>wpAny (model X.prog X.w) X.A (pyIter v) (Tz X pins σ (.Tuple elts x1 tpos) R) X.xe s1) X.xe s,fun pins s σ H R I h=>h pins s I,fun Z O F H σ ρ U Rr R g pins s I=>?_⟩;have hw:t σ H fun vs H1=>∃x y O1 F1 U1 xs ys,RH X.K Z O1 F1 H1 U1/\Ext O F O1 F1/\Reps X.K F1 O1 [x,y] vs/\Bm b1 x=some xs/\Bm b2 y=some ys/\(∀J O' F' H',RH X.K Z O' F' H' U1->Ext O F O' F'->WalkOk X.K O' F' J (fZ xs ys)->Rr J H'):=by
  refine st Z O F H σ ρ U _ R ?_;unfold mZip at g;unfold a5;cases h1:ma ρ U with
  |exc x U1=>rw[h1] at g;exact g
  |bad=>rw[h1] at g;exact g
  |ok x U1 =>
   rw[h1] at g;simp only[ae] at g ⊢;cases h2:mb ρ U1 with
   |exc x U1=>rw[h2] at g;exact g
   |bad=>rw[h2] at g;exact g
   |ok y U2 =>
    rw[h2] at g;simp only[ae,mNil] at g ⊢;intro vs O1 F1 H1 R1 e1 r1;cases q1:Bm b1 x with
    |none=>rw[q1] at g;exact g.elim
    |some xs =>
     cases q2:Bm b2 y with
     |none=>rw[q1,q2] at g;exact g.elim
     |some ys =>
      rw[q1,q2] at g;exact⟨x,y,O1,F1,U2,xs,ys,R1,e1,r1,q1,q2,g⟩
 refine Call_ (jU I hg hm PyProof.Rows.boot_zip (WE (bP (pt pos pins s σ H _ I hw) fun us s1 ⟨vs,H1,I1,rr,q⟩=>?_) (by rw[hs,hs2]) (by rw[hs2];rfl)));obtain⟨x,y,O1,F1,U1,xs,ys,R1,e1,r1,q1,q2,fin⟩:=q;obtain⟨v,u,rfl,p1,p2⟩:=r1.two;obtain⟨u1,u2,rfl,rv,ru⟩:=q9 rr;obtain⟨l1,v1,rfl,g1,h1⟩:=zu q1 p1;obtain⟨l2,v2,rfl,g2,h2⟩:=zu q2 p2;cases rv;cases ru;obtain⟨w1,k1,z1⟩:=Inv.sqB I1 (g1.mono R1.sub);obtain⟨w2,k2,z2⟩:=Inv.sqB I1 (g2.mono R1.sub);refine callType_new PySem.F.called_zip (by decide) (PySem.F.typeCall_zip_2 _ _) (PySem.F.newCall_zip_2 _ _) (fun obj=>PySem.F.args_object_init_3 obj _ _) PySem.F.entry_zip_new (Du b1 b2 l1 l2 w1.toArray w2.toArray) ⟨z1,z2,?_⟩;have n1:(Rg s1.heap b1 l1).objs.size=s1.heap.objs.size+1:=WS ..;have n2:(TV s1.heap b1 b2 l1 l2).objs.size=s1.heap.objs.size+2:=by rw[WS,n1]
 have n3:(TU s1.heap b1 b2 l1 l2).objs.size=s1.heap.objs.size+3:=by rw[WS,n2]
 have n4:(TR s1.heap b1 b2 l1 l2).objs.size=s1.heap.objs.size+4:=by rw[WS,n3]
 have kp:∀c o,s1.heap.get? c=some o->(K5 s1.heap b1 b2 l1 l2).get? c=some o:=fun c o e=>VH _ (VH _ (VH _ (VH _ (VH _ e))))
 have c5:(K5 s1.heap b1 b2 l1 l2).get? (TR s1.heap b1 b2 l1 l2).objs.size=some _:=VZ _ rfl;have c4:(K5 s1.heap b1 b2 l1 l2).get? (TU s1.heap b1 b2 l1 l2).objs.size=some _:=VH _ (VZ _ rfl);have c3:(K5 s1.heap b1 b2 l1 l2).get? (TV s1.heap b1 b2 l1 l2).objs.size=some _:=VH _ (VH _ (VZ _ rfl));have t2:JY b2 (K5 s1.heap b1 b2 l1 l2) (Rg s1.heap b1 l1).objs.size l2 0:=(uc (h:=Rg s1.heap b1 l1)).kept fun o e=>VH _ (VH _ (VH _ e))
 have t1:JY b1 (K5 s1.heap b1 b2 l1 l2) s1.heap.objs.size l1 0:=(uc (h:=s1.heap)).kept fun o e=>VH _ (VH _ (VH _ (VH _ e)))
 rw[n1] at t2 c3;rw[n2] at c3;rw[n3] at c4;rw[n2,n3,n4] at c5;have a1:=z1.lt;have a2:=z2.lt;show _/\_;rw[n4];refine⟨⟨_,c5,rfl⟩,?_⟩;refine wpAny_pyIter_zip (s:={ s1 with heap:=K5 s1.heap b1 b2 l1 l2}) c5 ?_;have ap:=Fz s1.heap.objs.size l1 l2 a1 a2;have I5:Inv X pins σ H1 { s1 with heap:=K5 s1.heap b1 b2 l1 l2}:=I1.kept (t':=s1.toks) kp;refine⟨s1.heap.objs.size+4,_,_,UZ X.K b1 b2 l1 l2,H1,rfl,I5,Gd ap (W3 a1) (AM a2),⟨_,_,c5,c3,c4,t1,t2⟩,fun b hb=>?_,fin _ O1 F1 H1 R1 e1 (FV g1 h1 g2 h2)⟩;have hb':s1.heap.objs.size<=b:=by
  simp only[Wd,VR,WL] at hb;rcases hb with rfl|rfl|rfl|rfl|rfl
  ·exact XB _ _
  ·exact XB _ _
  ·exact XB _ _
  ·exact VL _
  ·exact XB _ _
 exact I1.fpOk hb' (I1.hok.fresh hb')
end
abbrev TF:=ZE->En->Option En
def gsNil:TF:=fun ds ρ=>match ds with
 |[]=>some ρ
 |_=>none
def cr (g:MG) (gs:TF):TF:=fun ds ρ=>match ds with
 |d::r=>(g d ρ).bind (gs r)
 |[]=>none
def gTupT (gs:TF):MG:=fun d ρ=>match d with
 |.tup ds=>gs ds ρ
 |_=>none
def MTgs (X:Cx) (es:Zx) (n:Nat) (mg:TF):Prop:=∃g:NV,TB X es g/\(∀ds ρ ρ',mg ds ρ=some ρ'->ds.length=n)/\∀Z O F H σ ρ U vs ds ρ' Q,RS X.K Z O F H σ ρ U->Reps X.K F O ds vs->mg ds ρ=some ρ'->(∀σ',RS X.K Z O F H σ' ρ' U->Q σ' H)->g vs σ H Q
section
variable {X:Cx}{EX:EXT}{e a b c:Expr}{pos:Pos}{m ma mb mc:MX}{es:Zx}
theorem mf:MTgs X [] 0 gsNil:=by
 refine⟨T7,KO,fun ds ρ ρ' h=>?_,fun Z O F H σ ρ U vs ds ρ' Q R r h k=>?_⟩
 ·cases ds with
  |nil=>rfl
  |cons _ _=>cases h
 ·cases ds with
  |nil =>
   have:=r.length;cases vs with
   |nil=>cases h;exact⟨rfl,k σ R⟩
   |cons _ _=>simp at this
  |cons _ _=>cases h
theorem eZ (h1:MTg X e g) (h2:MTgs X es n gs) (hs:(assignEach (e::es) X.env).map (·.2)=assign e X.env::(assignEach es X.env).map (·.2):=by rfl):MTgs X (e::es) (n+1) (cr g gs):=by
 obtain⟨t,p,s⟩:=h1;obtain⟨ts,ps,hn,ss⟩:=h2;refine⟨_,H9 p ps hs,fun ds ρ ρ' h=>?_,fun Z O F H σ ρ U vs ds ρ' Q R r h k=>?_⟩
 ·cases ds with
  |nil=>cases h
  |cons d r =>
   simp only[cr,Y2] at h;obtain⟨ρ1,_,h2⟩:=h;simp[hn _ _ _ h2]
 ·cases ds with
  |nil=>cases h
  |cons d dr =>
   simp only[cr,Y2] at h;obtain⟨ρ1,h1,h2⟩:=h;unfold Reps at r;obtain⟨v,vr,rfl,r1,r2⟩:=r;exact⟨v,vr,rfl,s Z O F H σ ρ U v d ρ1 _ R r1 h1 fun σ' R'=>ss Z O F H σ' ρ1 U vr dr ρ' Q R' r2 h2 k⟩
theorem qS (hc:X.calm=true) (h:MTgs X es n gs) (hn:(assignEach es X.env).length=n:=by rfl) (hst:(assignEach es X.env).findIdx? (·.1)=none:=by rfl):MTg X (.Tuple es x1 pos) (gTupT gs):=by
 obtain⟨ts,ps,hl,ss⟩:=h;refine⟨_,P4 hc ps hn hst,fun Z O F H σ ρ U v d ρ' Q R r h k=>?_⟩;cases d with
 |tup ds =>
  unfold aG at r;obtain⟨p,vs,rfl,hs,hr⟩:=r;exact⟨p,vs,rfl,Same.tup R.hp.sub hs,by rw[←hr.length];exact hl _ _ _ h,ss Z O F H σ ρ U vs ds ρ' Q R hr h k⟩
 |_=>cases h
abbrev TD:=En->Mu->Res (Option Int)
def mNoP:TD:=fun _ U=>.ok none U
def mPart (m:MX):TD:=fun ρ U=>(m ρ U).bind fun d U1=>match d with
 |.int i=>.ok (some i) U1
 |_=>.bad
def GO (K:Zl) (EX:EXT) (Z:ZS) (O:Zr) (F:Hp) (Q:Option Int->Hp->Prop):Res (Option Int)->Prop
 |.ok o U=>∀O' F' H',RH K Z O' F' H' U->Ext O F O' F'->Q o H'
 |.exc x U=>EX.P Z x U
 |.bad=>False
theorem GO.step {K:Zl}{Z:ZS}{O:Zr}{f:Option Int->Mu->Res β}{G:Res β->Prop}{Q:Option Int->Hp->Prop}(h:G (r.bind f)) (hx:∀x U,G (.exc x U)->EX.P Z x U) (hb:¬G .bad)
  (hk:∀d U' O' F' H',RH K Z O' F' H' U'->Ext O F O' F'->G (f d U')->Q d H'):GO K EX Z O F Q r:=by
 cases r with
 |ok d U=>exact fun O' F' H' R e=>hk d U O' F' H' R e h
 |exc x U=>exact hx _ _ h
 |bad=>exact hb h
def MPt (X:Cx) (EX:EXT) (o:Option Expr) (mo:TD):Prop:=∃t:TO,PO X o t/\∀Z O F H σ ρ U Q,RS X.K Z O F H σ ρ U->GO X.K EX Z O F Q (mo ρ U)->t σ H Q
theorem Ly:MPt X EX none mNoP:=⟨_,KM,fun Z O F H σ ρ U Q R g=>g O F H R.hp (Ext.refl _ _)⟩
theorem Lx (h:ME X EX e m):MPt X EX (some e) (mPart m):=by
 obtain⟨t,p,s⟩:=h;refine⟨_,KL p,fun Z O F H σ ρ U Q R g=>?_⟩;refine s Z O F H σ ρ U _ R (GE.step (G:=GO X.K EX Z O F Q) g (fun _ _ h=>h) (fun h=>h) fun d U1 v O1 F1 H1 R1 e1 p1 g1=>?_);cases d with
 |int i=>unfold aG at p1;exact⟨i,p1,g1 O1 F1 H1 R1 e1⟩
 |_=>exact g1.elim
def cutD (xs:ZE) (lo hi:Option Int):ZE:=(xs.drop (HT.sIx xs.length 0 lo)).take (HT.sIx xs.length xs.length hi-HT.sIx xs.length 0 lo)
def TY (d:D) (lo hi:Option Int):ZF:=match d with
 |.tup xs=>if HT.sIx xs.length 0 lo=0/\HT.sIx xs.length xs.length hi=xs.length then none else some (.tup (cutD xs lo hi))
 |.lst xs=>some (.lst (cutD xs lo hi))
 |_=>none
def mSl (m:MX) (lo hi:TD):MX:=fun ρ U=>(m ρ U).bind fun d U1=>(lo ρ U1).bind fun l U2=>(hi ρ U2).bind fun h U3=>ofO U3 (TY (ai U3 d) l h)
theorem xF {K:Zl}{F:Hp}{vs:List V}{lo hi:Option Int}(h:Reps K F O ds vs):Reps K F O (cutD ds lo hi) (zh vs lo hi):=by
 unfold cutD zh;rw[h.length];exact Reps.take _ (Reps.drop _ h)
theorem Ii {lo hi:Option Expr}{l h:TD}{p2:Pos}(ha:ME X EX a ma) (hl:MPt X EX lo l) (hh:MPt X EX hi h):ME X EX (.Subscript a (.Slice lo hi none p2) pos) (mSl ma l h):=by
 obtain⟨ta,pa,sa⟩:=ha;obtain⟨tl,pl,sl⟩:=hl;obtain⟨th,ph,sh⟩:=hh;refine⟨_,Hb (NW.or OF Ks) pa pl ph,fun Z O F H σ ρ U Q R g=>?_⟩;refine sa Z O F H σ ρ U _ R (GE.step (G:=GE X.K EX Z O F Q) g (fun _ _ h=>h) (fun h=>h) fun d U1 v O1 F1 H1 R1 e1 p1 g1=>?_);refine sl Z O1 F1 H1 σ ρ U1 _ (R.to R1 e1) (GO.step (G:=GE X.K EX Z O F Q) g1 (fun _ _ h=>h) (fun h=>h) fun l U2 O2 F2 H2 R2 e2 g2=>?_);refine sh Z O2 F2 H2 σ ρ U2 _ (R.to R2 (e1.trans e2)) (GO.step (G:=GE X.K EX Z O F Q) g2 (fun _ _ h=>h) (fun h=>h) fun h U3 O3 F3 H3 R3 e3 g3=>?_);have p3:=R3.pk ((p1.mono e2).mono e3);cases hd:ai U3 d with
 |tup xs =>
  rw[hd] at p3 g3;unfold Pk aG at p3;obtain⟨q,vs,rfl,hs,hr⟩:=p3;simp only[TY] at g3;split at g3
  ·exact g3.elim
  ·rename_i hw;refine .inl ⟨q,vs,rfl,Same.tup R3.sub hs,by rw[←hr.length];exact hw,fun p hp=>?_⟩;obtain⟨a1,a2,a3⟩:=kB R3 (xF (lo:=l) (hi:=h) hr) hp;exact g3 _ _ _ _ a1 (e1.trans (e2.trans (e3.trans ⟨a2,fun _ _ h=>h⟩))) a3
 |lst xs =>
  rw[hd] at p3 g3;obtain⟨q,vs,rfl,hs,hr⟩:=p3;refine .inr ⟨q,vs,rfl,hs,fun p hp=>?_⟩;obtain⟨a1,a2,a3⟩:=j4 R3 (xF (lo:=l) (hi:=h) hr) hp;exact g3 _ _ _ _ a1 (e1.trans (e2.trans (e3.trans ⟨a2,fun _ _ h=>h⟩))) a3
 |_=>rw[hd] at g3;exact g3.elim
def vO:GL:=fun ds=>match ds with
 |[.lst xs]=>some (.lst xs)
 |[.tup xs]=>some (.lst xs)
 |_=>none
theorem Mq:jo X (.type "list") vO:=by
 refine⟨_,wz,fun Z O F H U ds c vs Q R hp hg k=>?_⟩
 match ds,hg with
 |[.lst xs],hg =>
  obtain⟨v,r,rfl,⟨q,us,rfl,hs,hr⟩,hq⟩:=hp;have hq:r=[]:=hq;subst hq;cases hg;refine⟨q,us,rfl,.inl hs,fun p hp=>?_⟩;obtain⟨a1,a2,a3⟩:=j4 R hr hp;exact k _ _ _ a1 a2 a3
 |[.tup xs],hg =>
  obtain⟨v,r,rfl,hv,hq⟩:=hp;have hq:r=[]:=hq;subst hq;unfold Pk aG at hv;obtain⟨q,us,rfl,hs,hr⟩:=hv;cases hg;refine⟨q,us,rfl,.inr (Same.tup R.sub hs),fun p hp=>?_⟩;obtain⟨a1,a2,a3⟩:=j4 R hr hp;exact k _ _ _ a1 a2 a3
def blsOf:ZE->Option (ZD)
 |[]=>some []
 |.bl b::r=>(blsOf r).map (b:: ·)
 |_=>none
def B5:GL:=fun ds=>match ds with
 |[.lst xs]=>(blsOf xs).map fun bs=>.bl (bs.all id)
 |_=>none
def Jc:GL:=fun ds=>match ds with
 |[.lst xs]=>(blsOf xs).map fun bs=>.bl (bs.any id)
 |_=>none
theorem qy {K:Zl}{F:Hp} :∀{ds:ZE}{vs:List V}{bs:ZD},Reps K F O ds vs->blsOf ds=some bs->vs=bs.map V.bl
 |[],vs,bs,h,e=>by
  cases e;have:=h.length;cases vs with
  |nil=>rfl
  |cons _ _=>simp at this
 |d::ds,vs,bs,h,e=>by
  unfold Reps at h;obtain⟨v,vr,rfl,h1,h2⟩:=h;cases d with
  |bl b =>
   simp only[blsOf,WG] at e;obtain⟨br,e1,rfl⟩:=e;unfold aG at h1;rw[h1,qy h2 e1];rfl
  |_=>cases e
theorem q8:∀{bs:ZD}{us:Zt},aW (bs.map V.bl) us->us=bs.map Value.bool
 |[],us,h=>by cases h;rfl
 |b::bs,us,h=>by
  cases h with
  |cons r rr =>
   have r:_=Value.bool b:=r;rw[r,q8 rr];rfl
theorem Kx (bs:ZD):((List.range bs.length).all fun i=>(bs[i]?).getD true)=bs.all id:=by
 induction bs with
 |nil=>rfl
 |cons b r ih=>rw[W1,WY,List.all_cons,List.all_map,List.all_cons,←ih];rfl
theorem Kw (bs:ZD):((List.range bs.length).any fun i=>(bs[i]?).getD false)=bs.any id:=by
 induction bs with
 |nil=>rfl
 |cons b r ih=>rw[W1,WY,WZ,List.any_map,WZ,←ih];rfl
theorem ua {h h':Heap}(hk:∀b x,b∉[h.objs.size]->(h.push o).get? b=some x->h'.get? b=some x) (b:Addr) (x:Obj) (e:h.get? b=some x):h'.get? b=some x:=by
 refine hk b x (fun z=>?_) (VH _ e);have z2:=List.mem_singleton.mp z;have z3:=VM e;rw[z2] at z3;exact absurd z3 (Xm _)
theorem Fm (hc:X.calm=true):gP X (.builtin "all") (fun xs H Q=>∃(p:Addr) (bs:ZD),xs=[.ref p]/\gR X.K H p (bs.map V.bl)/\Q (.bl (bs.all id)) H):=by
 intro pins s σ H xs us Q I r h;obtain⟨p,bs,rfl,hq,q⟩:=h;obtain⟨u,rfl,rx⟩:=kT r;cases rx;obtain⟨its,r',pl,hz⟩:=I.list hq;obtain rfl:=q8 r';have hl:=pl.isList;have hlt:p<s.heap.objs.size:=by obtain⟨_,e,_⟩:=hl;exact VM e
 refine call_all_walk (Xs hl ⟨_,[_,p],[_],_,_,_,fun i=>(bs[i]?).getD true,rfl,Walks.list (A:=X.A.in1) (I.ok.hd hc) _ p (W3 hlt) _,⟨⟨_,VZ _ rfl,rfl,rfl⟩,hl.push _⟩,?_,?_⟩)
 ·intro i v s' Q' E' hP hQ;simp only[X3,Wk,WG] at hP;obtain⟨b,e,rfl⟩:=hP;simp only[e,XC] at hQ;exact WA hQ
 ·intro h' tk hk;rw[VT,VS,Kx];exact⟨.bl _,H,I.kept (t':=tk) (ua hk),rfl,q⟩
theorem Fl (hc:X.calm=true):gP X (.builtin "any") (fun xs H Q=>∃(p:Addr) (bs:ZD),xs=[.ref p]/\gR X.K H p (bs.map V.bl)/\Q (.bl (bs.any id)) H):=by
 intro pins s σ H xs us Q I r h;obtain⟨p,bs,rfl,hq,q⟩:=h;obtain⟨u,rfl,rx⟩:=kT r;cases rx;obtain⟨its,r',pl,hz⟩:=I.list hq;obtain rfl:=q8 r';have hl:=pl.isList;have hlt:p<s.heap.objs.size:=by obtain⟨_,e,_⟩:=hl;exact VM e
 refine call_any_walk (Xs hl ⟨_,[_,p],[_],_,_,_,fun i=>(bs[i]?).getD false,rfl,Walks.list (A:=X.A.in1) (I.ok.hd hc) _ p (W3 hlt) _,⟨⟨_,VZ _ rfl,rfl,rfl⟩,hl.push _⟩,?_,?_⟩)
 ·intro i v s' Q' E' hP hQ;simp only[X3,Wk,WG] at hP;obtain⟨b,e,rfl⟩:=hP;simp only[e,XC] at hQ;exact WA hQ
 ·intro h' tk hk;rw[VT,VS,Kw];exact⟨.bl _,H,I.kept (t':=tk) (ua hk),rfl,q⟩
theorem Jv (hc:X.calm=true):jo X (.builtin "all") B5:=by
 refine⟨_,Fm hc,fun Z O F H U ds c vs Q R hp hg k=>?_⟩
 match ds,hg with
 |[.lst xs],hg =>
  obtain⟨v,r,rfl,⟨q,us,rfl,hs,hr⟩,hq⟩:=hp;have hq:r=[]:=hq;subst hq;simp only[B5,WG] at hg;obtain⟨bs,e,rfl⟩:=hg;exact⟨q,bs,rfl,by rw[←qy hr e];exact hs,k _ F H R (Same.refl _) (fm _)⟩
theorem QH (hc:X.calm=true):jo X (.builtin "any") Jc:=by
 refine⟨_,Fl hc,fun Z O F H U ds c vs Q R hp hg k=>?_⟩
 match ds,hg with
 |[.lst xs],hg =>
  obtain⟨v,r,rfl,⟨q,us,rfl,hs,hr⟩,hq⟩:=hp;have hq:r=[]:=hq;subst hq;simp only[Jc,WG] at hg;obtain⟨bs,e,rfl⟩:=hg;exact⟨q,bs,rfl,by rw[←qy hr e];exact hs,k _ F H R (Same.refl _) (fm _)⟩
end
def J5 (a b x:D):ZF:=match a with
 |.dic ks vs=>(keyD b).map fun k=>(aF ks vs k).getD x
 |_=>none
def CA:D->Bool
 |.dic _ _=>true
 |_=>false
def mDGet2 (m mk mx:MX):MX:=fun ρ U=>(m ρ U).bind fun d U1=>if CA (ai U1 d)=true then(mk ρ U1).bind fun k U2=>(mx ρ U2).bind fun x U3=>ofO U3 (J5 (ai U3 d) k x) else .bad
section
variable {X:Cx}{EX:EXT}{e a b c f:Expr}{pos:Pos}{m ma mb mc:MX}{es:Zx}
theorem vC {K:Zl}{O:Zr}{F:Hp}(h:aG K F O d v) (e:keyD d=some k):v=kV (dk k):=by
 cases d with
 |int i=>cases e;unfold aG at h;exact h
 |str x=>cases e;unfold aG at h;exact h
 |_=>cases e
theorem Il {apos cpos:Pos}(hu:X.A.units+200<cLine) (ha:ME X EX a ma) (hb:ME X EX b mb) (hc:ME X EX c mc) (m2:L2.M2 X a "get" apos b c cpos):ME X EX (.Call (.Attribute a "get" apos) [b,c] [] cpos) (mDGet2 ma mb mc):=by
 obtain⟨ta,pa,sa⟩:=ha;obtain⟨tb,pb,sb⟩:=hb;obtain⟨tc,pc,sc⟩:=hc;refine⟨_,Hi (by omega) pa pb pc m2,fun Z O F H σ ρ U Q R g=>?_⟩;refine sa Z O F H σ ρ U _ R (GE.step (G:=GE X.K EX Z O F Q) g (fun _ _ h=>h) (fun h=>h) fun d U1 v O1 F1 H1 R1 e1 p1 g1=>?_);by_cases hd:CA (ai U1 d)=true
 ·rw[VJ hd] at g1;have k1:=R1.pk p1;cases hq:ai U1 d with
  |dic ks vs =>
   rw[hq] at k1;unfold Pk at k1;obtain⟨q,us,rfl,hs,hl,hr⟩:=k1;refine⟨q,rfl,.inl ⟨_,.inl hs⟩,?_⟩;refine sb Z O1 F1 H1 σ ρ U1 _ (R.to R1 e1) (GE.step (G:=GE X.K EX Z O F Q) g1 (fun _ _ h=>h) (fun h=>h) fun k U2 vk O2 F2 H2 R2 e2 p2 g2=>?_);refine sc Z O2 F2 H2 σ ρ U2 _ (R.to R2 (e1.trans e2)) (GE.step (G:=GE X.K EX Z O F Q) g2 (fun _ _ h=>h) (fun h=>h) fun x U3 vx O3 F3 H3 R3 e3 p3 g3=>?_);have k3:=R3.pk ((p1.mono e2).mono e3);cases hq3:ai U3 d with
   |dic ks3 ds3 =>
    rw[hq3] at k3 g3;unfold Pk at k3;obtain⟨q3,us3,e3',hs3,hl3,hr3⟩:=k3;cases e3';simp only[J5] at g3;cases hk:keyD k with
    |none=>rw[hk] at g3;exact g3.elim
    |some kk =>
     rw[hk] at g3;have hy:=vC p2 hk;subst hy;refine⟨_,jf.k hs3,?_⟩;have g3:GE X.K EX Z O F Q (.ok ((aF ks3 ds3 kk).getD x) U3):=g3;rcases iH (k:=kk) hr3 hl3 with⟨d',v',h1,h2,h3⟩|⟨h1,h2⟩
     ·rw[h1] at g3;rw[h2];exact g3 v' O3 F3 H3 R3 (e1.trans (e2.trans e3)) h3
     ·rw[h1] at g3;rw[h2];exact g3 vx O3 F3 H3 R3 (e1.trans (e2.trans e3)) p3
   |_=>rw[hq3] at g3;exact g3.elim
  |_=>rw[hq] at hd;cases hd
 ·rw[VN hd] at g1;exact g1.elim
def wT (w:World) (K:Zl) (mg:Zn) (x:Str) (ks:List DK) (ds:ZE):Prop :=
 ∃p us vs,mg x=some (.ref p)/\(p==sysModules)=false/\(∀(P:Program) (h:Heap),K.In h->h.DictOf (mixKind P w) p us)/\KV ((ks.map dk).zip vs) us/\ks.length=ds.length/\∀F O,Reps K F O ds vs
variable {x:Str}{ks:List DK}{ds:ZE}
theorem Io (c:wT X.w X.K X.mg x ks ds) (hg:Gl X x) (hb:ME X EX b mb) (hs:MK b) (hd:(x==("__debug__":Str))=false:=by decide):ME X EX (.Subscript (.Name x p) b pos) (a6 gDGet (mC (.dic ks ds)) mb):=by
 obtain⟨q,us,vs,h1,h2,h3,h4,h5,h6⟩:=c;obtain⟨tb,pb,sb⟩:=hb;refine⟨fun σ H Q=>tb σ H fun y H1=>∃k v,y=kV k/\gQ ((ks.map dk).zip vs) k=some v/\Q v H1,fun pins s σ H Q I h=>?_,fun Z O F H σ ρ U Q R g=>?_⟩
 ·refine Bz PySem.F.slot_dict_getitem.lookup hs (gc I hg h1 (bP (pb pins s σ H _ I h) fun iv s2 ⟨y,H2,I2,ry,k,v,ey,hv,q2⟩=>?_) hd);have dd:=h3 X.prog _ I2.kIn;refine⟨dd.typeIs,?_⟩;subst ey;obtain⟨w',hw,rw'⟩:=kx.some_of (v:=v) (o:=valueAt us k) (by rw[←hv];exact h4.val k);exact wpAny_getItem_of (jk ry) dd.mapOf hw ⟨v,H2,I2.tok _,rw',q2⟩
 ·refine sb Z O F H σ ρ U _ R (GE.step (G:=GE X.K EX Z O F Q) (show GE X.K EX Z O F Q ((mb ρ U).bind fun d U1=>ofO U1 (gDGet (ai U1 (.dic ks ds)) (ai U1 d))) from g) (fun _ _ h=>h) (fun h=>h) fun d U1 v O1 F1 H1 R1 e1 p1 g1=>?_);simp only[fB,gDGet] at g1;cases hk:keyD (ai U1 d) with
  |none=>rw[hk] at g1;exact g1.elim
  |some kk =>
   rw[hk] at g1;have hy:=vD (R1.pk p1) hk;rcases iH (k:=kk) (h6 F1 O1) h5 with⟨d',v',l1,l2,l3⟩|⟨l1,l2⟩
   ·have g1:GE X.K EX Z O F Q (ofO U1 (aF ks ds kk)):=g1;rw[l1] at g1;exact⟨_,v',hy,l2,g1 v' O1 F1 H1 R1 e1 l3⟩
   ·have g1:GE X.K EX Z O F Q (ofO U1 (aF ks ds kk)):=g1;rw[l1] at g1;exact g1.elim
def RE (neg:Bool) (kvs:List (Key×V)) (ta:TE):TE:=fun σ H Q=>ta σ H fun y H1=>∃k,y=kV k/\Q (.bl (if neg then !(gQ kvs k).isSome else(gQ kvs k).isSome)) H1
theorem J2 (h5:ks.length=ds.length) (h6:∀F O,Reps X.K F O ds vs) (sa:eu X EX ta ma):eu X EX (RE neg ((ks.map dk).zip vs) ta) (a6 (gi neg) ma (mC (.dic ks ds))):=by
 intro Z O F H σ ρ U Q R g;refine sa Z O F H σ ρ U _ R (GE.step (G:=GE X.K EX Z O F Q) (show GE X.K EX Z O F Q ((ma ρ U).bind fun d U1=>ofO U1 (gi neg (ai U1 d) (ai U1 (.dic ks ds)))) from g) (fun _ _ h=>h) (fun h=>h) fun d U1 v O1 F1 H1 R1 e1 p1 g1=>?_);simp only[fB,gi] at g1;cases hk:keyD (ai U1 d) with
 |none=>rw[hk] at g1;exact g1.elim
 |some kk =>
  rw[hk] at g1;have hy:=vD (R1.pk p1) hk;refine⟨_,hy,?_⟩;have g1:GE X.K EX Z O F Q (.ok (.bl (if neg=true then !(aF ks ds kk).isSome else(aF ks ds kk).isSome)) U1):=g1;rcases iH (k:=kk) (h6 F1 O1) h5 with⟨d',v',l1,l2,l3⟩|⟨l1,l2⟩
  ·rw[l1] at g1;rw[l2];exact g1 _ O1 F1 H1 R1 e1 (fm _)
  ·rw[l1] at g1;rw[l2];exact g1 _ O1 F1 H1 R1 e1 (fm _)
theorem KW (h1:X.mg x=some (.ref q)) (h2:(q==sysModules)=false) (h3:∀(P:Program) (h:Heap),X.K.In h->h.DictOf (mixKind P X.w) q us) (h4:KV ((ks.map dk).zip vs) us) (hg:Gl X x) (hd:(x==("__debug__":Str))=false)
  (pa:PE X a ta):PC X .NotIn a (.Name x p) (RE true ((ks.map dk).zip vs) ta):=by
 intro pins s σ H Q I h;refine bP (pa pins s σ H _ I h) fun iv s1 ⟨y,H1,I1,ry,k,ey,q1⟩=>gc I1 hg h1 ?_ hd
 subst ey;have dd:=h3 X.prog _ I1.kIn;refine wpAny_notIn_of (jk ry) h2 dd.mapOf ?_;rw[←(h4.val k).isSome_eq];exact⟨.bl (!(gQ ((ks.map dk).zip vs) k).isSome),H1,I1.tok _,rfl,q1⟩
theorem AO (c:wT X.w X.K X.mg x ks ds) (hg:Gl X x) (ha:ME X EX a ma) (hd:(x==("__debug__":Str))=false:=by decide):MT X EX (.Compare a [.NotIn] [.Name x p] pos) (a9 (a6 (gi true) ma (mC (.dic ks ds)))):=by
 obtain⟨q,us,vs,h1,h2,h3,h4,h5,h6⟩:=c;obtain⟨ta,pa,sa⟩:=ha;exact⟨_,qA (KW h1 h2 h3 h4 hg hd pa) rfl,fw (J2 h5 h6 sa)⟩
structure Cb (X:Cx) (N G:Zv):Prop where
 hN:X.N=N
 nd:N.Nodup
 vis:∀x∈N,MH X.env.scope x/\(x==("__debug__":Str))=false/\(x==("__classdict__":Str))=false
 gl:∀x∈G,Gl X x
 calm:X.calm=true
 un:X.A.units+200<cLine
 kn:X.kn=none
end
section
variable {X:Cx}{EX:EXT}{N G:Zv}
theorem Cb.at (C:Cb X N G) {i:Nat}(h:N[i]? =some x):X.N[i]? =some x:=by rw[C.hN];exact h
theorem Cb.ndX (C:Cb X N G):X.nd:=⟨by rw[C.hN];exact C.nd,C.kn⟩
theorem Cb.g (C:Cb X N G) (j:Nat) (h:G[j]? =some x):Gl X x:=C.gl x (cU h)
theorem svb (C:Cb X N G) (i:Nat) (h:N[i]? =some x):ME X EX (.Name x pos) (a4 i) :=
 AR (C.at h) (C.vis x (cU h)).1 (C.vis x (cU h)).2.1 (C.vis x (cU h)).2.2
theorem stb (C:Cb X N G) (i:Nat) (h:N[i]? =some x) (hl:X.env.scope.names.lookup x=some .local):MTg X (.Name x pos) (gN i):=Cg C.ndX (C.at h) (.inl hl) (.inr hl)
theorem lb (hk:k≠.free) (h:scope.names.lookup x=some k):(relabel scope env).names.lookup x=some k:=by
 unfold relabel;generalize scope.names=l at h;simp only
 induction l with
 |nil=>cases h
 |cons p r ih =>
  obtain⟨n,q⟩:=p;rw[Wc] at h;simp only[VW];by_cases e:(x==n)=true
  ·rw[e] at h;cases h;rw[VN (by simp[hk]),Wc,e]
  ·have e':(x==n)=false:=by simpa using e
   rw[e'] at h;have:=ih h;split
   ·rw[Wc,e'];exact this
   ·rw[Wc,e'];exact this
def kr (sc:Scope) (T caps G:Zv):Bool:=T.all (fun x=>sc.names.lookup x==some .local&&!(x==("__debug__":Str))&&!(x==("__classdict__":Str)))&&caps.all (fun x=>sc.names.lookup x==some .free&&!(x==("__debug__":Str))&&!(x==("__classdict__":Str)))&&G.all fun x=>sc.names.lookup x==some .globalImplicit
def gO (sc out:Scope):Bool:=sc.kind==.function&&sc.names.all fun y=>(match y.2 with
 |.cell=>false
 |.local=>sc.names.lookup y.1==some .local
 |.free=>out.names.lookup y.1==some .cell||out.names.lookup y.1==some .free
 | _=>true)
theorem b9 (h:gO scope env.scope=true):cQ scope env:=by
 unfold gO at h;rw[W0] at h;have hk:=h.1;have ha:=List.all_eq_true.mp h.2;refine⟨by simpa using hk,fun y hy e=>?_,fun y hy e=>?_,fun y hy e=>?_⟩
 ·have:=ha y hy;rw[e] at this;cases this
 ·have:=ha y hy;rw[e] at this;simpa using this
 ·have:=ha y hy;rw[e] at this;simpa[Env.kindOf] using this
def NO (sc:Scope) (N caps:Zv) (ix:Zu):Bool:=ix.length==caps.length&&(caps.zip ix).all fun p=>N[p.2]? == some p.1&&sc.names.lookup p.1==some .free
theorem dU (hN:X.N=N) (h:NO scope N caps ix=true):Br X scope T caps ix:=by
 unfold NO at h;rw[W0] at h;refine⟨by simpa using h.1,fun j x i e1 e2=>?_⟩;have hm:(x,i)∈caps.zip ix:=by
  refine WF (i:=j) ?_;rw[List.getElem?_zip_eq_some];exact⟨e1,e2⟩
 have:=List.all_eq_true.mp h.2 (x,i) hm;simp only[W0,Xz] at this;rw[hN];exact this
theorem iT (hc:X.calm=true) (hu:X.A.units+200<cLine) (nd:(T++caps).Nodup) (h:kr scope T caps G=true):Cb (fV X (T++caps) scope C s H ex) (T++caps) G:=by
 unfold kr at h;rw[W0,W0] at h;refine⟨rfl,nd,fun x hx=>?_,fun x hx=>?_,hc,hu,rfl⟩
 ·rcases List.mem_append.mp hx with hx|hx
  ·have:=List.all_eq_true.mp h.1.1 x hx;simp only[W0,Xz,Xw] at this;exact⟨.inl (lb (by decide) this.1.1),this.1.2,this.2⟩
  ·have:=List.all_eq_true.mp h.1.2 x hx;simp only[W0,Xz,Xw] at this;exact⟨.inr (m5 this.1.1),this.1.2,this.2⟩
 ·have:=List.all_eq_true.mp h.2 x hx;exact lb (by decide) (by simpa using this)
theorem cG (h:kr scope T caps G=true) {j:Nat}{x:Str}(e:T[j]? =some x):(relabel scope env).names.lookup x=some .local:=by
 unfold kr at h;rw[W0,W0] at h;have:=List.all_eq_true.mp h.1.1 x (cU e);simp only[W0,Xz,Xw] at this;exact lb (by decide) this.1.1
theorem Vt (C:Ct X N G) (i:Nat) (h:N[i]? =some x) (cs:cQ scope X.env) (cp:Br X scope T caps ix) (hcalm:X.calm=true) (hi:MI X EX tg iter mi)
  (hb:TQ X scope (T++caps) tg ifs elt g t m) (hsw:swapsWith (.ListComp elt [⟨tg,iter,ifs,0⟩] scope pos) (some (.Name x pos')) spos.line X.env=pure true:=by rfl) (hs:∀x,foldedSetIterable iter X.env x=pure x:=by intro _;rfl) (hk:X.kn=none:=by rfl) :
  MS X EX (.Assign [.Name x pos'] (.ListComp elt [⟨tg,iter,ifs,0⟩] scope pos) spos) (mSet i (b7 T.length ix g mi t m)) :=
 Lu ⟨C.ndX,hk⟩ (C.at h) (C.loc x (cU h)).1 (.inl (C.fn x)) cs cp hcalm hi hb hsw hs
end
theorem cq {K:Zl}{p:Addr}{od:Zw}{its:ZB}{n:Nat}(l:K.lookup p=some ⟨.type "tuple",od,.seq its n,sl⟩) (hz:its.size<=16777216) (hv:aW vs its.toList) (hr:Reps K F O ds vs):aG K F O (.tup ds) (.ref p):=by
 unfold aG;exact⟨p,vs,rfl,.inr ⟨_,its,n,l,rfl,rfl,by rw[Wb];exact hz,hv⟩,hr⟩
def Qv (pr:Params) (x:Zu×Nat×Addr):DictEntry:=⟨PyData.keyHash pr ⟨x.1.toArray⟩,.str ⟨x.1.toArray⟩ x.2.1,.ref x.2.2⟩
theorem Ih {w:World}{xs:List (Zu×Nat×Addr)}(h:e∈xs.map (Qv w.params)) (P:Program):∃k,(mixKind P w).is k e.key=true/\e.hash=(mixKind P w).hash k:=by
 obtain⟨x,_,rfl⟩:=List.mem_map.mp h;exact⟨.inr ⟨x.1.toArray⟩,jk (P:=P) (w:=w) (k:=.inr ⟨x.1.toArray⟩) (u:=.str ⟨x.1.toArray⟩ x.2.1) ⟨x.2.1,rfl⟩,rfl⟩
theorem qF (P:Program):∀xs:List (Zu×Nat×Addr),Pairs (mixKind P w) (xs.map (Qv w.params)) (xs.map fun x=>((Sum.inr ⟨x.1.toArray⟩:Key),Value.ref x.2.2))
 |[]=>.nil
 |x::xs=>.cons (jk (P:=P) (w:=w) (k:=.inr ⟨x.1.toArray⟩) (u:=.str ⟨x.1.toArray⟩ x.2.1) ⟨x.2.1,rfl⟩) rfl (qF P xs)
theorem Cq:∀xs:List (Zu×Nat×Addr),KV (((xs.map fun x=>(.inr x.1:DK)).map dk).zip (xs.map fun x=>V.ref x.2.2)) (xs.map fun x=>((Sum.inr ⟨x.1.toArray⟩:Key),Value.ref x.2.2))
 |[]=>.nil
 |x::xs=>.cons ⟨rfl,rfl⟩ (Cq xs)
theorem qO:∀{xs:List (Zu×Nat×Addr)},(xs.map (·.1)).Nodup->((xs.map fun x=>((Sum.inr ⟨x.1.toArray⟩:Key),Value.ref x.2.2)).map (·.1)).Nodup
 |[],_=>List.nodup_nil
 |x::xs,h=>by
  rw[VW,Ys] at h;rw[VW,VW,Ys];refine⟨fun z=>h.1 ?_,qO h.2⟩;rw[Xj] at z;obtain⟨y,hy,e⟩:=List.mem_map.mp z;have e2:(⟨y.1.toArray⟩:Str)=⟨x.1.toArray⟩:=Sum.inr.inj e;have e3:y.1.toArray=x.1.toArray:=by injection e2
  have e4:y.1=x.1:=by simpa using congrArg Array.toList e3
  exact List.mem_map.mpr ⟨y,hy,e4⟩
theorem Mj {w:World}{K:Zl}{mg:Zn}{h:Heap}(xs:List (Zu×Nat×Addr)) (KX:K.In h) (G:h.Ns mainGlobals mg)
  (a:PySem.W.nsIn K mainGlobals x=some (some (.ref p))) (l:K.lookup p=some ⟨.type "dict",none,.dict (xs.map (Qv w.params)).toArray ep,#[]⟩) (hp:(p==sysModules)=false) (nd:(xs.map (·.1)).Nodup)
  (hl:xs.length=ds.length) (hr:∀F O,Reps K F O ds (xs.map fun x=>V.ref x.2.2)):wT w K mg x (xs.map fun x=>.inr x.1) ds:=by
 refine⟨p,_,_,WQ KX G a,hp,fun P h' k'=>?_,Cq xs,by simpa using hl,hr⟩;exact⟨_,_,_,k' p _ l,⟨rfl,rfl,rfl⟩,rfl,fun e he=>Ih (by simpa using he) P,by simpa using qF P xs,qO nd⟩
variable {ρ:En}{U U1 U2:Mu}{m ma mb mc:MX}{ms:l7}{t u:MB}{n a b r:bD}{d x y z:D}{ds:ZE}{k:Bool}{φ:Fn}{g:G2}{o:Out}
theorem bz (i:Nat) (h:ρ[i]? =some (some d)):a4 i ρ U=.ok d U:=by unfold a4;rw[h]
theorem ac (ha:ma ρ U=.ok x U1) (hb:mb ρ U1=.ok y U2) (hg:g (ai U2 x) (ai U2 y)=some z):a6 g ma mb ρ U=.ok z U2:=by unfold a6;rw[ha,ae,hb,ae,hg];rfl
theorem am:mNil ρ U=.ok [] U:=rfl
theorem a7 (ha:m ρ U=.ok d U1) (hb:ms ρ U1=.ok ds U2):a5 m ms ρ U=.ok (d::ds) U2:=by rw[o8,ha,ae,kH,hb,ae,kG]
theorem cY (h:ms ρ U=.ok ds U1):mTup ms ρ U=.ok (.tup ds) U1:=by unfold mTup;rw[h];rfl
theorem tq (h:ms ρ U=.ok ds U1):mLst ms ρ U=.ok (.lst ds) U1:=by unfold mLst;rw[h];rfl
theorem G9 (h:ms ρ U=.ok ds U1):mDic ks ms ρ U=.ok (.dic ks ds) U1:=by unfold mDic;rw[h];rfl
theorem aj (h:ms ρ U=.ok ds U1) (hf:φ ds U1=.ok d U2):mCall φ ms ρ U=.ok d U2:=by unfold mCall;rw[h,ae,hf];rfl
theorem bh {g:GL}(h:ms ρ U=.ok ds U1) (hf:g (ds.map (ai U1))=some d):mCallB g ms ρ U=.ok d U1:=by unfold mCallB;rw[h,ae,hf];rfl
theorem aC (h:m ρ U=.ok (.bl k) U1):a9 m ρ U=.ok k U1:=by unfold a9;rw[h];rfl
theorem gX (h:m ρ U=.ok d U1) (ht:nh (ai U1 d)=some k):mTru m ρ U=.ok k U1:=by unfold mTru;rw[h,ae,ht];rfl
theorem qa (h:t ρ U=.ok k U1):mNot t ρ U=.ok (!k) U1:=by unfold mNot;rw[h];rfl
theorem dy (h:t ρ U=.ok true U1):mAnd t u ρ U=u ρ U1:=by unfold mAnd;rw[h];rfl
theorem dZ (h:t ρ U=.ok false U1):mAnd t u ρ U=.ok false U1:=by unfold mAnd;rw[h];rfl
theorem tm (h:t ρ U=.ok false U1):mOr t u ρ U=u ρ U1:=by unfold mOr;rw[h];rfl
theorem gZ (h:ma ρ U=.ok (.bl true) U1):mAndV ma mb ρ U=mb ρ U1:=by unfold mAndV;rw[h];rfl
theorem uH (h:ma ρ U=.ok (.bl false) U1):mAndV ma mb ρ U=.ok (.bl false) U1:=by unfold mAndV;rw[h];rfl
theorem Ob (h:ma ρ U=.ok (.bl true) U1):mOrV ma mb ρ U=.ok (.bl true) U1:=by unfold mOrV;rw[h];rfl
theorem G6 (h:ma ρ U=.ok (.bl false) U1):mOrV ma mb ρ U=mb ρ U1:=by unfold mOrV;rw[h];rfl
theorem iy (h:t ρ U=.ok true U1):mIf t ma mb ρ U=ma ρ U1:=by unfold mIf;rw[h];rfl
theorem jh (h:t ρ U=.ok false U1):mIf t ma mb ρ U=mb ρ U1:=by unfold mIf;rw[h];rfl
theorem bv (h:m ρ U=.ok d U1):av m ρ U=.ok (.rt d) U1:=by unfold av;rw[h];rfl
theorem ar (i:Nat) (h:m ρ U=.ok d U1):ag (mSet i m) r ρ U=r (ρ.set i (some d)) U1:=by unfold ag mSet;rw[h];rfl
theorem bw (h:t ρ U=.ok true U1):mIte t a b ρ U=a ρ U1:=by unfold mIte;rw[h];rfl
theorem aT (h:t ρ U=.ok false U1):mIte t a b ρ U=b ρ U1:=by unfold mIte;rw[h];rfl
theorem b8 (h:n ρ U=.ok (.nx ρ1) U1):ag n r ρ U=r ρ1 U1:=by unfold ag;rw[h];rfl
theorem l9 (h:n ρ U=.ok (.rt d) U1):ag n r ρ U=.ok (.rt d) U1:=by unfold ag;rw[h];rfl
theorem a8 (h:t ρ U=.ok false U1):ag (mIte t a mSkip) r ρ U=r ρ U1:=b8 (aT h)
theorem aN (h:t ρ U=.ok true U1) (hm:m ρ U1=.ok d U2):ag (mIte t (av m) b) r ρ U=.ok (.rt d) U2:=l9 ((bw h).trans (bv hm))
theorem aP (j:Nat) (h:n (ds.map some++List.replicate j none) U=.ok (.rt d) U1):fnOf j n ds U=.ok d U1:=by rw[lC,h];rfl
theorem Of (i:Nat) (h:n (ρ.set i (some d)) U=.ok (.nx ρ1) U1):forGo (gN i) n (d::ds) ρ U=forGo (gN i) n ds ρ1 U1:=by rw[gB,h];rfl
theorem G8 (i:Nat) (h:n (ρ.set i (some d)) U=.ok (.rt x) U1):forGo (gN i) n (d::ds) ρ U=.ok (.rt x) U1:=by rw[gB,h];rfl
theorem Kf (h:ma ρ U=.ok (.bl k) U) (h2:mb ρ U=.ok (.bl k2) U):mAndV ma mb ρ U=.ok (.bl (k&&k2)) U:=by
 cases k
 ·exact uH h
 ·rw[gZ h,h2];rfl
theorem Od (h:ma ρ U=.ok (.bl k) U) (h2:mb ρ U=.ok (.bl k2) U):mOrV ma mb ρ U=.ok (.bl (k||k2)) U:=by
 cases k
 ·rw[G6 h,h2];rfl
 ·exact Ob h
theorem G5 {n:Nat}(h:ms ρ U=.ok L U) (hi:m ρ U=.ok (.int i) U) (hl:L.length=n) (h0:0<n):∃d∈L,a6 gIdx (mLst ms) (a6 bL m (mC (.int n))) ρ U=.ok d U:=by
 have h1:a6 bL m (mC (.int n)) ρ U=.ok (.int (i % n)) U:=ac hi rfl (cS i n (by omega));have hk:(i % n).toNat<L.length:=by
  have a1:=Ws i (b:=(n:Int)) (by omega);have a2:=Wz i (b:=(n:Int)) (by omega);omega
 refine⟨L[(i % n).toNat],YW hk,ac (tq h) h1 ?_⟩;show atI L (i % n)=_;rw[jb (Ws _ (by omega)),VI hk]
end M
namespace M
open PySem PySem.Spec PyProof.Rows L2
theorem rJ (h:(l++[x])[k]? =some y):l[k]? =some y\/(k=l.length/\y=x):=by
 by_cases hk:k<l.length
 ·rw[Wv hk] at h;exact .inl h
 ·rw[VQ (by omega)] at h;have:k-l.length=0:=by
   cases e:k-l.length with
   |zero=>rfl
   |succ n=>rw[e] at h;simp at h
  rw[this] at h;simp at h;exact .inr ⟨by omega,h.symm⟩
theorem cP (O:Zr) (F:Hp) (p:Addr):Ext O F (O++[p]) F:=⟨Same.refl F,fun k a h=>by
 have:k<O.length:=by
  by_cases hk:k<O.length
  ·exact hk
  ·rw[Xp (by omega)] at h;cases h
 rw[Wv this];exact h⟩
section
variable {K:Zl}{Z:ZS}{F H:Hp}{O:Zr}{U:Mu}{p:Addr}{o o':HO}{c:Cell}
theorem fX.mono (h:fX K O F H a c) (e:Ext O F O' F) (hh:c≠.dead->H' a=H a):fX K O' F H' a c:=by
 exact h.go e (fun _=>rfl) hh
theorem RH.unholdC (r:RH K (ZS.up Z p o) O F H U) (hz:Z.z p=none) (hok:fX K (O++[p]) F (b6 H p o') p c):RH K Z (O++[p]) F (b6 H p o') (U++[c]):=by
 have fp:F p=none:=r.zf p o dI;have nc:∀(k:Nat) (a:Addr) (c:Cell),O[k]? =some a->U[k]? =some c->c≠.dead->a≠p:=fun k a c ha hc hd z=>by
  have:=r.zc k a c ha hc hd;rw[z,dI] at this;cases this
 have hlen:=r.len;have both:∀(k:Nat) (a:Addr) (c':Cell),(O++[p])[k]? =some a->(U++[c])[k]? =some c'->(O[k]? =some a/\U[k]? =some c')\/(k=O.length/\a=p/\c'=c):=fun k a c' ha hc=>by
  rcases rJ ha with h1|⟨h1,h2⟩
  ·rcases rJ hc with h3|⟨h3,h4⟩
   ·exact .inl ⟨h1,h3⟩
   ·have:k<O.length:=(List.getElem?_eq_some_iff.mp h1).1;omega
  ·rcases rJ hc with h3|⟨h3,h4⟩
   ·have:k<U.length:=(List.getElem?_eq_some_iff.mp h3).1;omega
   ·exact .inr ⟨h1,h2,h4⟩
 refine⟨fun b u e=>?_,by simp[hlen],fun k a c' ha hc=>?_,fun b u e=>?_,fun b u e=>?_,fun k a c' ha hc hd=>?_,fun j k a c1 c2 hj hk cj ck d1 d2=>?_,r.ext.trans (cP O F p)⟩
 ·rw[ak (fun z=>by rw[z,fp] at e;cases e)];exact r.sub b u e
 ·rcases both k a c' ha hc with⟨h1,h2⟩|⟨h1,h2,h3⟩
  ·exact(r.cell k a c' h1 h2).mono (cP O F p) fun hd=>by rw[ak (nc k a c' h1 h2 hd)]
  ·rw[h2,h3];exact hok
 ·have hb:b≠p:=fun z=>by rw[z,hz] at e;cases e
  rw[ak hb];exact r.zs b u (by rw[fJ hb];exact e)
 ·have hb:b≠p:=fun z=>by rw[z,hz] at e;cases e
  exact r.zf b u (by rw[fJ hb];exact e)
 ·rcases both k a c' ha hc with⟨h1,h2⟩|⟨h1,h2,h3⟩
  ·have:=r.zc k a c' h1 h2 hd;rw[fJ (nc k a c' h1 h2 hd)] at this;exact this
  ·rw[h2];exact hz
 ·rcases both j a c1 hj cj with⟨h1,h2⟩|⟨h1,h2,h3⟩
  ·rcases both k a c2 hk ck with⟨g1,g2⟩|⟨g1,g2,g3⟩
   ·exact r.dis j k a c1 c2 h1 g1 h2 g2 d1 d2
   ·exact absurd g2 (nc j a c1 h1 h2 d1)
  ·rcases both k a c2 hk ck with⟨g1,g2⟩|⟨g1,g2,g3⟩
   ·exact absurd h2 (nc k a c2 g1 g2 d2)
   ·omega
theorem uI (H:Hp) (p:Addr) (o o':HO):b6 (b6 H p o) p o'=b6 H p o':=by
 funext b
 by_cases hb:b=p
 ·subst hb;rw[aw,aw]
 ·rw[ak hb,ak hb,ak hb]
theorem RH.newCell (r:RH K Z O F H U) (hp:H p=none) (hok:fX K (O++[p]) F (b6 H p o') p c):RH K Z (O++[p]) F (b6 H p o') (U++[c]):=by
 have hz:Z.z p=none:=by
  cases e:Z.z p with
  |none=>rfl
  |some u=>rw[r.zs _ _ e] at hp;cases hp
 have:=RH.unholdC (o:=o') (o':=o') (r.hold o' hp) hz (by rw[uI];exact hok);rw[uI] at this;exact this
theorem CM (r:RH K Z O F H U) (hp:H p=none):F p=none:=by
 cases e:F p with
 |none=>rfl
 |some u=>rw[r.sub _ _ e] at hp;cases hp
theorem Cf (r:RH K Z O F H U) (hr:Reps K F O ds vs) (hp:H p=none) :
  RH K Z (O++[p]) F (b6 H p (.lst vs)) (U++[.lst ds])/\Ext O F (O++[p]) F/\aG K F (O++[p]) (.ref U.length) (.ref p):=by
 refine⟨r.newCell hp ⟨CM r hp,vs,aw,hr.mono (cP O F p)⟩,cP O F p,?_⟩;unfold aG;exact⟨p,by rw[←r.len,VQ (VL _)];simp,rfl⟩
theorem RH.setCell (r:RH K Z O F H U) (ha:O[k]? =some a) (hc:U[k]? =some c0) (hd:c0≠.dead) (hok:fX K O F (b6 H a o) a c):RH K Z O F (b6 H a o) (U.set k c):=by
 have hF:F a=none:=by
  exact((r.cell k a c0 ha hc).live hd).1
 have hZ:Z.z a=none:=r.zc k a c0 ha hc hd;have hk:k<U.length:=(List.getElem?_eq_some_iff.mp hc).1;have at':∀(j:Nat) (c':Cell),(U.set k c)[j]? =some c'->(j=k/\c'=c)\/(j≠k/\U[j]? =some c'):=fun j c' h=>by
  by_cases e:j=k
  ·subst e;rw[Wi hk] at h;exact .inl ⟨rfl,(Option.some.inj h).symm⟩
  ·rw[Wp (Wr e)] at h;exact .inr ⟨e,h⟩
 refine⟨fun b u e=>?_,by simp[r.len],fun j b c' hj hc'=>?_,fun b u e=>?_,r.zf,fun j b c' hj hc' d'=>?_,fun i j b c1 c2 hi hj ci cj d1 d2=>?_,r.ext⟩
 ·rw[ak (fun z=>by rw[z,hF] at e;cases e)];exact r.sub b u e
 ·rcases at' j c' hc' with⟨e1,e2⟩|⟨e1,e2⟩
  ·subst e1;rw[ha] at hj;cases hj;rw[e2];exact hok
  ·refine(r.cell j b c' hj e2).mono (Ext.refl _ _) fun d'=>?_
   rw[ak (fun z=>e1 (r.dis j k a c' c0 (by rw[←z];exact hj) ha e2 hc d' hd))]
 ·rw[ak (fun z=>by rw[z,hZ] at e;cases e)];exact r.zs b u e
 ·rcases at' j c' hc' with⟨e1,e2⟩|⟨e1,e2⟩
  ·subst e1;rw[ha] at hj;cases hj;exact hZ
  ·exact r.zc j b c' hj e2 d'
 ·rcases at' i c1 ci with⟨e1,e2⟩|⟨e1,e2⟩
  ·rcases at' j c2 cj with⟨g1,g2⟩|⟨g1,g2⟩
   ·omega
   ·subst e1;exact r.dis i j b c0 c2 hi hj hc g2 hd d2
  ·rcases at' j c2 cj with⟨g1,g2⟩|⟨g1,g2⟩
   ·subst g1;exact r.dis i j b c1 c0 hi hj e2 hc d1 hd
   ·exact r.dis i j b c1 c2 hi hj e2 g2 d1 d2
end
def mLstC (ms:l7):MX:=fun ρ U=>(ms ρ U).bind fun ds U1=>.ok (.ref U1.length) (U1++[.lst ds])
section
variable {X:Cx}{EX:EXT}{e a b c:Expr}{pos:Pos}{m ma mb mc:MX}{es:Zx}{ms:l7}
theorem LH (h:MA X EX es ms) (hl:es.length<=16777216:=by decide):ME X EX (.List es pos) (mLstC ms):=by
 obtain⟨t,p,s,l⟩:=h;refine⟨_,Ax p,fun Z O F H σ ρ U Q R g=>?_⟩;refine s Z O F H σ ρ U _ R (GA.stepE (G:=GE X.K EX Z O F Q) g (fun _ _ h=>h) (fun h=>h) fun ds U1 vs O1 F1 H1 hm R1 e1 p1 g1=>?_);refine⟨by rw[←p1.length,Wb,l _ _ _ _ hm];exact hl,fun q hq=>?_⟩;obtain⟨a1,a2,a3⟩:=Cf R1 p1 hq;exact g1 _ _ _ _ a1 (e1.trans a2) a3
end
def Cz:D->Bool
 |.lst _=>true
 |_=>false
def JL (d y:D) (U:Mu):Res D:=match d with
 |.ref k=>match U[k]? with
  |some (.lst ds)=>if ds.length<16777216 then .ok .non (U.set k (.lst (ds++[y]))) else .bad
  |_=>.bad
 |_=>.bad
def mAppend (mo m:MX):MX:=fun ρ U=>(mo ρ U).bind fun d U1=>if Cz (ai U1 d)=true then(m ρ U1).bind fun y U2=>JL d y U2 else .bad
def Af (ρ:En) (d i v:D) (U:Mu):Res Out:=match d,i with
 |.ref k,.int j=>match U[k]? with
  |some (.lst ds)=>match FF ds.length j with
   |some n=>.ok (.nx ρ) (U.set k (.lst (ds.set n v)))
   |none=>.bad
  |_=>.bad
 |_,_=>.bad
def mStore (mo mi mv:MX):bD:=fun ρ U=>(mv ρ U).bind fun v U1=>(mo ρ U1).bind fun d U2=>(mi ρ U2).bind fun i U3=>Af ρ d i v U3
def eW (ks:List DK) (vs:ZE) (q:DK) (v:D):ZE:=List.zipWith (fun k w=>if k=q then v else w) ks vs
def uT (ρ:En) (d i v:D) (U:Mu):Res Out:=match d with
 |.ref k=>match U[k]?,keyD i with
  |some (.dic ks vs),some q=>if ks.length<16777216 then(if(ks.any fun k=>decide (k=q))=true then .ok (.nx ρ) (U.set k (.dic ks (eW ks vs q v))) else .ok (.nx ρ) (U.set k (.dic (ks++[q]) (vs++[v])))) else .bad
  |_,_=>.bad
 |_=>.bad
def mPut (mo mi mv:MX):bD:=fun ρ U=>(mv ρ U).bind fun v U1=>(mo ρ U1).bind fun d U2=>(mi ρ U2).bind fun i U3=>uT ρ d i v U3
section
variable {X:Cx}{EX:EXT}{e a b c o i:Expr}{pos pos':Pos}{m ma mb mc mo mi mv:MX}{es:Zx}{ms:l7}
theorem Iy {K:Zl}{Z:ZS}{F H:Hp}{O:Zr}(R:RH K Z O F H U) (p:aG K F O (.ref k) v) (h:U[k]? =some (.lst ds)):∃a vs,v=.ref a/\O[k]? =some a/\H a=some (.lst vs)/\Reps K F O ds vs/\F a=none:=by
 unfold aG at p;obtain⟨a,ha,hv⟩:=p;obtain⟨h1,vs,h2,h3⟩:=R.cell k a _ ha h;exact⟨a,vs,hv,ha,h2,h3,h1⟩
theorem Qx {K:Zl}{Z:ZS}{F H:Hp}{O:Zr}{U:Mu}(R:RH K Z O F H U) (p:aG K F O (.ref k) v) (h:U[k]? =some (.dic ks ds)):∃a vs,v=.ref a/\O[k]? =some a/\H a=some (.dK ((ks.map dk).zip vs))/\ks.length=ds.length/\Reps K F O ds vs/\F a=none:=by
 unfold aG at p;obtain⟨a,ha,hv⟩:=p;obtain⟨h1,vs,h2,hl,h3⟩:=R.cell k a _ ha h;exact⟨a,vs,hv,ha,h2,hl,h3,h1⟩
theorem EE {apos cpos:Pos}(ho:ME X EX o mo) (ha:MA X EX [a] ms) (hm:∀ρ U,ms ρ U=(m ρ U).bind fun d U1=>.ok [d] U1)
  (hbase:attributeBase o "append" X.env (eval o X.env)=eval o X.env:=by rfl)
  (hfew:((backTo cpos (starEach [a] X.env)).all (fun x=> !x.1)&&(backToKw cpos (keywordEach [] X.env)).all (fun x=>x.1.isSome)
   && decide ([a].length+([]:List Keyword).length+(if([]:List Keyword).isEmpty then 0 else 1)<30))=true:=by rfl)
  (hline:(apos.endLine==cpos.line)=true:=by rfl) (hs:starEach [a] X.env=(false,eval a X.env)::starEach [] X.env:=by rfl) (hplain:(backTo cpos (starEach [] X.env)).any (·.1)=false:=by rfl) :
  ME X EX (.Call (.Attribute o "append" apos) [a] [] cpos) (mAppend mo m):=by
 obtain⟨to,po,so⟩:=ho;obtain⟨ta,pa,sa,_⟩:=ha;refine⟨_,Sb PySem.F.plainAttrs_list PySem.F.slot_list_append PySem.F.type_list_append tS po pa hbase hfew hline hs hplain,fun Z O F H σ ρ U Q R g=>?_⟩;refine so Z O F H σ ρ U _ R (GE.step (G:=GE X.K EX Z O F Q) g (fun _ _ h=>h) (fun h=>h) fun d U1 v O1 F1 H1 R1 e1 p1 g1=>?_);by_cases hd:Cz (ai U1 d)=true
 ·rw[VJ hd] at g1;refine⟨?_,?_⟩
  ·have k1:=R1.pk p1;cases hq:ai U1 d with
   |lst xs =>
    rw[hq] at k1;obtain⟨q,us,rfl,hsq,hr⟩:=k1;exact .inl ⟨rfl,us,hsq⟩
   |_=>rw[hq] at hd;cases hd
  ·refine sa Z O1 F1 H1 σ ρ U1 _ (R.to R1 e1) ?_;rw[hm];cases hy:m ρ U1 with
   |exc x U2=>rw[hy] at g1;exact g1
   |bad=>rw[hy] at g1;exact g1
   |ok y U2 =>
    rw[hy] at g1;intro vs O2 F2 H2 R2 e2 p2;unfold Reps at p2;obtain⟨vy,r,rfl,p2,hr⟩:=p2;have hr:r=[]:=hr;subst hr;have p1':=p1.mono e2;have g1:GE X.K EX Z O F Q (JL d y U2):=g1;unfold JL at g1;cases d with
    |ref k =>
     simp only at g1;cases hc:U2[k]? with
     |none=>rw[hc] at g1;exact g1.elim
     |some cc =>
      rw[hc] at g1;cases cc with
      |lst ds =>
       simp only at g1;split at g1
       ·rename_i hl;obtain⟨q,us,rfl,hO,hH,hr,hF⟩:=Iy R2 p1' hc;refine⟨q,us,vy,rfl,rfl,hH,by rw[←hr.length,Wb];exact hl,?_⟩;exact g1 .non O2 F2 _ (R2.setCell hO hc (by simp) ⟨hF,_,aw,hr.append (aa p2 ax)⟩) (e1.trans e2) uQ
       ·exact g1.elim
      |_=>exact g1.elim
    |_=>exact g1.elim
 ·rw[VN hd] at g1;exact g1.elim
theorem HZ (ho:ME X EX o mo) (hi:ME X EX i mi) (hv:ME X EX e mv)
  (hs:swapsWithSole [.Subscript o i pos'] e pos.line X.env=pure false:=by rfl) (hw:swappedStores [.Subscript o i pos'] e X.env=pure none:=by rfl)
  (h1:(assignEach [.Subscript o i pos'] X.env).map (·.2)=[assign (.Subscript o i pos') X.env]:=by rfl)
  (ha:∀v,assign (.Subscript o i pos') X.env v=(do
   let ov ←holding [v] (eval o X.env)
   let iv ←holding [v,ov] (eval i X.env)
   standAt pos'
   holding [v,ov,iv] (setItem ov iv v)
   release [v,ov,iv] []):=by intro _;rfl):MS X EX (.Assign [.Subscript o i pos'] e pos) (mStore mo mi mv):=by
 obtain⟨to,po,so⟩:=ho;obtain⟨ti,pi,si⟩:=hi;obtain⟨tv,pv,sv⟩:=hv;refine⟨_,P0 pv (P5 po pi Gz ha) hs hw h1,fun Z O F H σ ρ U N R g=>?_⟩;refine sv Z O F H σ ρ U _ R (GE.step (G:=GS X.K EX Z O F N) g (fun _ _ h=>h) (fun h=>h) fun v U1 vv O1 F1 H1 R1 e1 p1 g1=>?_);refine so Z O1 F1 H1 σ ρ U1 _ (R.to R1 e1) (GE.step (G:=GS X.K EX Z O F N) g1 (fun _ _ h=>h) (fun h=>h) fun d U2 vd O2 F2 H2 R2 e2 p2 g2=>?_);refine si Z O2 F2 H2 σ ρ U2 _ (R.to R2 (e1.trans e2)) (GE.step (G:=GS X.K EX Z O F N) g2 (fun _ _ h=>h) (fun h=>h) fun j U3 vj O3 F3 H3 R3 e3 p3 g3=>?_);have p1':=(p1.mono e2).mono e3;have p2':=p2.mono e3;unfold Af at g3;cases d with
 |ref k =>
  cases j with
  |int j =>
   simp only at g3;cases hc:U3[k]? with
   |none=>rw[hc] at g3;exact g3.elim
   |some cc =>
    rw[hc] at g3;cases cc with
    |lst ds =>
     simp only at g3;cases hx:FF ds.length j with
     |none=>rw[hx] at g3;exact g3.elim
     |some n =>
      rw[hx] at g3;obtain⟨q,us,rfl,hO,hH,hr,hF⟩:=Iy R3 p2' hc;unfold aG at p3;refine⟨q,us,j,n,rfl,p3,hH,by rw[←hr.length];exact hx,?_⟩;have R4:=R3.setCell (o:=.lst (us.set n vv)) (c:=.lst (ds.set n v)) hO hc (by simp) ⟨hF,_,aw,Reps.set p1' n hr⟩;exact g3 σ O3 F3 _ (R.to R4 (e1.trans (e2.trans e3))) (e1.trans (e2.trans e3))
    |_=>exact g3.elim
  |_=>exact g3.elim
 |_=>exact g3.elim
theorem tG :∀(ks:List DK) (us:List V),((ks.map dk).zip us).map (fun kv=>if kv.1=dk q then(kv.1,u) else kv)=(ks.map dk).zip (List.zipWith (fun k w=>if k=q then u else w) ks us)
 |[],us=>rfl
 |k::ks,[]=>rfl
 |k::ks,w::us=>by
  simp only[VW,YF,Z9];rw[tG ks us];congr 1;by_cases e:k=q
  ·subst e;simp
  ·have e2:¬dk k=dk q:=fun z=>e (wr z)
   simp[e,e2]
theorem Dm :∀(ks:List DK) (us:List V),ks.length=us.length->(((ks.map dk).zip us).any fun kv=>decide (kv.1=dk q))=(ks.any fun k=>decide (k=q))
 |[],[],_=>rfl
 |[],_::_,h=>by simp at h
 |k::ks,[],h=>by simp at h
 |k::ks,w::us,h=>by
  simp only[VW,YF,WZ];rw[Dm ks us (by simpa using h)];congr 1;by_cases e:k=q
  ·subst e;simp
  ·have e2:¬dk k=dk q:=fun z=>e (wr z)
   simp[e,e2]
theorem xE {K:Zl}{F:Hp}{O:Zr}(hv:aG K F O v u):∀(ks:List DK) (ds:ZE) (us:List V),ks.length=ds.length->Reps K F O ds us->Reps K F O (eW ks ds q v) (List.zipWith (fun k w=>if k=q then u else w) ks us)
 |[],[],us,_,h=>by have:=h.length;cases us with
   |nil=>exact ax
   |cons _ _=>simp at this
 |[],_::_,_,h,_=>by simp at h
 |k::ks,[],_,h,_=>by simp at h
 |k::ks,d::ds,us,hl,h=>by
  unfold Reps at h;obtain⟨w,r,rfl,h1,h2⟩:=h;have ih:=xE (q:=q) hv ks ds r (by simpa using hl) h2;unfold eW at ih ⊢;simp only[Z9];refine aa ?_ ih;by_cases e:k=q
  ·rw[VJ e,VJ e];exact hv
  ·rw[VN e,VN e];exact h1
theorem Ia (hu:X.A.units+200<cLine) (ho:ME X EX o mo) (hi:ME X EX i mi) (hv:ME X EX e mv) (hs:swapsWith e (some (.Subscript o i pos')) pos.line X.env=pure false:=by rfl):MS X EX (.Assign [.Subscript o i pos'] e pos) (mPut mo mi mv):=by
 obtain⟨to,po,so⟩:=ho;obtain⟨ti,pi,si⟩:=hi;obtain⟨tv,pv,sv⟩:=hv;refine⟨_,KI (by omega) po pi pv hs,fun Z O F H σ ρ U N R g=>?_⟩;refine sv Z O F H σ ρ U _ R (GE.step (G:=GS X.K EX Z O F N) g (fun _ _ h=>h) (fun h=>h) fun v U1 vv O1 F1 H1 R1 e1 p1 g1=>?_);refine so Z O1 F1 H1 σ ρ U1 _ (R.to R1 e1) (GE.step (G:=GS X.K EX Z O F N) g1 (fun _ _ h=>h) (fun h=>h) fun d U2 vd O2 F2 H2 R2 e2 p2 g2=>?_);refine si Z O2 F2 H2 σ ρ U2 _ (R.to R2 (e1.trans e2)) (GE.step (G:=GS X.K EX Z O F N) g2 (fun _ _ h=>h) (fun h=>h) fun j U3 vj O3 F3 H3 R3 e3 p3 g3=>?_);have p1':=(p1.mono e2).mono e3;have p2':=p2.mono e3;have ee:=e1.trans (e2.trans e3);unfold uT at g3;cases d with
 |ref k =>
  simp only at g3;cases hc:U3[k]? with
  |none=>rw[hc] at g3;exact g3.elim
  |some cc =>
   rw[hc] at g3;cases cc with
   |dic ks ds =>
    cases hk:keyD j with
    |none=>rw[hk] at g3;exact g3.elim
    |some q =>
     rw[hk] at g3;simp only at g3;split at g3
     ·rename_i hl;obtain⟨a,us,rfl,hO,hH,hlen,hr,hF⟩:=Qx R3 p2' hc;have hul:ks.length=us.length:=hlen.trans hr.length;have hy:=vC p3 hk;have hsz:((ks.map dk).zip us).length<sizeLine:=by rw[XT,VS,←hul,YA,Wb];exact hl
      refine⟨a,_,rfl,by rw[hy];exact JZ.k hH hsz,?_⟩;unfold iX;rw[Dm ks us hul];by_cases hq:(ks.any fun k=>decide (k=q))=true
      ·rw[VJ hq] at g3 ⊢;rw[tG];have R4:=R3.setCell (o:=.dK ((ks.map dk).zip (List.zipWith (fun k w=>if k=q then vv else w) ks us))) (c:=.dic ks (eW ks ds q v)) hO hc (by simp) ⟨hF,_,aw,by unfold eW;rw[XG,hlen,YA],xE p1' ks ds us hlen hr⟩;exact g3 σ O3 F3 _ (R.to R4 ee) ee
      ·rw[VN hq] at g3 ⊢;have ez:(ks.map dk).zip us++[(dk q,vv)]=((ks++[q]).map dk).zip (us++[vv]):=by
        rw[WW,List.zip_append (by simpa using hul)];rfl
       rw[ez];have R4:=R3.setCell (o:=.dK (((ks++[q]).map dk).zip (us++[vv]))) (c:=.dic (ks++[q]) (ds++[v])) hO hc (by simp) ⟨hF,_,aw,by simp[hlen],hr.append (aa p1' ax)⟩;exact g3 σ O3 F3 _ (R.to R4 ee) ee
     ·exact g3.elim
   |_=>cases hk:keyD j<;>rw[hk] at g3<;>exact g3.elim
 |_=>exact g3.elim
end
def V1 (K:Zl) (l:Addr):It :=
  ⟨fun i H=>∃xs x,gR K H l xs/\xs[i]? =some x,
   fun i H v H'=>∃p x,v=.ref p/\H p=none/\(∀xs,gR K H l xs->xs[i]? =some x)/\H'=b6 H p (.tup [.int i,x]),
   fun i H=>∃xs,gR K H l xs/\i=xs.length⟩
def V4 (e it l:Addr) (i:Nat) (h:Heap):Prop:=(∃old,IsEnum h e it i old)/\h.IsListIter it l i
theorem DJ {P:Program}{w:World}{K:Zl}{elts:Zx}(n1:l≠it) (n2:e≠it) (n3:e≠l) :
  wR P w K (.Tuple elts x1 tpos) (V1 K l) [e,it] e (V4 e it l) where
 mem:=by simp
 obj:=fun i h st b hb=>by
  obtain⟨⟨old,he⟩,o,ho,hc,hd⟩:=st;simp only[Wd,VR,WL] at hb;rcases hb with rfl|rfl
  ·exact⟨_,he,fun v z=>by cases z⟩
  ·exact⟨o,ho,fun v z=>by rw[hd] at z;cases z⟩
 keep:=fun i h h' st k=>by
  obtain⟨⟨old,he⟩,o,ho,r⟩:=st;exact⟨⟨old,k e (by simp) _ he⟩,o,k it (by simp) _ ho,r⟩
 item:=by
  intro X hP hw hK hc i pins s σ H E I hf st hg;subst hP hw hK;obtain⟨⟨old,he⟩,hi⟩:=st;obtain⟨xs,x,q1,ex⟩:=hg;obtain⟨us,r1,pl,_⟩:=I.list q1;have hh:X.A.in1.handled=none:=I.ok.hd hc;have lx:i<us.toArray.size:=by
   have:=(List.getElem?_eq_some_iff.mp ex).1;simp only[VT,←r1.length];exact this
  refine wpAny_pyNext_enum_itemD (Draws.list hh it l n1 us.toArray) he ⟨hi,pl.isList⟩ lx n2 (by simp[n2,n3]) fun a h' tk pa eo st' T' _ kp=>?_
  refine⟨_,rfl,wpAny_letOwnedTupleGo_enum eo fun h'' en sb=>?_⟩;have fz:s.heap.objs.size≠e:=WP (VM he);have kp':∀b o,b∉[e,it]->s.heap.get? b=some o->h''.get? b=some o:=fun b o hb q=>by
   simp only[Wd,VR,WL,not_or] at hb;exact sb.extBut b o hb.1 (kp b o hb.1 hb.2 q)
  obtain⟨a',ea,ra⟩:=r1.get ex;have pa':a=a':=by
   have:us.toArray[i]? =some a:=pa;simp only[X3] at this;rw[ea] at this;exact(Option.some.inj this).symm
  subst pa';have T'':h''.get? s.heap.objs.size=some { cls:=.type "tuple",data:=.seq #[.int i tk,a]}:=sb.extBut _ _ fz T';have I':=yH (t':=tk+1) I hf kp' (vs:=[.int i,x]) (us:=[.int i tk,a]) (.cons ⟨tk,rfl⟩ (.cons ra .nil)) (by rw[Wb];show 2<=16777216;decide) ⟨_,T'',rfl,_,rfl⟩;refine⟨.ref s.heap.objs.size,_,I',rfl,⟨_,x,rfl,I.fresh,fun xs' hx=>by rw[I.list_inj hx q1];exact ex,rfl⟩,⟨⟨a,en⟩,?_⟩,fun b hb=>?_⟩
  ·obtain⟨o,ho,r⟩:=st'.1;exact⟨o,sb.extBut _ _ n2.symm ho,r⟩
  ·have:b<s.heap.objs.size:=by
    simp only[Wd,VR,WL] at hb;rcases hb with rfl|rfl
    ·exact VM he
    ·obtain⟨o,ho,_⟩:=hi;exact VM ho
   rw[ak (W3 this)];exact(hf b hb).1
 done:=by
  intro X hP hw hK hc i pins s σ H E I hf st hg;subst hP hw hK;obtain⟨⟨old,he⟩,hi⟩:=st;obtain⟨xs,q1,rfl⟩:=hg;obtain⟨us,r1,pl,_⟩:=I.list q1;have hh:X.A.in1.handled=none:=I.ok.hd hc;have el:xs.length=us.toArray.size:=by simp only[VT];exact r1.length
  refine wpAny_pyNext_enum_endD (Draws.list hh it l n1 us.toArray) he (by rw[←el];exact⟨hi,pl.isList⟩) fun h' sb=>⟨rfl,?_⟩
  exact yG (t':=s.toks) I hf fun b o hb q=>by
   simp only[Wd,VR,WL,not_or] at hb;exact sb b o hb.2 q
 self:=fun A i s Q E st h=>by
  obtain⟨⟨old,he⟩,_⟩:=st;exact wpAny_pyIter_enum he h
def dG:Nat->ZE->ZE
 |_,[]=>[]
 |k,d::ds=>.tup [.int k,d]::dG (k+1) ds
theorem um:∀(k:Nat) (ds:ZE) (i:Nat),(dG k ds)[i]? =(ds[i]?).map fun d=>.tup [.int ((k+i:Nat):Int),d]
 |k,[],i=>by simp[dG]
 |k,d::ds,0=>by simp[dG]
 |k,d::ds,i+1=>by
  have:=um (k+1) ds i;simp only[dG,List.getElem?_cons_succ,this];congr 1
  funext z
  rw[show k+1+i=k+(i+1) by omega]
theorem o6:∀(k:Nat) (ds:ZE),(dG k ds).length=ds.length
 |_,[]=>rfl
 |k,d::ds=>by simp[dG,o6 (k+1) ds]
theorem DE {K:Zl}{F:Hp}{O:Zr}(h1:gR K F l us) (r1:Reps K F O xs us):WalkOk K O F (V1 K l) (dG 0 xs):=by
 intro Z O' F' H' U' R e i;have g1:gR K H' l us:=(e.fr.trans R.sub).seq h1;have e1:=r1.length;rw[o6];refine⟨fun hi=>?_,fun hi=>⟨us,g1,by omega⟩⟩;obtain⟨u,a1,a2⟩:=r1.get (VI (show i<xs.length by omega));refine⟨⟨us,u,g1,a1⟩,fun x H2 y=>?_⟩;obtain⟨p,x',rfl,hp,m1,rfl⟩:=y;have k1:=m1 us g1;rw[a1] at k1;cases k1;obtain⟨R2,s2,p2⟩:=kB R (aa (cv (i:Int)) (aa (a2.mono e) ax)) hp;refine⟨_,_,?_,R2,s2,p2⟩;rw[um,VI (show i<xs.length by omega)];simp
def mEnum (m:MX):JX:=fun ρ U=>(m ρ U).bind fun d U1=>ofO U1 ((sM d).map (dG 0))
section
variable {X:Cx}{EX:EXT}{a b:Expr}{pos p tpos:Pos}{ma mb:MX}{elts:Zx}{x1:Nat}
theorem LB (hg:Gl X "enumerate") (hm:X.mg "enumerate"=none) (ha:ME X EX a ma) (hs:starEach [a] X.env=[(false,eval a X.env)]:=by rfl) :
  MI X EX (.Tuple elts x1 tpos) (.Call (.Name "enumerate" p) [a] [] pos) (mEnum ma):=by
 obtain⟨t,pt,st,lt⟩:=aS ha f7 (by rw[hs];rfl);refine⟨fun σ H R=>∀pins s,Inv X pins σ H s->wpAny (model X.prog X.w) X.A (eval (.Call (.Name "enumerate" p) [a] [] pos) X.env) (fun v s1=>wpAny (model X.prog X.w) X.A (pyIter v) (Tz X pins σ (.Tuple elts x1 tpos) R) X.xe s1) X.xe s,fun pins s σ H R I h=>h pins s I,fun Z O F H σ ρ U Rr R g pins s I=>?_⟩;have hw:t σ H fun vs H1=>∃x O1 F1 U1 xs,RH X.K Z O1 F1 H1 U1/\Ext O F O1 F1/\Reps X.K F1 O1 [x] vs/\sM x=some xs/\(∀J O' F' H',RH X.K Z O' F' H' U1->Ext O F O' F'->WalkOk X.K O' F' J (dG 0 xs)->Rr J H'):=by
  refine st Z O F H σ ρ U _ R ?_;unfold mEnum at g;unfold a5;cases h1:ma ρ U with
  |exc x U1=>rw[h1] at g;exact g
  |bad=>rw[h1] at g;exact g
  |ok x U1 =>
   rw[h1] at g;simp only[ae,mNil] at g ⊢;intro vs O1 F1 H1 R1 e1 r1;cases q1:sM x with
   |none=>rw[q1] at g;exact g.elim
   |some xs =>
    rw[q1] at g;exact⟨x,O1,F1,U1,xs,R1,e1,r1,q1,g⟩
 refine Call_ (jU I hg hm PyProof.Rows.boot_enumerate (WE (bP (pt pos pins s σ H _ I hw) fun us s1 ⟨vs,H1,I1,rr,q⟩=>?_) (by rw[hs];rfl) rfl));obtain⟨x,O1,F1,U1,xs,R1,e1,r1,q1,fin⟩:=q;unfold Reps at r1;obtain⟨v,r,rfl,p1,hr⟩:=r1;have hr:r=[]:=hr;subst hr;obtain⟨u1,rfl,rv⟩:=kT rr;cases x with
 |lst ds =>
  cases q1;unfold aG at p1;obtain⟨l,v1,rfl,g1,h1⟩:=p1;cases rv;obtain⟨w1,k1,pl,_⟩:=I1.list (R1.sub.seq g1);have a1:l<s1.heap.objs.size:=by obtain⟨o,e,_⟩:=pl.isList;exact VM e
  refine call_enumerate_list pl.isList fun h' en li sz kp=>?_
  refine wpAny_pyIter_enum (s:={ s1 with heap:=h'}) en ?_;have I5:Inv X pins σ H1 { s1 with heap:=h'}:=I1.kept (t':=s1.toks) kp;refine⟨s1.heap.objs.size+1,_,_,V1 X.K l,H1,rfl,I5,DJ (W3 a1) (Nat.succ_ne_self _) (WP (Nat.lt_succ_of_lt a1)),⟨⟨_,en⟩,li⟩,fun b hb=>?_,fin _ O1 F1 H1 R1 e1 (DE g1 h1)⟩;have hb':s1.heap.objs.size<=b:=by
   simp only[Wd,VR,WL] at hb;rcases hb with rfl|rfl
   ·exact XB _ _
   ·exact VL _
  exact I1.fpOk hb' (I1.hok.fresh hb')
 |_=>cases q1
end
def QI (a b:D):Option (ZE):=match a,b with
 |.lst xs,.lst ys=>if xs.length+ys.length<=16777216 then some (xs++ys) else none
 |_,_=>none
def UI (U:Mu) (o:Option (ZE)):Res D:=match o with
 |some ds=>.ok (.ref U.length) (U++[.lst ds])
 |none=>.bad
def mCatC (ma mb:MX):MX:=fun ρ U=>(ma ρ U).bind fun x U1=>(mb ρ U1).bind fun y U2=>UI U2 (QI (ai U2 x) (ai U2 y))
def mRep (ms:l7) (mb:MX):MX:=fun ρ U=>(ms ρ U).bind fun ds U1=>(mb ρ U1).bind fun d U2=>match d with
 |.int k=>if(-(2 ^ 63)<=k/\k<2 ^ 63)/\ds.length*k.toNat<=16777216 then .ok (.lst (List.replicate k.toNat ds).flatten) U2 else .bad
 |_=>.bad
def mDicC (ks:List DK) (ms:l7):MX:=fun ρ U=>(ms ρ U).bind fun ds U1=>.ok (.ref U1.length) (U1++[.dic ks ds])
section
variable {X:Cx}{EX:EXT}{e a b c:Expr}{pos pos2:Pos}{m ma mb mc:MX}{es:Zx}{ms:l7}
theorem LK (ha:ME X EX a ma) (hb:ME X EX b mb):ME X EX (.BinOp a .Add b pos) (mCatC ma mb):=by
 obtain⟨ta,pa,sa⟩:=ha;obtain⟨tb,pb,sb⟩:=hb;refine⟨_,Hc C8 pa pb,fun Z O F H σ ρ U Q R g=>?_⟩;refine sa Z O F H σ ρ U _ R (GE.step (G:=GE X.K EX Z O F Q) g (fun _ _ h=>h) (fun h=>h) fun d1 U1 v1 O1 F1 H1 R1 e1 p1 g1=>?_);refine sb Z O1 F1 H1 σ ρ U1 _ (R.to R1 e1) (GE.step (G:=GE X.K EX Z O F Q) g1 (fun _ _ h=>h) (fun h=>h) fun d2 U2 v2 O2 F2 H2 R2 e2 p2 g2=>?_);have k1:=R2.pk (p1.mono e2);have k2:=R2.pk p2;cases h1:ai U2 d1 with
 |lst xs =>
  cases h2:ai U2 d2 with
  |lst ys =>
   rw[h1,h2] at g2;rw[h1] at k1;rw[h2] at k2;obtain⟨q1,us,rfl,s1,r1⟩:=k1;obtain⟨q2,ws,rfl,s2,r2⟩:=k2;simp only[QI] at g2;split at g2
   ·rename_i hl;refine⟨q1,q2,us,ws,rfl,rfl,s1,s2,by rw[Wb,←r1.length,←r2.length];exact hl,fun p hp=>?_⟩;obtain⟨a1,a2,a3⟩:=Cf R2 (r1.append r2) hp;exact g2 _ _ _ _ a1 (e1.trans (e2.trans a2)) a3
   ·exact g2.elim
  |_=>rw[h1,h2] at g2;exact g2.elim
 |_=>rw[h1] at g2;cases h2:ai U2 d2<;>rw[h2] at g2<;>exact g2.elim
theorem xC {K:Zl}{F:Hp}{O:Zr}(h:Reps K F O ds vs):∀k:Nat,Reps K F O (List.replicate k ds).flatten (List.replicate k vs).flatten
 |0=>ax
 |k+1=>by
  rw[Wu,Wu,X6,X6];exact h.append (xC h k)
theorem PZ (h:MA X EX es ms) (hb:ME X EX b mb) (hl:es.length<=16777216:=by decide):ME X EX (.BinOp (.List es pos2) .Mult b pos) (mRep ms mb):=by
 obtain⟨t,p,s,l⟩:=h;obtain⟨tb,pb,sb⟩:=hb;refine⟨_,Hc Pr (Ax p) pb,fun Z O F H σ ρ U Q R g=>?_⟩;refine s Z O F H σ ρ U _ R (GA.stepE (G:=GE X.K EX Z O F Q) g (fun _ _ h=>h) (fun h=>h) fun ds U1 vs O1 F1 H1 hm R1 e1 p1 g1=>?_);refine⟨by rw[←p1.length,Wb,l _ _ _ _ hm];exact hl,fun q hq=>?_⟩;obtain⟨a1,a2,a3⟩:=j4 R1 p1 hq;have ex:Ext O F O1 (b6 F1 q (.lst vs)):=e1.trans ⟨a2,fun _ _ h=>h⟩;refine sb Z O1 _ _ σ ρ U1 _ (R.to a1 ex) (GE.step (G:=GE X.K EX Z O F Q) g1 (fun _ _ h=>h) (fun h=>h) fun d2 U2 v2 O2 F2 H2 R2 e2 p2 g2=>?_);cases d2 with
 |int k =>
  simp only at g2;split at g2
  ·rename_i hk;unfold aG at p2;refine⟨q,k,vs,rfl,p2,R2.sub _ _ (e2.fr _ _ aw),hk.1.1,hk.1.2,by rw[←p1.length,Wb];exact hk.2,fun p' hp'=>?_⟩;obtain⟨b1,b2,b3⟩:=j4 R2 (xC ((p1.mono ⟨a2,fun _ _ h=>h⟩).mono e2) k.toNat) hp';exact g2 _ _ _ _ b1 (ex.trans (e2.trans ⟨b2,fun _ _ h=>h⟩)) b3
  ·exact g2.elim
 |_=>exact g2.elim
theorem EB (hv:ME X EX v m) (hr:MPs X EX pos ks vs kd ms) :
  MPs X EX pos (some (.Constant (.int i) j p)::ks) (v::vs) (.inl i::kd) (a5 m ms):=by
 obtain⟨tv,pv,sv⟩:=hv;obtain⟨hk,⟨trs,pr,sr⟩,lr⟩:=hr;refine⟨by simp[hk],⟨_,xN Hf pv pr,fun Z O F H σ ρ U Q R g=>?_⟩,fun ρ U ds U' h=>?_⟩
 rotate_left
 ·unfold a5 at h;cases e1:m ρ U with
  |ok d U1 =>
   rw[e1] at h;simp only[ae] at h;cases e2:ms ρ U1 with
   |ok dr U2 =>
    rw[e2] at h;simp only[ae] at h;cases h;simp[lr _ _ _ _ e2]
   |exc x U2=>rw[e2] at h;cases h
   |bad=>rw[e2] at h;cases h
  |exc x U1=>rw[e1] at h;cases h
  |bad=>rw[e1] at h;cases h
 show tv σ H _;refine sv Z O F H σ ρ U _ R (GE.step (G:=GA X.K EX Z O F fun vs H'=>Q (((Sum.inl i::kd).map fun k=>kV (dk k)).zip vs) H') g (fun _ _ h=>h) (fun h=>h) fun d U1 v O1 F1 H1 R1 e1 p1 g1=>?_);refine sr Z O1 F1 H1 σ ρ U1 _ (R.to R1 e1) (GA.step (G:=GA X.K EX Z O F fun vs H'=>Q (((Sum.inl i::kd).map fun k=>kV (dk k)).zip vs) H') g1 (fun _ _ h=>h) (fun h=>h) fun ds U2 vs O2 F2 H2 R2 e2 p2 g2=>?_);exact g2 (v::vs) O2 F2 H2 R2 (e1.trans e2) (aa (p1.mono e2) p2)
theorem LI (h:MPs X EX pos keys values ks ms) (nd:ks.Nodup) (hall:keys.all (·.isSome)=true) (hl:keys.length=values.length) (h0:keys≠[]) (h15:keys.length<=15) :
  ME X EX (.Dict keys values pos) (mDicC ks ms):=by
 obtain⟨hk,⟨trs,pp,sp⟩,lp⟩:=h;refine⟨_,BV pp hall hl h0 h15,fun Z O F H σ ρ U Q R g=>?_⟩;intro p hp;have hz:Z.z p=none:=by
  cases e:Z.z p with
  |none=>rfl
  |some u=>rw[R.hp.zs _ _ e] at hp;cases hp
 refine sp (ZS.up Z p (.dK [])) O F (b6 H p (.dK [])) σ ρ U _ ⟨R.hp.hold _ hp,R.len,R.sl⟩ (GA.stepE (G:=GE X.K EX Z O F Q) g (fun _ _ h=>EX.mono _ _ _ _ _ hz h) (fun h=>h) fun ds U1 vs O1 F1 H1 hm R1 e1 p1 g1=>?_);have hlen:=lp _ _ _ _ hm;have hlen2:=p1.length;refine⟨R1.zs _ _ dI,(ks.map dk).zip vs,?_,?_,?_⟩
 ·show(ks.map fun k=>kV (dk k)).zip vs=((ks.map dk).zip vs).map fun kv=>(kV kv.1,kv.2)
  have:(ks.map fun k=>kV (dk k))=(ks.map dk).map kV:=by simp
  rw[this];exact pY kV _ _
 ·rw[XT,VS];omega
 ·have nd2:(((ks.map dk).zip vs).map (·.1)).Nodup:=by
   rw[YU (by simp;omega)];exact md nd
  rw[nA _ [] (by simpa using nd2),WU];have R2:=R1.unholdC (o':=.dK ((ks.map dk).zip vs)) (c:=.dic ks ds) hz ⟨R1.zf p _ dI,vs,aw,by omega,p1.mono (cP _ _ _)⟩;refine g1 _ _ _ _ R2 (e1.trans (cP _ _ _)) ?_;unfold aG;exact⟨p,by rw[←R1.len,VQ (VL _)];simp,rfl⟩
end
def mW (h:Heap) (e:Addr) (C:Value) (dx:Zw) (tr:Zw):Prop :=
 ∃vs sl,h.get? e=some ⟨C,dx,.fields vs,sl⟩/\1<vs.size/\match tr with
  |none=>vs[1]? =some .none
  |some T=>vs[1]? =some (.ref T)/\T≠e/\∃oT ts,h.get? T=some oT/\oT.data=.fields ts/\ts[3]? =some .none
structure jm (fs:Zr) (e:Addr) (tr:Zw) (h h':Heap):Prop where
 keep:∀b o,h.get? b=some o->b∉fs->b≠e->tr≠some b->h'.get? b=some o
 slot:∀b o,h.get? b=some o->b≠e->tr≠some b->∃sl,h'.get? b=some { o with slots:=sl}
section
variable {Md:Model}{A:Around}{E:Zm}{s:Shared}{base:Heap}{env:Env}{outer:Zy}{L e:Addr}
theorem rZ (hfr:A.frames=some (env::outer)) (hl:s.heap.FunFrames base (env::outer)) (hf:env.frame=some L)
  (he:s.heap.get? e=some ⟨C,dx,.fields vs,sl⟩) (hz:1<vs.size) (q:∀h' T,mW h' e C dx (some T)->s.heap.objs.size<=T->jm (oR (env::outer)) e none s.heap h'->Q () { s with heap:=h'}) :
  wpAny Md A (do let a ←frameOf env;let pl ←entryPlaceOf L had;let b ←EntryCells.newEntry head a .none (rawInt L) .none pl;setField (.ref e) 1 b) (fun _ s'=>wpAny Md A (setFlight (.ref e) none) Q E s') E s:=by
 have nf:e∉(env::outer).filterMap (·.frame):=fun hm=>by
  obtain⟨_,o,ho,hn⟩:=hl.mem hm;rw[he] at ho;cases ho;exact hn vs rfl
 refine VG (wpAny_frameOf_fun hfr hl hf fun h1 so=>VG (wpAny_entryPlaceOf fun pl hpl=>?_));unfold EntryCells.newEntry newFields;refine VG (WB ?_ (hpl.sizeOk5 _ _ _ _ _));generalize hts:([head,Value.ref L,Value.none,rawInt L,Value.none]++if pl.isEmpty=true then List.replicate 6 Value.none else pl).toArray=ts;have t3:3<ts.size:=by rw[←hts];simp only[VT,Wy,W1,Yr];omega
 have e1:h1.get? e=some ⟨C,dx,.fields vs,sl⟩:=(so.2.1 e nf).trans he;have nT:h1.objs.size≠e:=WP (VM e1);have e2:=VH (h:=h1) { cls:=.type "traceback",data:=.fields ts} e1;refine WT e2 rfl hz ?_;have e3:((h1.push { cls:=.type "traceback",data:=.fields ts}).update e (Obj.mapFields (·.setIfInBounds 1 (.ref h1.objs.size)))).get? e=some ⟨C,dx,.fields (vs.setIfInBounds 1 (.ref h1.objs.size)),sl⟩:=Wt _ e2 rfl;have T3:((h1.push { cls:=.type "traceback",data:=.fields ts}).update e (Obj.mapFields (·.setIfInBounds 1 (.ref h1.objs.size)))).get? h1.objs.size=some { cls:=.type "traceback",data:=.fields ts} :=
  (W9 _ _ (Wr nT)).trans (VZ h1 rfl)
 have v1:(vs.setIfInBounds 1 (Value.ref h1.objs.size))[1]? =some (.ref h1.objs.size):=by simp[hz]
 unfold setFlight;refine VG (Wq e3 rfl v1 ?_);rw[VJ (by simp)];refine WT T3 rfl t3 (q _ h1.objs.size ?_ ?_ ?_)
 ·refine⟨_,sl,(W9 _ _ nT).trans e3,by simpa using hz,v1,nT,_,_,Wt _ T3 rfl,rfl,?_⟩;simp[t3]
 ·exact Xg so.1.symm
 ·have up:∀b o,h1.get? b=some o->b≠e->(((h1.push { cls:=.type "traceback",data:=.fields ts}).update e (Obj.mapFields (·.setIfInBounds 1 (.ref h1.objs.size)))).update h1.objs.size (Obj.mapFields (·.setIfInBounds 3 ((none:Zw).elim Value.none fun f=>rawInt f)))).get? b=some o:=fun b o hb hbe=>by
   rw[W9 _ _ (WP (VM hb)),W9 _ _ (Wr hbe)];exact VH _ hb
  refine⟨fun b o hb hn hbe _=>up b o ((so.2.1 b hn).trans hb) hbe,fun b o hb hbe _=>?_⟩;obtain⟨sl',e'⟩:=so.2.2 b o hb;exact⟨sl',up b _ e' hbe⟩
theorem Qt (hfr:A.frames=some (env::outer)) (hl:s.heap.FunFrames base (env::outer)) (hf:env.frame=some L) (x:mW s.heap e C dx tr)
  (q:∀h' T,mW h' e C dx (some T)->s.heap.objs.size<=T->jm (oR (env::outer)) e tr s.heap h'->Q () { s with heap:=h'}) :
  wpAny Md A (noteFrame (.ref e) env) (fun _ s'=>wpAny Md A (setFlight (.ref e) none) Q E s') E s:=by
 obtain⟨vs,sl,he,hz,ht⟩:=x;unfold noteFrame;simp only[hf];cases tr with
 |none =>
  refine VG (Wq he rfl ht ?_);rw[VN (by decide)];exact rZ hfr hl hf he hz q
 |some T0 =>
  obtain⟨h1,hne,oT,ts,hT,hd,h3⟩:=ht;refine VG (Wq he rfl h1 ?_);rw[VJ (by simp)];refine VG (Wq hT hd h3 ?_);rw[VN (by simp[rawInt])];refine VG (WT hT hd (Array.getElem?_eq_some_iff.mp h3).1 ?_);have ot:∀b,b≠T0->(s.heap.update T0 (Obj.mapFields (·.setIfInBounds 3 Value.none))).get? b=s.heap.get? b:=fun b hb=>W9 _ _ (Wr hb)
  have nr:∀b o,s.heap.get? b=some o->(∀vs,o.data≠.fields vs)->b≠T0:=fun b o hb hn z=>by
   rw[z,hT] at hb;cases hb;exact hn ts hd
  refine rZ (s:={ s with heap:=s.heap.update T0 (Obj.mapFields (·.setIfInBounds 3 Value.none))}) hfr (hl.of_keeps fun b o hb hn=>⟨o,(ot b (nr b o hb hn)).trans hb,rfl⟩) hf ((ot e (Wr hne)).trans he) hz fun h' T x' n' N=>q h' T x' ?_ ?_
  ·have n2:(s.heap.update T0 (Obj.mapFields (·.setIfInBounds 3 Value.none))).objs.size<=T:=n';rw[Heap.size_update] at n2;exact n2
  ·exact⟨fun b o hb hn hbe hbt=>N.keep b o ((ot b fun z=>hbt (by rw[z])).trans hb) hn hbe (by simp),fun b o hb hbe hbt=>N.slot b o ((ot b fun z=>hbt (by rw[z])).trans hb) hbe (by simp)⟩
end
theorem mW.p (x:mW h e C dx tr):excP e C dx h:=let⟨vs,sl,he,_⟩:=x;⟨vs,sl,he⟩
theorem B8 (x:excP a C dx h):cH P w H h a (.ext (excP a C dx)) :=
 ⟨x,let⟨_,_,e⟩:=x;⟨_,e⟩,fun _ _ ⟨vs,sl,e⟩ k=>⟨vs,sl,k _ e⟩⟩
section
variable {P:Program}{w:World}{H H0 H':Hp}{h h' h0:Heap}{a T L:Addr}{C:Value}{dx tr tr':Zw}{fs:Zr}{env:Env}{outer:Zy}
theorem ER (x:jn P w H h) (ha:H a=some (.ext (excP a C dx))) (ht:∀T,tr=some T->H T=none) (xo:mW h' a C dx tr') (N:jm fs a tr h h') (hf:∀b∈fs,H b=none):jn P w H h':=fun b u e=>by
 by_cases hb:b=a
 ·subst hb;rw[ha] at e;cases e;exact B8 xo.p
 ·refine(x b u e).stay (fun c v hc q=>?_) (fun _ q=>q) fun _ _ q=>q
  have hn:∃u',H c=some u'/\c≠a:=by
   rcases hc with rfl|hc
   ·exact⟨u,e,hb⟩
   ·exact⟨_,hc,fun z=>by rw[z,ha] at hc;cases hc⟩
  obtain⟨u',e',hca⟩:=hn;exact N.keep c v q (fun z=>by rw[hf c z] at e';cases e') hca (fun z=>by rw[ht c z] at e';cases e')
theorem Gc (u:Un (oR outer) ex H0 H' h0 h) (N:jm (oR (env::outer)) a tr h h') (hL:env.frame=some L) (nL:h0.get? L=none) (na:h0.get? a=none) (nt:∀T,tr=some T->h0.get? T=none):Un (oR outer) ex H0 H' h0 h' where
 keep:=fun b o q n hc hx=>by
  refine N.keep b o (u.keep b o q n hc hx) (fun z=>?_) (fun z=>by rw[z,na] at q;cases q) (fun z=>by rw[nt b z] at q;cases q);unfold oR at z hc;rw[XF,hL] at z;rcases List.mem_cons.mp z with z|z
  ·rw[z,nL] at q;cases q
  ·exact hc z
 slot:=fun b o q n hc hx=>by
  obtain⟨sl,e⟩:=u.slot b o q n hc hx;obtain⟨sl',e'⟩:=N.slot b _ e (fun z=>by rw[z,na] at q;cases q) (fun z=>by rw[nt b z] at q;cases q);exact⟨sl',e'⟩
 free:=u.free
 there:=fun b o q hx=>by
  obtain⟨o',e⟩:=u.there b o q hx;obtain⟨sl',e'⟩:=N.slot b _ e (fun z=>by rw[z,na] at q;cases q) (fun z=>by rw[nt b z] at q;cases q);exact⟨_,e'⟩
 tups:=u.tups
 frzs:=u.frzs
 tbls:=u.tbls
end
inductive TN (P:Program) (w:World) (outer:Zy) (H:Hp) (s:Shared) (E:XK) (e:Value) (s':Shared):Prop
 |mk (a:Addr) (C:Value) (dx:Zw) (T:Addr) (H':Hp):e=.ref a->s'.os=s.os->AllBare s'.gens->Un (oR outer) [] H H' s.heap s'.heap->jn P w H' s'.heap->mW s'.heap a C dx (some T)->H' a=some (.ext (excP a C dx))->H' T=none->s.heap.objs.size<=a->s.heap.objs.size<=T->E e (some a) H'->TN P w outer H s E e s'
abbrev mY (P:Program) (w:World):FH:=TN P w
section
variable {P:Program}{w:World}{K:Zl}{mg:Zn}{base:Heap}{N:Zv}{qual:Str}{sc:Scope}{f:Addr}{cdv:Value}{A:Around}{outer:Zy}{s:Shared}{H:Hp}{E:XK}
end
abbrev K3:=Nat->Str×Option Str
def del (H:Hp) (a b:Addr):Hp:=fun c=>if c=a\/c=b then none else H c
def XH (K:Zl) (c:Str×Option Str) (H:Hp) (a dx:Addr) (v:V):Prop:=match c.2 with
 |some nm=>H a=some (.ext (excP a (.ref (cA K c.1)) (some dx)))/\H dx=some (.xd [(nm,v)])
 |none=>dx=a/\H a=some (.ext (excP a (.ref (cA K c.1)) none))
def vS (K:Zl) (xc:K3) (E:XK):EXT where
 P:=fun Z x U=>∀(a dx:Addr) (v:V) (O':Zr) (F' H':Hp),RH K Z O' F' (del H' a dx) U->aG K F' O' x.d v->XH K (xc x.c) H' a dx v->E (.ref a) (some a) H'
 mono:=fun Z p o x U hz h a dx v O' F' H' R=>h a dx v O' F' H' (R.drop hz)
def ZS.at (Z:ZS) (O:Zr) (F:Hp):ZS:=⟨Z.z,O,F⟩
theorem RH.rebase {K:Zl}{Z:ZS}{O:Zr}(r:RH K Z O F H U):RH K (Z.at O F) O F H U:=⟨r.sub,r.len,r.cell,r.zs,r.zf,r.zc,r.dis,Ext.refl _ _⟩
theorem RH.back {K:Zl}{Z:ZS}{O O':Zr}(r:RH K (Z.at O F) O' F' H' U) (e:Ext Z.a0 Z.f0 O F):RH K Z O' F' H' U:=⟨r.sub,r.len,r.cell,r.zs,r.zf,r.zc,r.dis,e.trans r.ext⟩
def N3 (K:Zl) (xc:K3) (n:Nat) (φ:Fn):Sp:=fun vs H Q E=>∃Z O F ds U,RH K Z O F H U/\Reps K F O ds vs/\ds.length=n/\GE K (vS K xc E) (Z.at O F) O F Q (φ ds U)
section
variable {P:Program}{w:World}{K:Zl}{mg:Zn}{base:Heap}{xc:K3}
theorem Qs {x qual:Str}{st:Stmt}{f:Addr}{fd:FuncData}(F:wS K x qual st f fd) (S:cX N ps (af st)) (hj:N.length-ps.length=j)
  (hb:∀(cdv:Value) (A:Around) (outer:Zy) (s:Shared) (H:Hp) (E:XK),aQ k (A.deeper (envOfC qual (af st) s.heap.objs.size f cdv)) ->
   MSs (fP (mY P w) P w K mg base N qual (af st) f cdv A outer s H E) (vS K xc E) (bU st) n):ei P w K mg base (mY P w) (k+1) f fd ps (N3 K xc ps.length (fnOf j n)):=by
 obtain⟨oc,od,kV,doc,pm,an,cdv,ct,osl,rfl,lk,hcd⟩:=F.ex;refine Je lk hcd S (fun vs H Q E h=>?_) fun A outer s H vs Q E hr h=>?_
 ·obtain⟨Z,O,G,ds,U,R,r,hl,_⟩:=h;rw[←hl,r.length]
 ·obtain⟨Z,O,G,ds,U,R,r,hl,g⟩:=h;obtain⟨t,p,s'⟩:=hb cdv A outer s H E hr;refine⟨t,p,s' (Z.at O G) O G H (start N vs) (ds.map some++List.replicate j none) U _ (xA N j (by rw[←r.length,hl];exact hj) R.rebase r) ?_⟩;unfold fnOf fin at g;cases e:n (ds.map some++List.replicate j none) U with
  |exc x U1=>rw[e] at g;exact g
  |bad=>rw[e] at g;exact g
  |ok o U1 =>
   rw[e] at g;cases o with
   |rt d=>exact g
   |nx ρ=>exact fun σ' O' F' H' R' e'=>g .non O' F' H' R'.hp e' uQ
   |bk ρ=>exact g.elim
   |ct ρ=>exact g.elim
end
def jR (φ:Fn) (ms:l7):MX:=fun ρ U=>(ms ρ U).bind φ
section
variable {X:Cx}{e a b c:Expr}{pos:Pos}{m ma mb mc:MX}{es rest:Zx}{ms:l7}{E:XK}{xc:K3}
theorem F7 {K:Zl}{Z:ZS}{O1:Zr}{F1:Hp}(e0:Ext Z.a0 Z.f0 O1 F1) (e1:Ext O F O1 F1) (h:GE K (vS K xc E) Z O F Q r):GE K (vS K xc E) (Z.at O1 F1) O1 F1 Q r:=by
 cases r with
 |ok d U=>exact fun v O' F' H' R e' q=>h v O' F' H' (R.back e0) (e1.trans e') q
 |exc x U=>exact fun a dx v O' F' H' R p h1=>h a dx v O' F' H' (R.back e0) p h1
 |bad=>exact h
theorem Ip (hx:fW (mY X.prog X.w) X E) (F:ei X.prog X.w X.K X.mg X.base (mY X.prog X.w) k f fd ps (N3 X.K xc ps.length φ)) (hr:aQ k X.A) (hg:Gl X x) (hm:X.mg x=some (.ref f)) (hk:PySem.W.keepIn X.K (.ref f)=true) (hb:jq X.K fd ps [])
  (ha:MA X (vS X.K xc E) (e::es) ms) (hl:(e::es).length=ps.length) (hdb:(x==("__debug__":Str))=false:=by decide) (he:starEach (e::es) X.env=(false,eval e X.env)::starEach es X.env:=by rfl) (hpl:(backTo pos (starEach es X.env)).any (·.1)=false:=by rfl) :
  ME X (vS X.K xc E) (.Call (.Name x p) (e::es) [] pos) (jR φ ms):=by
 obtain⟨t,pt,st,lt⟩:=ha;refine⟨_,BW F hr hg hm hk hb .nil hx pt hdb he hpl,fun Z O G H σ ρ U Q R g=>?_⟩;refine st Z O G H σ ρ U _ R (GA.stepE (G:=GE X.K (vS X.K xc E) Z O G Q) g (fun _ _ h=>h) (fun h=>h) fun ds U1 vs O1 F1 H1 hm1 R1 e1 p1 g1=>?_);rw[WC];exact⟨Z,O1,F1,ds,U1,R1,p1,(lt _ _ _ _ hm1).trans hl,F7 R1.ext e1 g1⟩
end
section
variable {prog:Program}{w:World}{A:Around}{E:Zm}{h:Heap}{g:Array GenState}{d:Drawn}{t:Nat}{os:OsState}
variable {nm q:Str}{C N f:Addr}{bs bm bmB:Zt}{hdct:Bool}{sn:Zv}{sub:Zt}{ab:Bool}{col:Option Bool}{dd:Zw}{k0 k1 k2 k3 k5:Zs}{B newId initId:String}
abbrev GP (C a:Addr):Obj:={ cls:=.ref C,data:=.fields #[.ref a,.none,.none,.none,.bool false,.none]}
abbrev g0 (h:Heap) (C:Addr) (us:Zt):Heap:=(h.push { cls:=.type "tuple",data:=.seq us.toArray}).push (GP C h.objs.size)
theorem sP (F:ExcBaseFacts B newId initId bmB) (T:OwnTail h bmB bm) 
  (hC:h.get? C=some (excClassObj nm q C N bs bm hdct sn sub ab col dd k0 k1 k2 k3 k5 newId)) (hn:h.Ns N mN) (hi:mN "__init__"=some (.ref f)) (hu:us.length<=sizeLine)
  (hb:PySem.W.Looks (model prog w) (g0 h C us) (bindSpecial (.ref f) (.ref (h.objs.size+1))) (.ref f,[.ref (h.objs.size+1)]))
  (hq:wpAny (model prog w) A (call (.ref f) (.ref (h.objs.size+1)::us)) (fun r s'=>r=.none/\Q (.done (.ret (.ref (h.objs.size+1)))) s') E ⟨g0 h C us,g,d,t,os⟩) :
  wpAny (model prog w) A (Builtin.«type.__call__» ⟨.ref C::us,[]⟩) Q E ⟨h,g,d,t,os⟩:=by
 repeat (first|with_reducible refine X9 hC ?_|with_reducible refine wpAny_madeBy_exc hC ?_|wp_step)
 refine codeAny_call_builtin_code (Code.quiet_builtin _ F.quiet) (wpAny_check_new_subT F T hC (codeAny_exc_new_subT F T hC ?_ hu));have c1:(g0 h C us).get? C=some _:=VH _ (VH _ hC);have n1:(g0 h C us).Ns N mN:=hn.keeps fun b o e=>VH _ (VH _ e)
 have e1:(g0 h C us).get? (h.objs.size+1)=some (GP C h.objs.size):=YK (by rw[WS]) rfl;have k1:(Value.ref C::bm).contains (.ref C)=true:=by simp
 have t1:OwnTail (g0 h C us) bmB bm:=T.keeps fun b o e=>VH _ (VH _ e)
 show wpAny _ _ _ _ _ _;unfold isInstance
 repeat (first|with_reducible refine X9 e1 ?_|(with_reducible refine wpAny_isSubtype_exc c1 ?_;rw[k1])|wp_step)
 show wpAny _ _ (typeLookup (.ref C) _) _ _ _;refine wpAny_typeLookup_tail c1 n1 t1 F.mroIs F.init.lookup ?_;rw[hi];refine WD (VG (hb _ _ _ _ (fun _ _ z=>z) ?_));refine VG (Wj hq (fun r s' hr=>VO ?_) fun _ _ z=>z);obtain⟨rfl,hr⟩:=hr;exact VO hr
theorem wA (F:ExcBaseFacts B newId initId bmB) (T:OwnTail h bmB bm) 
  (hC:h.get? C=some (excClassObj nm q C N bs bm hdct sn sub ab col dd k0 k1 k2 k3 k5 newId)) (hn:h.Ns N mN) (hi:mN "__init__"=some (.ref f)) (hu:us.length<=sizeLine)
  (hb:PySem.W.Looks (model prog w) (g0 h C us) (bindSpecial (.ref f) (.ref (h.objs.size+1))) (.ref f,[.ref (h.objs.size+1)]))
  (hq:wpAny (model prog w) (A.under (.builtin "type.__call__" ⟨.ref C::us,[]⟩)) (call (.ref f) (.ref (h.objs.size+1)::us)) (fun r s'=>r=.none/\Q (.ref (h.objs.size+1)) s') E ⟨g0 h C us,g,d,t,os⟩) :
  wpAny (model prog w) A (call (.ref C) us) Q E ⟨h,g,d,t,os⟩:=by
 have f1:=tc_lookup;have f2:=tc_bind (.ref C);have hT:(⟨h,g,d,t,os⟩:Shared).TypeIs (.ref C) "type":=⟨_,hC,rfl⟩
 refine Xy (codeAny_of_tree ?_);show wpAny (model prog w) _ (callAny (.ref C) ⟨us,[]⟩) _ _ _
 repeat (any_goals (first|assumption|with_reducible refine X9 hC ?_|wp_step))
 refine⟨rfl,codeAny_call_builtin_at (Code.quiet_builtin _ (by decide +kernel)) entry_typeCall (wpAny_check_type_call_sub hC (sP F T hC hn hi hu hb ?_))⟩;exact hq
end
open PySem PySem.Spec PyProof.Rows L2 PySem.Builtin PySem.Builtin.ObjectAttr
def zQ:Zt:=[.type "ValueError",.type "Exception",.type "BaseException",.type "object"]
def tM:Zt->Bool
 |.ref _::r=>tM r
 |l=>l==zQ
theorem oB:∀{l:Zt},tM l=true->l=zQ\/∃c r,l=.ref c::r/\tM r=true
 |[],e=>.inl (beq_iff_eq.mp e)
 |.ref c::r,e=>.inr ⟨c,r,rfl,e⟩
 |.type n::r,e=>.inl (beq_iff_eq.mp e)
 |.none::r,e=>.inl (beq_iff_eq.mp e)
 |.bool _::r,e=>.inl (beq_iff_eq.mp e)
 |.int _ _::r,e=>.inl (beq_iff_eq.mp e)
 |.str _ _::r,e=>.inl (beq_iff_eq.mp e)
 |v::r,e=>by
  cases v<;>first|exact .inl (beq_iff_eq.mp e)|exact .inr ⟨_,r,rfl,e⟩
theorem m6 (self:Value):∀(l:Zt),tM l=true->refuseLoop self "__setattr__" l=pure ()
 |[],e=>by cases e
 |v::r,e=>by
  rcases oB e with q|⟨c,r',q,e'⟩
  ·rw[q];exact F.store_ValueError.passes self
  ·injection q with q1 q2
   subst q1 q2;rw[refuseLoop_ref];exact m6 self r e'
theorem uf (hT:zQ.contains (.type T)=true):∀(l:Zt),tM l=true->l.contains (.type T)=true
 |[],e=>by cases e
 |v::r,e=>by
  rcases oB e with q|⟨c,r',q,e'⟩
  ·rw[q];exact hT
  ·injection q with q1 q2
   subst q1 q2;rw[XY,uf hT r e',Za]
def nl (K:Zl) (C:Addr):Bool:=(PySem.W.clsIn K C).any fun cd=>tM cd.mro
section
variable {prog:Program}{w:World}{A:Around}{E:Zm}{s:Shared}{K:Zl}{x C:Addr}{name:Str}{v:Value}
theorem lq (X:K.In s.heap) (hp:nl K C=true) (I:PySem.W.InstAt s.heap x ox C od) (hT:zQ.contains (.type T)=true) :
  PySem.W.Looks (model prog w) s.heap (isInstance (.ref x) (.type T)) true:=by
 obtain⟨cd,hc,ho⟩:=X0 hp;have ne:cd.mro.isEmpty=false:=by
  cases q:cd.mro with
  |nil=>rw[q] at ho;cases ho
  |cons _ _=>rfl
 refine I.type.andThen (PySem.W.looks_mroIn X ?_);unfold PySem.W.mroIn;rw[hc,Wl,VN (by rw[ne];decide),uf hT _ ho]
theorem Mc (X:K.In s.heap) (hx:s.heap.get? x=some ⟨.ref C,none,.fields vs,sl⟩)
  (hs:PySem.W.findIn K (.ref C) "__setattr__"=some (some (.builtin "object.__setattr__"))) (hp:nl K C=true) (ht:PySem.W.takerIn K C name=some none) (hh:PySem.W.hasDictIn K C=true)
  (h:∀h' t',h'.get? x=some ⟨.ref C,some s.heap.objs.size,.fields vs,sl⟩->h'.Ns1 s.heap.objs.size (fun y=>if y=name then some v else none)->(∀b o,b≠x->s.heap.get? b=some o->h'.get? b=some o) ->
   Q () { s with heap:=h',toks:=t'}):wpAny (model prog w) A (setAttr (.ref x) name v) Q E s:=by
 have J:PySem.W.InstAt s.heap x ⟨.ref C,none,.fields vs,sl⟩ C none:=⟨hx,rfl,rfl,trivial⟩
 refine PySem.W.set_plain X J hs ?_;have SF:=F.store_ValueError;refine Xa SF.slot.plain SF.entry (@PySem.W.check_slot (model prog w) _ _ _ "object.__setattr__" "object" "__setattr__" (.ref x) _ [] _ SF.kind SF.split (lq (s:={ s with toks:=s.toks+1}) X hp J (by decide)) (SF.args _ _ _) ?_);obtain⟨cd,hc,ho⟩:=X0 hp;obtain⟨cd',hc',hd'⟩:=X0 hh;cases hc.symm.trans hc';have hm:PySem.W.Looks (model prog w) s.heap (mroOf (.ref C)) cd.mro:=(Yw X hc).andThen .now;obtain⟨attr,ha,hr⟩:=Option.bind_eq_some_iff.mp ht;have L3:PySem.W.Looks (model prog w) s.heap (storeTaker? attr) none:=by
  cases attr with
  |none=>exact .now
  |some a =>
   obtain⟨b,hb,z⟩:=Option.map_eq_some_iff.mp hr;refine(PySem.W.looks_takesIn X hb).andThen ?_;cases b
   ·exact .now
   ·cases z
 rw[PySem.W.osa_eq,refuse_eq];refine VG (VG (WM (s:={ s with toks:=s.toks+1}) J.type (VG (WM (s:={ s with toks:=s.toks+1}) hm ?_))));rw[m6 _ _ ho];refine VO (VG (WM (s:={ s with toks:=s.toks+1}) J.type (VG (WM (s:={ s with toks:=s.toks+1}) (Xx X ha) (VG (WM (s:={ s with toks:=s.toks+1}) L3 ?_))))));refine VG (VO (VG (VG (wpAny_loadPart hx (VG (WM (s:={ s with toks:=s.toks+1}) (Yw X hc) ?_))))));rw[hd'];have hx1:(s.heap.push { cls:=.type "dict",data:=.dict #[]}).get? x=some ⟨.ref C,none,.fields vs,sl⟩:=VH _ hx;have hxs:x≠s.heap.objs.size:=W3 (VM hx);refine VG (wpAny_alloc' (h:=s.heap) ?_);refine VG (wpAny_update' hx1 ?_);refine VO ?_;have hgd:((s.heap.push { cls:=.type "dict",data:=.dict #[]}).update x fun o=>{ o with dict:=some s.heap.objs.size}).get? s.heap.objs.size=some { cls:=.type "dict",data:=.dict #[]} :=
  (Heap.get?_update_ne _ _ _ _ hxs.symm).trans (YK rfl rfl)
 have hnd:((s.heap.push { cls:=.type "dict",data:=.dict #[]}).update x fun o=>{ o with dict:=some s.heap.objs.size}).Ns s.heap.objs.size (fun _=>none) :=
  ⟨_,#[],_,hgd,rfl,fun e he=>absurd he (by simp),fun _=>rfl⟩
 show wpAny _ _ (storeInDict s.heap.objs.size (.str name s.toks) name v) _ _ _;unfold storeInDict newKeyGuard;refine VG (VO (VG (wpAny_nsSet1 (Heap.Ns1.of_empty hnd) fun h' hn' hs'=>?_)));obtain⟨oD,esD,epD,hoD,hdD,hcD⟩:=hn'.count (Within.cons name v Within.nil);refine VG (wpAny_lookBehind hoD (by rw[hdD];exact pastItsLine_dict (Wh hcD (by rw[W1,Yr,Wb];omega))) ?_);refine VO (h h' _ ?_ hn' fun b o hb e=>?_)
 ·exact(hs'.2 x hxs).trans (Wt _ hx1 rfl)
 ·exact(hs'.2 b (W3 (VM e))).trans ((Heap.get?_update_ne _ _ _ _ hb).trans (VH _ e))
theorem Me (X:K.In s.heap) (I:PySem.W.InstAt s.heap x ox C od) (hga:PySem.W.findIn K (.ref C) "__getattribute__"=some (some (.builtin "BaseException.__getattribute__")))
  (hk:PySem.W.findIn K (.ref C) "__getattr__"=some none) (hp:nl K C=true) (hf:PySem.W.findObj K C od name=some (.value v)) (hh:PySem.W.handedIn v=true) (h:Q v { s with toks:=s.toks+1}) :
  wpAny (model prog w) A (getAttr (.ref x) name expr) Q E s:=by
 have ga:=F.attrBase_ValueError.ga;have L0:=I.type (M:=model prog w);have L1:=Xx (M:=model prog w) X hga;refine VG (Zb (WD (VG (L0 _ _ _ _ (fun _ _ e=>e) (VG (L1 _ _ _ _ (fun _ _ e=>e) ?_))))));dsimp only;rw[show(Value.builtin "BaseException.__getattribute__"==Value.builtin "object.__getattribute__")=false from by decide +kernel,Bool.and_false,VN (by decide)];refine VG ((PySem.W.looks_hook X (r:=none) (by rw[VJ (show onTheHeap (.ref C)=true from rfl)];exact hk)) _ _ _ _ (fun _ _ e=>e) (VG (Xn (WD ?_))));unfold callGetattribute;rw[show(expr&&onTheHeap (Value.builtin "BaseException.__getattribute__"))=false from Bool.and_false _,VN (by decide)];unfold boundAndCalled;rw[ga.bind];refine VG (VO ?_);show wpAny _ _ (call (.builtin "BaseException.__getattribute__") [.ref x,.str name s.toks]) _ _ _;refine Xy (Xa ga.plain F.entry_bexc_ga ?_);refine @PySem.W.check_slot (model prog w) _ _ { s with toks:=s.toks+1} "BaseException.__getattribute__" "BaseException" "__getattribute__" (.ref x) [.str name s.toks] [] _ (by decide +kernel) (by decide +kernel) (lq (s:={ s with toks:=s.toks+1}) X hp I (by decide)) (F.args_bexc_ga _ _) ?_;have L2:=PySem.W.looks_find (M:=model prog w) X I hf;refine VG (VO (VG (VO (VG (L0 _ _ _ _ (fun _ _ e=>e) (VG (L2 _ _ _ _ (fun _ _ e=>e) ?_)))))));refine VO ?_;show wpAny _ _ (handedOut v) _ _ _;rw[PySem.W.handedOut_of hh];exact VO h
end
def Ee (K:Zl) (C f:Addr):Bool:=match K.lookup C with
 | some ⟨.type "type",_,.cls c,ss⟩=>(match c.mro,ss.toList with
  |.ref C1::tl,[_,_,_,_,some (.builtin i),_]=>C1==C&&i=="ValueError.__new__"&&!c.hasDel&&PySem.W.tailIn K zQ tl&&PySem.W.nsOkIn K c.ns&&PySem.W.nsIn K c.ns "__init__"==some (some (.ref f))
  | _,_=>false)
 |_=>false
theorem AL {K:Zl}{h:Heap}{N:Addr}(X:K.In h) (q:PySem.W.nsIn K N y=some (some u)):h.nsMap N y=some u:=by
 unfold PySem.W.nsIn at q;split at q
 ·rename_i ho;unfold Heap.nsMap;rw[X _ _ ho];split at q
  ·rename_i z;have q':=Option.some.inj (Option.some.inj q);show nsFind _ _=_;unfold nsFind findBy;rw[←Array.find?_toList,z,←q'];rfl
  ·split at q
   ·cases q
   ·cases Option.some.inj q
 ·cases q
inductive JV (h:Heap) (C f:Addr):Prop
 |mk (nm qn N bs bm hd sn sub ab col dd k0 k1 k2 k3 k5 mN:_):h.get? C=some (excClassObj nm qn C N bs bm hd sn sub ab col dd k0 k1 k2 k3 k5 "ValueError.__new__")->h.Ns N mN->mN "__init__"=some (.ref f)->OwnTail h zQ bm->JV h C f
theorem uW {K:Zl}{h:Heap}(X:K.In h) (q:Ee K C f=true):JV h C f:=by
 unfold Ee at q;split at q
 ·rename_i dd c ss ho;split at q
  ·rename_i C1 tl k0 k1 k2 k3 i k5 e1 e2;simp only[W0,Xz,Xw] at q;obtain⟨⟨⟨⟨⟨rfl,rfl⟩,q1⟩,q2⟩,q3⟩,q4⟩:=q;obtain⟨nm,bs,mro,ns,qn,hd,sn,sub,ab,col,del⟩:=c;dsimp only at e1 q1 q3 q4;subst e1 q1;obtain⟨l⟩:=ss;simp only at e2;subst e2;exact⟨nm,qn,ns,bs,tl,hd,sn,sub,ab,col,dd,k0,k1,k2,k3,k5,_,X _ _ ho,.of_isNs (PySem.W.isNs_of_in X q3),AL X q4,PySem.W.tail_of_in X q2⟩
  ·cases q
 ·cases q
section
variable {prog:Program}{w:World}{A:Around}{E:Zm}{s:Shared}{K:Zl}{x C f:Addr}{name:Str}{v:Value}
theorem Fw {vs:ZB}{sl:Zp}{dx:Zw}(X:K.In s.heap) (hx:s.heap.get? x=some ⟨.ref C,dx,.fields vs,sl⟩) (h0:vs[0]? =some (.ref old)) (hq:Ee K C f=true)
  (h:∀h' t',h'.get? x=some ⟨.ref C,dx,.fields (vs.setIfInBounds 0 (.ref s.heap.objs.size)),sl⟩->(∀b o,b≠x->s.heap.get? b=some o->h'.get? b=some o)->Q .none { s with heap:=h',toks:=t'}) :
  wpAny (model prog w) A (call (.builtin "ValueError.__init__") [.ref x,u]) Q E s:=by
 have FB:=F.excBase_ValueError;obtain⟨nm,qn,N,bs,bm,hd,sn,sub,ab,col,dd,k0,k1,k2,k3,k5,mN,hC,hn,hi,T⟩:=uW X hq;obtain⟨hh,g,d,t,os⟩:=s;refine Xy (Xa FB.init.plain FB.initEntry (wpAny_check_init_subT FB T hC hx rfl ?_));unfold Builtin.«BaseException.__init__»;have hz:0<vs.size:=(Array.getElem?_eq_some_iff.mp h0).1
 repeat wp_step
 rw[h0];have hx1:(hh.push { cls:=.type "tuple",data:=.seq #[u]}).get? x=some ⟨.ref C,dx,.fields vs,sl⟩:=VH _ hx;refine VO (VG (WT hx1 rfl hz ?_))
 repeat wp_step
 refine h _ _ ?_ fun b o hb e=>?_
 ·exact Wt _ hx1 rfl
 ·exact(W9 _ _ (Wr hb)).trans (VH _ e)
end
def rawP (e:Addr) (C:Value) (dx:Zw):Heap->Prop:=fun h=>∃t,h.get? e=some ⟨C,dx,.fields #[.ref t,.none,.none,.none,.bool false,.none],#[]⟩
theorem At (x:rawP a C dx h):cH P w H h a (.ext (rawP a C dx)) :=
 ⟨x,let⟨_,e⟩:=x;⟨_,e⟩,fun _ _ ⟨t,e⟩ k=>⟨t,k _ e⟩⟩
theorem rawP.x (x:rawP e C dx h):mW h e C dx none:=let⟨t,e'⟩:=x;⟨_,_,e',show 1<6 by decide,rfl⟩
structure QQ (K:Zl) (C f:Addr) (nm:Str):Prop where
 own:Ee K C f=true
 over:nl K C=true
 set:PySem.W.findIn K (.ref C) "__setattr__"=some (some (.builtin "object.__setattr__"))
 ga:PySem.W.findIn K (.ref C) "__getattribute__"=some (some (.builtin "BaseException.__getattribute__"))
 hook:PySem.W.findIn K (.ref C) "__getattr__"=some none
 dict:PySem.W.hasDictIn K C=true
 taker:PySem.W.takerIn K C nm=some none
 no:PySem.W.findIn K (.ref C) nm=some none
 fn:PySem.W.isFn K (.ref f)=true
 kp:PySem.W.keepIn K (.ref C)=true
structure UV (K:Zl) (D:Addr):Prop where
 rd:PySem.W.readsIn K D (.type "type")=true
 fd:PySem.W.findCls K (.ref D) (.type "type") "__init__"=some (.val (.builtin "ValueError.__init__"))
 sp:PySem.W.specialIn K (.ref D) "__getattribute__"=some (some (.builtin "type.__getattribute__"))
def TX (C:Addr) (nm:Str):Sp:=fun vs H Q _=>∃e i,vs=[.ref e,.int i]/\i.natAbs.log2<1920/\H e=some (.ext (rawP e (.ref C) none)) /\
 ∀dx,H dx=none->Q .non (b6 (b6 H e (.ext (rawP e (.ref C) (some dx)))) dx (.xd [(nm,.int i)]))
section
variable {X:Cx}{pos p1 p2 p3 p4 p5 p6 p7:Pos}{self at_:Str}{txt:Str}{j:Nat}{D C f:Addr}{nm:Str}{xD:Str}
theorem KQ (ha:PE X (.Name at_ p4) (sQ i0)) (hl:txt.length<=1000):PE X (.JoinedStr [.Constant (.str txt) j p2,.FormattedValue (.Name at_ p4) (-1) none p5] p6)
  (fun σ H Q=>∃i,σ[i0]? =some (some (.int i))/\i.natAbs.log2<1920/\∀y,Q (.str y) H):=by
 intro pins s σ H Q I h;obtain⟨i,e,hi,q⟩:=h;refine JoinedStr_many (joinParts_cons (Calls.Constant_str ⟨?_,joinParts_cons (FormattedValue_plain ?_)⟩))
 ·rw[show(Str.empty++txt)=txt from by rw[Zc]];exact Wh hl (by rw[Wb];omega)
 ·refine bP (ha pins _ σ H (fun v H1=>v=.int i/\H1=H) (I.tok _) ⟨_,e,rfl,rfl⟩) fun u s1 ⟨v,H1,I1,r,ev,eH⟩=>?_
  subst ev eH;obtain⟨tk,rfl⟩:=r;refine formatField_int_small hi ?_;have hz:(Str.empty++txt++Str.ofString (toString i)).length<=sizeLine:=by
   rw[strLen_append,show(Str.empty++txt)=txt from by rw[Zc]];have:=int_text_len_1921 hi;rw[Wb];omega
  exact⟨hz,joinParts_nil ⟨.str _,H1,I1.tok _,⟨_,rfl⟩,q _⟩ hz⟩
theorem E7 (c:QQ X.K C f nm) (u:UV X.K D) (hg:Gl X xD) (hm:X.mg xD=some (.ref D)) (hs:PE X (.Name self p3) (sQ i0)) (ha:PE X (.Name at_ p4) (sQ i1)) (hl:txt.length<=1000)
  (hdb:(xD==("__debug__":Str))=false:=by decide)
  (ht:eval (.Call (.Attribute (.Name xD p1) "__init__" p7) [.Name self p3,.JoinedStr [.Constant (.str txt) j p2,.FormattedValue (.Name at_ p4) (-1) none p5] p6] [] pos) X.env=(do
   let ov ←eval (.Name xD p1) X.env
   standAt p7.atName
   let(f,first) ←holding [ov] (getMethod ov "__init__" pl)
   callWith pos f first (backTo pos (starEach [.Name self p3,.JoinedStr [.Constant (.str txt) j p2,.FormattedValue (.Name at_ p4) (-1) none p5] p6] X.env)) (backToKw pos (keywordEach [] X.env))):=by rfl) :
  PE X (.Call (.Attribute (.Name xD p1) "__init__" p7) [.Name self p3,.JoinedStr [.Constant (.str txt) j p2,.FormattedValue (.Name at_ p4) (-1) none p5] p6] [] pos)
   (fun σ H Q=>∃e i,σ[i0]? =some (some (.ref e))/\σ[i1]? =some (some (.int i))/\i.natAbs.log2<1920/\H e=some (.ext (rawP e (.ref C) none))/\Q .non H):=by
 intro pins s σ H Q I h;obtain⟨e,i,h1,h2,hi,he,q⟩:=h;refine PySem.W.methodCall_KW (pl:=pl) (gc I hg hm ?_ hdb) ht;refine PySem.W.method_cls I.kIn u.sp (PySem.W.cls_value I.kIn u.rd u.fd rfl ?_);refine Ye (bP ((g9 hs (g9 (KQ ha hl) nk)) pos pins _ σ H (fun vs H1=>H1=H/\∃y,vs=[.ref e,.str y]) (I.tok _) ⟨_,h1,i,h2,hi,fun y=>⟨rfl,y,rfl⟩⟩) fun us s1 ⟨vs,H1,I1,r,eH,y,ev⟩=>?_);subst eH ev;obtain⟨u1,u2,rfl,r1,r2⟩:=q9 r;obtain rfl:u1=.ref e:=r1;obtain⟨⟨t,ht'⟩,-,-⟩:=I1.hok e _ he;refine Fw I1.kIn ht' rfl c.own fun h' t' a b=>?_
 have same:b6 H1 e (.ext (rawP e (.ref C) none))=H1:=by
  funext b
  by_cases z:b=e
  ·subst z;rw[aw,he]
  ·rw[ak z]
 have I2:=I1.write (x:=e) (e:=e) (o:=.ext (rawP e (.ref C) none)) (h':=h') (t':=t') (by rw[he];trivial) (.inl rfl) b ⟨_,a⟩ (At ⟨_,a⟩);rw[same] at I2;exact⟨.non,H1,I2,rfl,q⟩
theorem KH (c:QQ X.K C f nm) (hs:PE X (.Name self p3) (sQ i0)) (ha:PE X (.Name at_ p4) (sQ i1)) (hsw:swapsWith (.Name at_ p4) (some (.Attribute (.Name self p3) nm p5)) pos.line X.env=pure false:=by rfl) :
  PS X (.Assign [.Attribute (.Name self p3) nm p5] (.Name at_ p4) pos)
   (fun D σ H=>∃e i,σ[i0]? =some (some (.ref e))/\σ[i1]? =some (some (.int i))/\H e=some (.ext (rawP e (.ref C) none))/\∀dx,H dx=none->D.nx σ (b6 (b6 H e (.ext (rawP e (.ref C) (some dx)))) dx (.xd [(nm,.int i)]))):=by
 intro pins s σ H D I h;obtain⟨e,i,h1,h2,he,q⟩:=h;refine Y9 (bP (ha pins s σ H (fun v H1=>v=.int i/\H1=H) I ⟨_,h2,rfl,rfl⟩) fun u s1 ⟨y,H1,I1,ry,ey,eH⟩=>bP (hs pins s1 σ H1 (fun v H2=>v=.ref e/\H2=H1) I1 ⟨_,h1,rfl,rfl⟩) fun ov s2 ⟨x,H2,I2,rx,ex,eH2⟩=>?_) hsw;subst ey eH ex eH2;obtain rfl:ov=.ref e:=rx;obtain⟨⟨t,ht'⟩,-,-⟩:=I2.hok e _ he;refine Mc I2.kIn ht' c.set c.over c.taker c.dict fun h' t' a n b=>?_
 have nd:H2 s2.heap.objs.size=none:=I2.hok.fresh (VL _);have ne:s2.heap.objs.size≠e:=WP (VM ht');refine⟨σ,_,?_,q s2.heap.objs.size nd⟩;have ok1:jn X.prog X.w (b6 H2 e (.ext (rawP e (.ref C) (some s2.heap.objs.size)))) h':=I2.hok.write (x:=e) (e:=e) (by rw[he];trivial) (.inl rfl) b ⟨_,a⟩ (At ⟨_,a⟩);have un1:Un X.fs [] H2 (b6 H2 e (.ext (rawP e (.ref C) (some s2.heap.objs.size)))) s2.heap h':=Un.write (x:=e) (e:=e) (by rw[he];trivial) (.inl rfl) b ⟨_,a⟩;have f1:b6 H2 e (.ext (rawP e (.ref C) (some s2.heap.objs.size))) s2.heap.objs.size=none:=by rw[ak ne];exact nd
 refine I2.un (t':=t') ?_ ?_
 ·refine⟨un1.keep,un1.slot,fun b' o q' n' hx=>?_,un1.there,fun b' xs q'=>?_,fun b' o u q'=>?_,fun b' ps q'=>?_⟩
  ·rw[ak (W3 (VM q'))];exact un1.free b' o q' n' hx
  ·have z:=un1.tups b' xs q';rw[ak (az z f1)];exact z
  ·have z:=un1.frzs b' o u q';rw[ak (az z f1)];exact z
  ·obtain⟨m,z⟩:=un1.tbls b' ps q';exact⟨m,by rw[ak (az z f1)];exact z⟩
 ·intro b' o' q';by_cases z:b'=s2.heap.objs.size
  ·subst z;rw[aw] at q';cases q';refine⟨_,n,fun fl=>?_⟩;by_cases zf:fl=nm
   ·subst zf;rw[VJ rfl,Xq];exact ry
   ·rw[VN zf,Wc,show(fl==nm)=false from by simpa using zf];exact True.intro
  ·rw[ak z] at q';refine(ok1 b' o' q').stay (fun c' v hc q=>q) (fun c' q=>?_) fun c' xs q=>?_
   ·rw[ak (az q f1)];exact q
   ·rw[ak (az q f1)];exact q
end
abbrev zS (xD self at_ txt:Str) (j:Nat) (p1 p2 p3 p4 p5 p6 p7 pos:Pos):Expr:=.Call (.Attribute (.Name xD p1) "__init__" p7) [.Name self p3,.JoinedStr [.Constant (.str txt) j p2,.FormattedValue (.Name at_ p4) (-1) none p5] p6] [] pos
theorem M0 {P:Program}{w:World}{K:Zl}{st:Stmt}{f C D:Addr}{fd:FuncData}{k j:Nat}{p1 p2 p3 p4 p5 p6 p7 p8 q3 q4 q5 q6 pos:Pos}
  (F:wS K x qual st f fd) (S:cX [self,at_] [self,at_] (af st)) (c:QQ K C f nm) (u:UV K D) (hm:mg xD=some (.ref D)) (hg:(af st).names.lookup xD=some .globalImplicit)
  (hb:bU st=[.Expr (zS xD self at_ txt j p1 p2 p3 p4 p5 p6 p7 pos) p8,.Assign [.Attribute (.Name self q3) nm q5] (.Name at_ q4) q6])
  (hl:txt.length<=1000) (hv:MH (af st) self) (hv':MH (af st) at_)
  (ht:∀env:Env,∃pl,eval (zS xD self at_ txt j p1 p2 p3 p4 p5 p6 p7 pos) env=(do
   let ov ←eval (.Name xD p1) env
   standAt p7.atName
   let(f,first) ←holding [ov] (getMethod ov "__init__" pl)
   callWith pos f first (backTo pos (starEach [.Name self p3,.JoinedStr [.Constant (.str txt) j p2,.FormattedValue (.Name at_ p4) (-1) none p5] p6] env)) (backToKw pos (keywordEach [] env))))
  (h1:∀env:Env,swapsWith (zS xD self at_ txt j p1 p2 p3 p4 p5 p6 p7 pos) none p8.line env=pure false)
  (h2:∀env:Env,swapsWith (.Name at_ q4) (some (.Attribute (.Name self q3) nm q5)) q6.line env=pure false)
  (d1:(self==("__debug__":Str))=false:=by decide) (d2:(self==("__classdict__":Str))=false:=by decide) (d3:(at_==("__debug__":Str))=false:=by decide) (d4:(at_==("__classdict__":Str))=false:=by decide)
  (d5:(xD==("__debug__":Str))=false:=by decide):ei P w K mg base mZ (k+1) f fd [self,at_] (TX C nm):=by
 obtain⟨oc,od,kV,doc,pm,an,cdv,ct,osl,rfl,lk,hcd⟩:=F.ex;refine Je lk hcd S (fun vs H Q E ⟨e,i,z,_⟩=>by rw[z];rfl) fun A outer s H vs Q E hr h=>?_
 obtain⟨e,i,rfl,hi,he,q⟩:=h;generalize hX:fP mZ P w K mg base [self,at_] qual (af st) f cdv A outer s H E=X;have eK:X.K=K:=by rw[←hX];rfl
 have eg:X.mg=mg:=by rw[←hX];rfl
 have eN:X.N=[self,at_]:=by rw[←hX];rfl
 have es:X.env.scope=af st:=by rw[←hX];rfl
 obtain⟨pl,ht⟩:=ht X.env;have hself:∀p,PE X (.Name self p) (sQ 0):=fun p=>uU (by rw[eN];rfl) (by rw[es];exact hv) d1 d2
 have hat:∀p,PE X (.Name at_ p) (sQ 1):=fun p=>uU (by rw[eN];rfl) (by rw[es];exact hv') d3 d4
 subst eK eg;have a1:=E7 (X:=X) (pl:=pl) (p5:=p5) (p6:=p6) (p2:=p2) (j:=j) c u (show Gl X xD by show X.env.scope.names.lookup xD=_;rw[es];exact hg) hm (hself p3) (hat p4) hl d5 ht;have a2:=KH (X:=X) (p5:=q5) (pos:=q6) c (hself q3) (hat q4) (h2 X.env);refine⟨_,by rw[hb];exact xL (BS a1 (h1 X.env)) (BR a2),?_⟩;exact⟨e,i,rfl,rfl,hi,he,e,i,rfl,rfl,he,q⟩
theorem Au {x:Sem Value}{Q:Flow->Shared->Prop}{K:Zl}{C f:Addr}(hq:Ee K C f=true) (hh:A.handled=none)
  (h:wpAny M A x (fun v s₁=>∃e dx,v=.ref e/\K.In s₁.heap/\rawP e (.ref C) dx s₁.heap/\E (.ref e) s₁) E s):wpAny M A (raiseStmt env (some x) none) Q E s:=by
 unfold raiseStmt;refine VG (Wj h (fun v s₁ h₁=>?_) fun _ _ x=>x);obtain⟨e,dx,rfl,X,⟨t,he⟩,hE⟩:=h₁;obtain⟨nm,qn,N,bs,bm,hd,sn,sub,ab,col,dd,k0,k1,k2,k3,k5,mN,hC,hn,hi,T⟩:=uW X hq;have hcB:(Value.ref C::bm).contains (.type "BaseException")=true:=by rw[XY,T.hasType (show zQ.contains (.type "BaseException")=true by decide),Za]
 obtain⟨hp,g,d,tk,os⟩:=s₁
 repeat (first|with_reducible refine X9 he ?_|with_reducible refine X9 hC ?_|(with_reducible refine wpAny_isSubtype_exc hC ?_;rw[hcB])|wp_step)
 exact wpAny_raiseNew_none hh hE
section
variable {P:Program}{w:World}{K:Zl}{mg:Zn}{base:Heap}{N:Zv}{qual:Str}{sc:Scope}{f:Addr}{cdv:Value}{A:Around}{outer:Zy}{s:Shared}{H:Hp}{E:XK}
def qU (k:Nat) (m:MX):bD:=fun ρ U=>(m ρ U).bind fun d U1=>match d with
 |.int i=>if i.natAbs.log2<1920 then .exc ⟨k,.int i⟩ U1 else .bad
 |_=>.bad
end
structure V2 (K:Zl) (D:Addr):Prop where
 ty:PySem.W.typeIn K (.ref D)=some (.type "type")
 cl:(PySem.W.clsIn K D).isSome=true
 sub:PySem.W.subIn K (.ref D) (.type "BaseException")=some true
theorem yn {K:Zl}{M:Model}{h:Heap}{e C D:Addr}(X:K.In h) (d:V2 K D) (he:h.get? e=some o) (hc:o.cls=.ref C) (hs:PySem.W.subIn K (.ref C) (.ref D)=some true):PySem.W.Looks M h (excMatches (.ref e) (.ref D)) true:=by
 have k:=PySem.W.kit_cls (M:=M) (c:=.ref D) (t:=.ref C) (v:=true) X (by unfold PySem.W.kitCls;dsimp only;rw[d.cl,d.ty];simpa using hs);have ty:PySem.W.Looks M h (typeOf (.ref e)) (.ref C):=hc▸(PySem.W.Looks.ld he).andThen .now;have l1:PySem.W.Looks M h (isInstance (.ref D) (.type "tuple")) false:=k.1.andThen (PySem.W.Looks.of_pure tc_notTuple);have l2:PySem.W.Looks M h (isExcClass (.ref D)) true:=k.2.1.andThen (PySem.W.looks_subIn X d.sub);unfold excMatches;refine l1.andThen (PySem.W.Looks.now.andThen ?_);simp only[Yu,List.forIn_nil];refine Xr (a:=()) ?_ (ty.andThen ?_)
 ·refine Xr (a:=ForInStep.yield ()) (l2.andThen ?_) .now;exact .now
 ·refine Xr (a:=(some true,())) (Xr (a:=ForInStep.done (some true,())) (k.2.2.andThen ?_) ?_) ?_
  ·exact .now
  ·exact .now
  ·exact .now
theorem EY (x:mW s.heap e C dx (some T))
  (q:∀h',mW h' e C dx (some T)->jm [] e (some T) s.heap h'->Q () { s with heap:=h'}):wpAny Md A (setFlight (.ref e) none) Q E s:=by
 obtain⟨vs,sl,he,hz,h1,ne,oT,ts,hT,hd,h3⟩:=x;have z3:3<ts.size:=(Array.getElem?_eq_some_iff.mp h3).1;have ot:∀b o,s.heap.get? b=some o->b≠T->(s.heap.update T (Obj.mapFields (·.setIfInBounds 3 Value.none))).get? b=some o:=fun b o hb n=>(W9 _ _ (Wr n)).trans hb
 have nw:(s.heap.update T (Obj.mapFields (·.setIfInBounds 3 Value.none))).get? T=some (Obj.mapFields (·.setIfInBounds 3 Value.none) oT):=Wt _ hT (by
  obtain⟨c,d,dt,sl⟩:=oT;cases hd;rfl)
 refine wpAny_setFlight_none he rfl h1 hT hd z3 (q _ ⟨vs,sl,ot _ _ he (Wr ne),hz,h1,ne,_,ts.setIfInBounds 3 .none,nw,?_,?_⟩ ⟨fun b o hb _ _ hn=>ot b o hb fun z=>hn (by rw[z]),fun b o hb _ hn=>⟨o.slots,ot b o hb fun z=>hn (by rw[z])⟩⟩)
 ·obtain⟨c,d,dt,sl⟩:=oT;cases hd;rfl
 ·simp[z3]
section
variable {X:Cx}{pins:Zo}{σ:L2.St}{H:Hp}{s:Shared}{h':Heap}{a:Addr}{C:Value}{dx tr tr':Zw}{fs:Zr}
theorem ud (I:Inv X pins σ H s) (xo:mW h' a C dx tr') (N:jm fs a tr s.heap h') (hfs:∀b∈fs,b∈oR X.stack) (ha:H a=some (.ext (excP a C dx)))
  (ht:∀T,tr=some T->H T=none/\X.s₀.heap.objs.size<=T/\T≠X.env.locals/\(∀x c,X.env.cells.lookup x=some c->c≠T)/\∀p∈X.pn++pins,p.1≠T):Inv X pins σ H { s with heap:=h'}:=by
 have na:∀b,H b=none->b≠a:=fun b n z=>by rw[z,ha] at n;cases n
 refine I.call' (s':={ s with heap:=h'}) (ch:=tr.toList) rfl ⟨fun b o q n hc hx=>?_,fun b o q n hc hx=>?_,fun b o q n hx=>n,fun b o q hx=>?_,fun b xs q=>q,fun b o u q=>q,fun b ps q=>⟨#[],by rw[q];simp⟩⟩
  (ER I.hok ha (fun T z=>(ht T z).1) xo N fun b hb=>I.stkFree b (hfs b hb)) I.bare fun b hb=>?_
 ·exact N.keep b o q (fun z=>hc (hfs b z)) (na b n) fun z=>hx (by rw[z];simp)
 ·obtain⟨sl,e⟩:=N.slot b o q (na b n) fun z=>hx (by rw[z];simp)
  exact⟨sl,e⟩
 ·by_cases z:b=a
  ·obtain⟨vs,sl,e,_⟩:=xo;exact⟨_,by rw[z];exact e⟩
  ·obtain⟨sl,e⟩:=N.slot b o q z fun z=>hx (by rw[z];simp)
   exact⟨_,e⟩
 ·have z:tr=some b:=by
   cases tr with
   |none=>cases hb
   |some T=>simp at hb;rw[hb]
  obtain⟨_,h1,h2,h3,h4⟩:=ht b z;exact⟨.inr h1,h2,h3,h4⟩
end
section
variable {X:Cx}{pins:Zo}{σ:L2.St}{H:Hp}{s:Shared}
theorem my (I:Inv X pins σ H s) {T:Addr}(h:s.heap.objs.size<=T):X.s₀.heap.objs.size<=T/\T≠X.env.locals/\(∀x c,X.env.cells.lookup x=some c->c≠T)/\∀p∈X.pn++pins,p.1≠T :=
 ⟨Wh I.sz h,WP (W4 I.lt h),fun x c e=>let⟨_,_,z,_⟩:=I.cell x c e;W3 (W4 (VM z) h),fun p hp=>W3 (W4 (VM (I.pin p hp).1) h)⟩
theorem tu (I:Inv X pins σ H s) (hN:X.nd) (hi:X.N[i]? =some x) (hk:X.env.scope.names.lookup x=some .local)
  (h:∀s',Inv X pins (σ.set i none) H s'->Q () s'):wpAny M A (do bindName X.env x .none;unbindBehindTheSuite X.env x pos) Q E s:=by
 obtain⟨m,hn,hl⟩:=id I.loc;have hcls:(X.env.scope.kind==.class||(X.env.scope.kind==.module&&X.env.locals != X.env.globals))=false:=by rw[I.ok.kind];rfl
 refine wpAny_nameGoes_keeps hk hn hcls fun h' v hn' hs=>h _ ?_
 obtain⟨oL,_,_,hoL,_⟩:=id hn;have nb:∀b o,X.s₀.heap.get? b=some o->b≠X.env.locals:=fun b o e=>W3 (W4 (VM e) I.ok.above)
 refine⟨I.ok,I.os,I.bare,⟨fun b o e n hb hx=>(hs.2 b (nb b o e)).trans (I.base.keep b o e n hb hx),fun b o e n hb hx=>?_,I.base.free,fun b o e hx=>?_,I.base.tups,I.base.frzs,I.base.tbls⟩,⟨_,hn',fun j y v' e1 e2 e3=>?_⟩,fun y c e=>?_,I.free,I.freeC,fun p hp=>?_,fun b ob e=>?_,by simpa using I.len,fun f e=>by rw[hN.2] at e;cases e⟩
 ·obtain⟨sl,e1⟩:=I.base.slot b o e n hb hx;exact⟨sl,(hs.2 b (nb b o e)).trans e1⟩
 ·obtain⟨o',e1⟩:=I.base.there b o e hx;exact⟨o',(hs.2 b (nb b o e)).trans e1⟩
 ·have hj:j≠i:=fun z=>by
   subst z;by_cases hz:j<σ.length
   ·rw[Wi hz] at e2;cases e2
   ·rw[Xp (by rw[XR];omega)] at e2;cases e2
  rw[Wp (Wr hj)] at e2;obtain⟨u',r',q⟩:=hl j y v' e1 e2 e3;refine⟨u',r',?_⟩;rcases q with⟨k,e⟩|⟨k,c,e,z⟩
  ·have ne:y≠x:=fun e=>hj (qN hN.1 e1 (e▸hi))
   exact .inl ⟨k,by simp[ne,e]⟩
  ·exact .inr ⟨k,c,e,z.sameBut hs (I.cne y c e)⟩
 ·obtain⟨w',z⟩:=I.cell y c e;exact⟨w',z.sameBut hs (I.cne y c e)⟩
 ·obtain⟨e,n,ne,nf,d⟩:=I.pin p hp;exact⟨(hs.2 p.1 ne).trans e,n,ne,nf,d⟩
 ·refine(I.hok b ob e).stay (fun c w' hc q=>(hs.2 c ?_).trans q) (fun _ q=>q) fun _ _ q=>q
  intro z;subst z;rcases hc with hc|hc
  ·rw[←hc,I.free] at e;cases e
  ·rw[I.free] at hc;cases hc
end
def hand (X:Cx) (a:Addr) (pn:Zo):Cx:={ X with A:=X.A.mark (some (.ref a)),calm:=false,pn:=pn,xe:=fun _ _=>False}
def tryX (X:Cx) (pn:Zo) (xe:Zm):Cx:={ X with pn:=pn,xe:=xe}
section
variable {X:Cx}{pins pins':Zo}{σ:L2.St}{H:Hp}{s:Shared}{xe:Zm}{a:Addr}
theorem Cx.Ok.tryX (o:X.Ok):(M.tryX X pn xe).Ok:=⟨o.mod,o.kind,o.glob,o.blt,o.above,o.inj,o.has,o.cab,o.hd,o.frames,o.stk,o.exf,o.bs,o.bsz,o.noex,o.exfs,o.funs,o.frf⟩
theorem Cx.Ok.hand (o:X.Ok):(M.hand X a pn).Ok:=⟨o.mod,o.kind,o.glob,o.blt,o.above,o.inj,o.has,o.cab,(fun z=>by cases z),o.frames,o.stk,o.exf,o.bs,o.bsz,o.noex,o.exfs,o.funs,o.frf⟩
theorem rA (ok:X.Ok) (I:Inv (hand X a (X.pn++pins)) pins' σ H s):Inv X pins σ H s:=⟨ok,I.os,I.bare,I.base,I.loc,I.cell,I.free,I.freeC,fun p hp=>I.pin p (W5 _ hp),I.hok,I.len,I.fx⟩
end
def O8 (c:Str×Option Str) (d:D) (U:Mu):Mu:=match c.2 with
 |some nm=>U++[.xdc nm d]++[.exn c.1 U.length]
 |none=>U++[.exz c.1]
def O7 (c:Str×Option Str) (U:Mu):D:=match c.2 with
 |some _=>.ref (U.length+1)
 |none=>.ref U.length
def mTryK (i ie:Nat) (ok:Nat->Bool) (xc:K3) (ne:MX) (ns:bD):bD:=fun ρ U=>match ne ρ U with
 |.ok d U1=>.ok (.nx (ρ.set i (some d))) U1
 |.bad=>.bad
 |.exc x U1=>if ok x.c then(noX (ns (ρ.set ie (some (O7 (xc x.c) U1))) (O8 (xc x.c) x.d U1))).bind fun o U2=>match o with
   |.nx ρ2=>.ok (.nx (ρ2.set ie none)) U2
   |.rt d=>.ok (.rt d) U2
   |_=>.bad
  else .bad
theorem RS.unset {K:Zl}{Z:ZS}{O:Zr}{F H:Hp}(R:RS K Z O F H σ ρ U) (i:Nat):RS K Z O F H (σ.set i none) (ρ.set i none) U :=
 ⟨R.hp,by simp[R.len],fun j d hd=>by
  have hj:j≠i:=fun z=>by
   subst z;by_cases hz:j<ρ.length
   ·rw[Wi hz] at hd;cases hd
   ·rw[Xp (by rw[XR];omega)] at hd;cases hd
  rw[Wp (Wr hj)] at hd ⊢;exact R.sl j d hd⟩
theorem Jk (x:excP a C dx h) (y:excP a C' dx' h):C=C'/\dx=dx':=by
 obtain⟨_,_,e⟩:=x;obtain⟨_,_,e'⟩:=y;rw[e] at e';cases e';exact⟨rfl,rfl⟩
theorem NY {K:Zl}{Z:ZS}{O:Zr}{F H:Hp}{U:Mu}(R:RH K Z O F (del H a dx) U) (rep:aG K F O d v) (x:XH K c H a dx v) :
  ∃O',RH K Z O' F H (O8 c d U)/\Ext O F O' F/\aG K F O' (O7 c U) (.ref a):=by
 unfold XH at x;have fn0:∀b,del H a dx b=none->F b=none:=fun b hb=>CM R hb
 have da:del H a dx a=none:=by unfold del;rw[VJ (.inl rfl)]
 have dd:del H a dx dx=none:=by unfold del;rw[VJ (.inr rfl)]
 unfold O8 O7;cases hc:c.2 with
 |some nm =>
  rw[hc] at x;obtain⟨h1,h2⟩:=x;have nad:a≠dx:=fun z=>by rw[z,h2] at h1;cases h1
  have R1:=R.newCell (o':=.xd [(nm,v)]) (c:=.xdc nm d) dd ⟨fn0 dx dd,v,aw,rep.mono (cP _ _ _)⟩;have R2:=R1.newCell (p:=a) (o':=.ext (excP a (.ref (cA K c.1)) (some dx))) (c:=.exn c.1 U.length) (by rw[ak nad];exact da) ⟨fn0 a da,dx,by rw[←R.len];simp,aw⟩;have eH:b6 (b6 (del H a dx) dx (.xd [(nm,v)])) a (.ext (excP a (.ref (cA K c.1)) (some dx)))=H:=by
   funext b
   by_cases z:b=a
   ·rw[z,aw,h1]
   ·rw[ak z];by_cases z':b=dx
    ·rw[z',aw,h2]
    ·rw[ak z'];unfold del;rw[VN (fun q=>q.elim z z')]
  rw[eH] at R2;refine⟨_,R2,(cP _ _ _).trans (cP _ _ _),?_⟩;unfold aG;exact⟨a,by rw[←R.len];simp,rfl⟩
 |none =>
  rw[hc] at x;obtain⟨rfl,h1⟩:=x;have R1:=R.newCell (p:=dx) (o':=.ext (excP dx (.ref (cA K c.1)) none)) (c:=.exz c.1) dd ⟨fn0 dx dd,aw⟩;have eH:b6 (del H dx dx) dx (.ext (excP dx (.ref (cA K c.1)) none))=H:=by
   funext b
   by_cases z:b=dx
   ·rw[z,aw,h1]
   ·rw[ak z];unfold del;rw[VN (fun q=>q.elim z z)]
  rw[eH] at R1;refine⟨_,R1,cP _ _ _,?_⟩;unfold aG;exact⟨dx,by rw[←R.len];simp,rfl⟩
theorem NZ {K:Zl}{c:Str×Option Str}{H:Hp}(x:XH K c H a dx v):∃o,H a=some (.ext (excP a (.ref (cA K c.1)) o)):=by
 unfold XH at x;split at x
 ·exact⟨_,x.1⟩
 ·exact⟨_,x.2⟩
def tryK (X:Cx) (pn:Zo) (xe:Zm) (f:Zn):Cx:={ X with pn:=pn,xe:=xe,kn:=some f}
section
variable {X:Cx}{pins pins':Zo}{σ:L2.St}{H:Hp}{s:Shared}{xe:Zm}{a:Addr}{f:Zn}
theorem Cx.Ok.tryK (o:X.Ok):(M.tryK X pn xe f).Ok:=⟨o.mod,o.kind,o.glob,o.blt,o.above,o.inj,o.has,o.cab,o.hd,o.frames,o.stk,o.exf,o.bs,o.bsz,o.noex,o.exfs,o.funs,o.frf⟩
theorem IX (I:Inv X pins σ H s) (hf:s.heap.Ns X.env.locals f):Inv (tryK X (X.pn++pins) xe f) [] σ H s:=⟨Cx.Ok.tryK I.ok,I.os,I.bare,I.base,I.loc,I.cell,I.free,I.freeC,fun p hp=>I.pin p (by rw[WC] at hp;exact hp),I.hok,I.len,fun g e=>by cases e;exact hf⟩
theorem B0 (ok:X.Ok) (hk:X.kn=none) (I:Inv (tryK X (X.pn++pins) xe f) pins' σ H s):Inv X pins σ H s:=⟨ok,I.os,I.bare,I.base,I.loc,I.cell,I.free,I.freeC,fun p hp=>I.pin p (W5 _ hp),I.hok,I.len,fun g e=>by rw[hk] at e;cases e⟩
theorem EO (ok:X.Ok) (hk:X.kn=none) (I:Inv (tryK X (X.pn++pins) xe f) pins' σ H s):Inv (hand X a (X.pn++pins)) pins' σ H s:=⟨Cx.Ok.hand ok,I.os,I.bare,I.base,I.loc,I.cell,I.free,I.freeC,I.pin,I.hok,I.len,fun g e=>by rw[show(hand X a (X.pn++pins)).kn=none from hk] at e;cases e⟩
theorem EQ (I0:Inv X pins σ0 H0 s0) (hl:∀x∈X.N,X.env.kindOf x=some .local) (hm:∀(i:Nat) (x:Str) (v:V),X.N[i]? =some x->σ0[i]? =some (some v)->MH X.env.scope x->∃u,aV v u/\TH X.env s0.heap m x u)
  (I:Inv (hand X a (X.pn++pins)) pins' σ H s) (hf:s.heap.Ns X.env.locals m):Inv (hand X a (X.pn++pins)) pins' σ0 H s:=by
 refine⟨I.ok,I.os,I.bare,I.base,⟨m,hf,fun i x v e1 e2 e3=>?_⟩,I.cell,I.free,I.freeC,I.pin,I.hok,I0.len,I.fx⟩;obtain⟨u,r,l⟩:=hm i x v e1 e2 e3;refine⟨u,r,?_⟩;rcases l with l|⟨l,_⟩
 ·exact .inl l
 ·have:=hl x (WF e1);rw[this] at l;rcases l with l|l<;>cases l
end
section
variable {X:Cx}{EX:EXT}
theorem Ls {i ie:Nat}{x xn nE:Str}{D:Addr}{ok:Nat->Bool}{xc:K3}{e:Expr}(hst:X.stack=X.env::X.outer) (hfr:X.env.frame=some X.env.locals)
  (hN:X.nd) (hlo:∀x∈X.N,X.env.kindOf x=some .local) (hix:X.N[i]? =some x) (hi:X.N[ie]? =some nE) (hl:X.env.scope.names.lookup nE=some .local) (hlx:zD X.env.scope x) (hfx:X.fn x=true) (d:V2 X.K D) (hg:Gl X xn) (hm:X.mg xn=some (.ref D)) (hok:∀k,ok k=true->PySem.W.subIn X.K (.ref (cA X.K (xc k).1)) (.ref D)=some true)
  (hb:∀pn xe f E,fW (mY X.prog X.w) (tryK X pn xe f) E->ME (tryK X pn xe f) (vS X.K xc E) e ne) (hs:∀a pn,MSs (hand X a pn) Ds (b0::suite) ns)
  (hsw:swapsWith e (some (.Name x pos')) apos.line X.env=pure false:=by rfl) (hdb:(xn==("__debug__":Str))=false:=by decide) :
  MS X EX (.Try [.Assign [.Name x pos'] e apos] [.ExceptHandler (some (.Name xn p1)) (some nE) (b0::suite) hp] [] [] pos) (mTryK i ie ok xc ne ns):=by
 refine⟨fun N σ H=>∀pins s,Inv X pins σ H s->wpAny (model X.prog X.w) X.A (exec (.Try [.Assign [.Name x pos'] e apos] [.ExceptHandler (some (.Name xn p1)) (some nE) (b0::suite) hp] [] [] pos) X.env) (SP X pins N) X.xe s,fun pins s σ H D I h=>h pins s I,fun Z O F H σ ρ U N R g pins s I=>?_⟩;have okX:=I.ok;obtain⟨mm,hmm,hml⟩:=id I.loc
 let E:XK:=fun e _ H'=>∃x U1 a dx v O' F',e=.ref a/\ne ρ U=.exc x U1/\RH X.K (Z.at O F) O' F' (del H' a dx) U1/\aG X.K F' O' x.d v/\XH X.K (xc x.c) H' a dx v
 let W:Zm:=fun e s₁=>wpAny (model X.prog X.w) X.A (noteFrame e X.env) (fun _ s₂=>wpAny (model X.prog X.w) X.A (setFlight e none) (fun _ s₃=>wpAny (model X.prog X.w) X.A (handleBy e X.env [.ExceptHandler (some (.Name xn p1)) (some nE) (b0::suite) hp]) (SP X pins N) X.xe s₃) X.xe s₂) X.xe s₁
 have pass:fW (mY X.prog X.w) (tryK X (X.pn++pins) W mm) E:=by
  intro pins0 σ0 H0 s0 e s' I0 hcx;obtain⟨a,C,dx0,T,H',rfl,os,bare,un,hok',xo,ha,hT,na,nT,hE⟩:=hcx;obtain⟨x,U1,a',dx,v,O',F',ea,enb,RH',rep,xh⟩:=hE;cases ea;have I1:=I0.call' (ch:=[]) os un hok' bare fun b z=>absurd z (by simp)
  obtain⟨o1,h1⟩:=NZ xh;have ho:=I1.hok a _ h1;obtain⟨rfl,rfl⟩:=Jk xo.p ho.1;have frT:=my I0 nT;show wpAny _ _ _ _ _ _;refine Qt (L:=X.env.locals) (outer:=X.outer) (base:=X.base) (by have:=okX.frames;rw[hst] at this;exact this) (by have:=I1.stack;rw[show(tryK X (X.pn++pins) W mm).stack=X.env::X.outer from hst] at this;exact this) hfr xo fun h2' T' xo' nT' Nd=>?_
  have I2:=ud I1 xo' Nd (fun b hb=>by rw[show(tryK X (X.pn++pins) W mm).stack=X.env::X.outer from hst];exact hb) h1 fun T'' z=>by cases z;exact⟨hT,frT⟩
  have hT':H' T'=none:=I1.hok.fresh nT';have frT':=my I1 nT';have I3:Inv (hand X a (X.pn++pins)) pins0 σ H' { s' with heap:=h2'}:=EQ I hlo hml (EO okX hN.2 I2) (I2.fx mm rfl);refine wpAny_handleBy_cons (codeAny_handlers_test (gc I3 hg hm ?_ hdb)) (by intro q;cases q);obtain⟨vo,so,eo,_⟩:=id xo';have bok:ok x.c=true/\GS X.K EX Z O F N ((noX (ns (ρ.set ie (some (O7 (xc x.c) U1))) (O8 (xc x.c) x.d U1))).bind fun o U2=>match o with
    |.nx ρ2=>.ok (.nx (ρ2.set ie none)) U2
    |.rt d=>.ok (.rt d) U2
    | _=>.bad):=by
   unfold mTryK at g;rw[enb] at g;dsimp only at g;split at g
   ·rename_i z;exact⟨z,g⟩
   ·exact g.elim
  refine(yn I3.kIn d eo rfl (hok _ bok.1)).here ?_;show codeAny _ _ _ _ _;refine codeAny_handlers_suite_as (EY xo' fun h3' xo3 Nd3=>?_);have I4:=ud I3 xo3 Nd3 (fun b hb=>by cases hb) h1 fun T'' z=>by cases z;exact⟨hT',frT'⟩
  refine lS (X:=hand X a (X.pn++pins)) (v:=.ref a) I4 hN hi (.inl hl) rfl (fun s5 I5=>?_) (.inr hl);have I6:Inv (hand X a (X.pn++pins)) [] (σ.set ie (some (.ref a))) H' s5:=I5.pins_of (pins':=[]) fun p hp=>by cases hp
  obtain⟨O2,R2,e2,rp⟩:=NY RH' rep xh;have RS2:RS X.K (Z.at O F) O2 F' H' (σ.set ie (some (.ref a))) (ρ.set ie (some (O7 (xc x.c) U1))) (O8 (xc x.c) x.d U1) :=
   RS.set ie ⟨R2,R.len,fun j d' hd=>let⟨v',h1,h2⟩:=R.sl j d' hd;⟨v',h1,h2.mono (RH'.ext.trans e2)⟩⟩ rp
  obtain⟨ts,pts,sts⟩:=hs a (X.pn++pins)
  let Dn:Bq:={ nx:=fun σ2 H2=>N.nx (σ2.set ie none) H2,rt:=N.rt}
  have gs:GS X.K Ds (Z.at O F) O2 F' Dn (ns (ρ.set ie (some (O7 (xc x.c) U1))) (O8 (xc x.c) x.d U1)):=by
   have g2:=bok.2;cases er:ns (ρ.set ie (some (O7 (xc x.c) U1))) (O8 (xc x.c) x.d U1) with
   |bad=>rw[er] at g2;exact g2
   |exc y U2=>rw[er] at g2;exact g2
   |ok o U2 =>
    rw[er] at g2;cases o with
    |nx ρ2=>exact fun σ3 O3 F3 H3 R3 e3=>g2 _ O3 F3 H3 ((⟨R3.hp.back R.hp.ext,R3.len,R3.sl⟩:RS X.K Z O3 F3 H3 σ3 ρ2 U2).unset ie) R3.hp.ext
    |rt w=>exact fun u O3 F3 H3 R3 e3 r3=>g2 u O3 F3 H3 (R3.back R.hp.ext) R3.ext r3
    |bk ρ2=>exact g2.elim
    |ct ρ2=>exact g2.elim
  refine Wj (pts [] s5 _ H' Dn I6 (sts _ _ _ _ _ _ _ _ RS2 gs)) (fun f s7 hf=>?_) fun _ _ z=>z.elim
  cases f with
  |next =>
   obtain⟨σ2,H2,I7,q⟩:=hf;exact tu (rA okX I7) hN hi hl fun s8 I8=>⟨_,_,I8,q⟩
  |ret u =>
   obtain⟨w,σ2,H2,I7,rw',q⟩:=hf;exact tu (rA okX I7) hN hi hl fun s8 I8=>⟨w,_,_,I8,rw',q⟩
  |brk=>obtain⟨_,_,_,q⟩:=hf;exact q.elim
  |cont=>obtain⟨_,_,_,q⟩:=hf;exact q.elim
 obtain⟨tb,ptb,stb⟩:=hb (X.pn++pins) W mm E pass;have IY:Inv (tryK X (X.pn++pins) W mm) [] σ H s:=IX I hmm;have gb:GE X.K (vS X.K xc E) (Z.at O F) O F (fun v H1=>N.nx (σ.set i (some v)) H1) (ne ρ U):=by
  cases er:ne ρ U with
  |bad=>unfold mTryK at g;rw[er] at g;exact g
  |exc x U1=>exact fun a dx v O' F' H' RH' rep xh=>⟨x,U1,a,dx,v,O',F',rfl,er,RH',rep,xh⟩
  |ok d1 U1 =>
   unfold mTryK at g;rw[er] at g;exact fun v O3 F3 H3 R3 e3 r3=>g _ O3 F3 H3 ((R.to (R3.back R.hp.ext) e3).set i r3) e3
 refine wpAny_Try_except (Wj (Q:=fun fl s1=>fl=.next/\SP X pins N .next s1) ?_ (fun f s1 hf=>?_) fun _ _ z=>z)
 ·refine YN (Wj (wpAny_Assign_Name (Q:=fun fl s1=>fl=.next/\SP X pins N .next s1) (bP (ptb [] s σ H _ IY (stb _ _ _ _ _ _ _ _ ⟨R.hp.rebase,R.len,R.sl⟩ gb)) fun v s1 ⟨y,H1,I1,r1,q1⟩=>?_) hsw) (fun f s1 hf=>?_) fun _ _ z=>z)
  ·exact lS (B0 (pins:=pins) okX hN.2 I1) hN hix hlx r1 (fun s2 I2=>⟨rfl,_,H1,I2,q1⟩) (.inl hfx)
  ·obtain⟨rfl,hf⟩:=hf;exact Xl ⟨rfl,hf⟩
 ·obtain⟨rfl,hf⟩:=hf;exact Xl hf
end
structure Bo (K:Zl) (C:Addr):Prop where
 over:nl K C=true
 ga:PySem.W.findIn K (.ref C) "__getattribute__"=some (some (.builtin "BaseException.__getattribute__"))
 hook:PySem.W.findIn K (.ref C) "__getattr__"=some none
 dict:PySem.W.hasDictIn K C=true
 cl:PySem.W.findIn K (.ref C) "__class__"=some (some (.builtin "object.__class__"))
 gt:PySem.W.specialIn K (.builtin "object.__class__") "__get__"=some (some (.builtin "getset_descriptor.__get__"))
 tk:PySem.W.takesIn K (.builtin "object.__class__")=some true
 ob:PySem.W.mroIn K C (.type "object")=some true
section
variable {prog:Program}{w:World}{A:Around}{E:Zm}{s:Shared}{K:Zl}{x C:Addr}{name:Str}{v:Value}{ox:Obj}{od:Option Obj}
theorem F0 (c:Bo K C) (X:K.In s.heap) (I:PySem.W.InstAt s.heap x ox C od) (h:Q (some (.ref C)) { s with toks:=s.toks+1}):wpAny (model prog w) A (getAttr? (.ref x) "__class__") Q E s:=by
 have ga:=F.attrBase_ValueError.ga;have L0:=I.type (M:=model prog w);have L1:=Xx (M:=model prog w) X c.ga;have hf:PySem.W.findObj K C od "__class__"=some (.bind (.builtin "getset_descriptor.__get__") (.builtin "object.__class__")):=by
  obtain⟨cd,hc,_⟩:=X0 c.dict;unfold PySem.W.findObj;rw[hc,Wl,c.cl,Wl];simp[c.gt,c.tk]
 have L2:=PySem.W.looks_find (M:=model prog w) X I hf;unfold getAttr? getAttrBy? getAttrBy;refine VG (Zb (VG (Xn (WD (VG (L0 _ _ _ _ (fun _ _ e=>e) (VG (L1 _ _ _ _ (fun _ _ e=>e) ?_))))))));dsimp only;rw[show(Value.builtin "BaseException.__getattribute__"==Value.builtin "object.__getattribute__")=false from by decide +kernel,Bool.and_false,VN (by decide)];refine VG ((PySem.W.looks_hook X (r:=none) (by rw[VJ (show onTheHeap (.ref C)=true from rfl)];exact c.hook)) _ _ _ _ (fun _ _ e=>e) (VG (Xn (WD ?_))));unfold callGetattribute;rw[show(false&&onTheHeap (Value.builtin "BaseException.__getattribute__"))=false from rfl,VN (by decide)];unfold boundAndCalled;rw[ga.bind];refine VG (VO ?_);show wpAny _ _ (call (.builtin "BaseException.__getattribute__") [.ref x,.str "__class__" s.toks]) _ _ _;refine Xy (Xa ga.plain F.entry_bexc_ga ?_);refine @PySem.W.check_slot (model prog w) _ _ { s with toks:=s.toks+1} "BaseException.__getattribute__" "BaseException" "__getattribute__" (.ref x) [.str "__class__" s.toks] [] _ (by decide +kernel) (by decide +kernel) (lq (s:={ s with toks:=s.toks+1}) X c.over I (by decide)) (F.args_bexc_ga _ _) ?_;refine VG (VO (VG (VO (VG (L0 _ _ _ _ (fun _ _ e=>e) (VG (L2 _ _ _ _ (fun _ _ e=>e) ?_)))))));show wpAny _ _ (holding [Value.builtin "object.__class__"] (call (.builtin "getset_descriptor.__get__") [.builtin "object.__class__",.ref x,.ref C]) >>= ret) _ _ _;refine VG (WD (Xy (PySem.W.class_get (s:={ s with toks:=s.toks+1}) (ox:=ox) (od:=od) X I c.ob ?_)));refine VO ?_;show wpAny _ _ (handedOut (.ref C)) _ _ _;rw[PySem.W.handedOut_of (show PySem.W.handedIn (.ref C)=true from rfl)];exact VO (VO h)
theorem IL (c:Bo K C):PySem.W.KitX K (.ref x) (.ref C) (fun h=>PySem.W.InstAt h x ox C od) where
 ty:=fun _ _ _ I=>I.type
 it:=fun _ _ X _=>by
  obtain⟨cd,hcD,_⟩:=X0 c.dict;unfold PySem.W.clsIn at hcD;split at hcD
  ·rename_i ho;intro A' Q' E' s' k q;unfold isType loadHead;exact VG (wpAny_loadPart (k _ _ (X _ _ ho)) (VO q))
  ·cases hcD
 ne:=fun h tp dd its n sl X htp=>by
  obtain⟨cd,hcD,_⟩:=X0 c.dict;refine Bool.eq_false_iff.mpr fun q=>?_
  have e:C=tp:=Value.ref.inj (beq_iff_eq.mp q);subst e;unfold PySem.W.clsIn at hcD;split at hcD
  ·rename_i ho;have z:=(X _ _ ho).symm.trans htp;cases z
  ·cases hcD
 ca:=fun X I k=>F0 c X I k
end
theorem yT (hok:jn P w H h) (h1:H a=some (.ext (excP a (.ref C) (some dx)))) (h2:H dx=some (.xd fs)) :
  ∃(ox od:Obj) (mA:Zn),PySem.W.InstAt h a ox C (some od)/\(∀f,kx (fs.lookup f) (mA f))/\∀name,PySem.W.lookIn name od=some (mA name):=by
 obtain⟨⟨vs,sl,e⟩,-,-⟩:=hok a _ h1;obtain⟨mA,n,r⟩:=hok dx _ h2;obtain⟨od,ho,hl⟩:=tW n;exact⟨_,od,mA,⟨e,rfl,rfl,ho⟩,r,hl⟩
section
variable {X:Cx}{EX:EXT}{e:Expr}{m:MX}{pos:Pos}
def LP (ok:Str->Bool) (nm:Str) (m:MX):MX:=fun ρ U=>(m ρ U).bind fun d U1=>match d with
 |.ref k=>match U1[k]? with
  |some (.exn C j)=>match U1[j]? with
   |some (.xdc nm' d')=>if ok C=true/\nm'=nm then .ok d' U1 else .bad
   |_=>.bad
  |_=>.bad
 |_=>.bad
theorem PY (hC:∀C,ok C=true->Bo X.K (cA X.K C)/\PySem.W.findIn X.K (.ref (cA X.K C)) nm=some none) (ha:ME X EX e m) (hb:attributeBase e nm X.env (eval e X.env)=eval e X.env:=by rfl):ME X EX (.Attribute e nm pos) (LP ok nm m):=by
 obtain⟨t,pt,st⟩:=ha;refine⟨fun σ H Q=>t σ H fun v H1=>∃a C dx u,v=.ref a/\ok C=true/\H1 a=some (.ext (excP a (.ref (cA X.K C)) (some dx)))/\H1 dx=some (.xd [(nm,u)])/\Q u H1,fun pins s σ H Q I h=>?_,fun Z O F H σ ρ U Q R g=>?_⟩
 ·refine Dl hb (bP (pt pins s σ H _ I h) fun u0 s1 ⟨v,H1,I1,rx,a,C,dx,u,ev,ok',h1,h2,q⟩=>?_);subst ev;obtain rfl:u0=Value.ref a:=rx;obtain⟨ox,od,mA,J,r,l⟩:=yT I1.hok h1 h2;obtain⟨c,no⟩:=hC C ok';have rn:=r nm;rw[Xq] at rn;cases em:mA nm with
  |none=>rw[em] at rn;exact rn.elim
  |some u' =>
   rw[em] at rn;have rn:aV u u':=rn;exact Me I1.kIn J c.ga c.hook c.over (PySem.W.findObj_own c.dict no rfl (by rw[l,em])) (ug rn) ⟨u,H1,I1.tok _,rn,q⟩
 ·refine st Z O F H σ ρ U _ R (GE.step (G:=GE X.K EX Z O F Q) g (fun _ _ h=>h) (fun h=>h) fun d U1 v O1 F1 H1 R1 e1 p1 g1=>?_);cases d with
  |ref k =>
   unfold aG at p1;obtain⟨a,ha,rfl⟩:=p1;dsimp only at g1;split at g1
   ·rename_i C j hk;split at g1
    ·rename_i nm' d' hj;split at g1
     ·rename_i hh;obtain⟨h0,rfl⟩:=hh;obtain⟨_,dx,h3,h4⟩:=R1.cell k a _ ha hk;obtain⟨_,u,h5,h6⟩:=R1.cell j dx _ h3 hj;exact⟨a,C,dx,u,rfl,h0,h4,h5,g1 u O1 F1 H1 R1 e1 h6⟩
     ·exact g1.elim
    ·exact g1.elim
   ·exact g1.elim
  |_=>exact g1.elim
def LY (g:Str->Option Bool) (d:D) (U1:Mu):Res D:=match d with
 |.ref k=>match U1[k]? with
  |some (.exn C j)=>match U1[j]? with
   |some (.xdc _ _)=>ofO U1 ((g C).map .bl)
   |_=>.bad
  |some (.exz C)=>ofO U1 ((g C).map .bl)
  |_=>.bad
 |_=>.bad
def Ix (g:Str->Option Bool) (m:MX):MX:=fun ρ U=>(m ρ U).bind (LY g)
def XI (K:Zl) (H:Hp) (a:Addr) (C:Str):Prop:=(∃dx fs,H a=some (.ext (excP a (.ref (cA K C)) (some dx)))/\H dx=some (.xd fs))\/H a=some (.ext (excP a (.ref (cA K C)) none))
theorem XI.inst {P:Program}{w:World}{K:Zl}{H:Hp}(x:XI K H a C) (hok:jn P w H h):∃ox od,PySem.W.InstAt h a ox (cA K C) od:=by
 rcases x with⟨dx,fs,h1,h2⟩|h1
 ·obtain⟨ox,od,mA,J,_,_⟩:=yT hok h1 h2;exact⟨ox,some od,J⟩
 ·obtain⟨⟨vs,sl,e⟩,_⟩:=hok a _ h1;exact⟨_,none,⟨e,rfl,rfl,trivial⟩⟩
theorem IV (R1:RH X.K Z O1 F1 H1 U1) (e1:Ext O F O1 F1) (p1:aG X.K F1 O1 d v)
  (g1:GE X.K EX Z O F Q (LY g d U1)):∃a C b,v=.ref a/\g C=some b/\XI X.K H1 a C/\∀v' O' F' H',RH X.K Z O' F' H' U1->Ext O F O' F'->aG X.K F' O' (.bl b) v'->Q v' H':=by
 cases d with
 |ref k =>
  unfold aG at p1;obtain⟨a,ha,rfl⟩:=p1;unfold LY at g1;dsimp only at g1;split at g1
  ·rename_i C j hk;split at g1
   ·rename_i nm' d' hj;obtain⟨_,dx,h3,h4⟩:=R1.cell k a _ ha hk;obtain⟨_,u,h5,h6⟩:=R1.cell j dx _ h3 hj;cases hg:g C with
    |none=>rw[hg] at g1;exact g1.elim
    |some b =>
     rw[hg] at g1;exact⟨a,C,b,rfl,hg,.inl ⟨dx,_,h4,h5⟩,g1⟩
   ·exact g1.elim
  ·rename_i C hk;obtain⟨_,h4⟩:=R1.cell k a _ ha hk;cases hg:g C with
   |none=>rw[hg] at g1;exact g1.elim
   |some b =>
    rw[hg] at g1;exact⟨a,C,b,rfl,hg,.inr h4,g1⟩
  ·exact g1.elim
 |_=>exact g1.elim
theorem Jx {g:Str->Option Bool}{c:V}(rc:aV c cl) (hu:∀u,aV c u->u=cl) (hg:∀C b,g C=some b->Bo X.K (cA X.K C)/\PySem.W.kitOne X.K (.ref (cA X.K C)) cl=some b) :
  gP X (.builtin "isinstance") (fun xs H Q=>∃a C b,xs=[.ref a,c]/\g C=some b/\XI X.K H a C/\Q (.bl b) H):=by
 intro pins s σ H xs us Q I r h;obtain⟨a,C,b,rfl,hb,h1,q⟩:=h;obtain⟨u,w',rfl,r1,r2⟩:=q9 r;obtain rfl:u=.ref a:=r1;obtain rfl:=hu _ r2;obtain⟨ox,od,J⟩:=h1.inst I.hok;obtain⟨c',kit⟩:=hg C b hb;exact Ww (IL (ox:=ox) (od:=od) c') I.kIn J kit (fun z=>nomatch z) fun tk=>⟨.bl b,H,I.tok _,rfl,q⟩
theorem ED {g:Str->Option Bool}{c:V}{cl:Value}(rc:aV c cl) (hu:∀u,aV c u->u=cl) (hc:PE X ec (tC c)) (hg:∀C b,g C=some b->Bo X.K (cA X.K C)/\PySem.W.kitOne X.K (.ref (cA X.K C)) cl=some b)
  (hG:Gl X "isinstance") (hm:X.mg "isinstance"=none) (ha:ME X EX e m) (hs:starEach [e,ec] X.env=(false,eval e X.env)::starEach [ec] X.env:=by rfl) (hs2:starEach [ec] X.env=[(false,eval ec X.env)]:=by rfl) :
  ME X EX (.Call (.Name "isinstance" p) [e,ec] [] pos) (Ix g m):=by
 obtain⟨t,pt,st⟩:=ha;refine⟨_,qE (Jx rc hu hg) hG hm Yt (g9 pt (g9 hc nk hs2) hs) (by decide) (by decide) hs (by rw[hs2];rfl),fun Z O F H σ ρ U Q R g=>?_⟩;refine st Z O F H σ ρ U _ R (GE.step (G:=GE X.K EX Z O F Q) g (fun _ _ h=>h) (fun h=>h) fun d U1 v O1 F1 H1 R1 e1 p1 g1=>?_);obtain⟨a,C,b,rfl,hb,h1,q⟩:=IV R1 e1 p1 g1;exact⟨a,C,b,rfl,hb,h1,q _ O1 F1 H1 R1 e1 (fm _)⟩
theorem Q3 (hg2:Gl X x) (hm2:X.mg x=some (.ref T)) (hg:∀C b,g C=some b->Bo X.K (cA X.K C)/\PySem.W.kitOne X.K (.ref (cA X.K C)) (.ref T)=some b)
  (hG:Gl X "isinstance") (hm:X.mg "isinstance"=none) (ha:ME X EX e m) (hd:(x==("__debug__":Str))=false:=by decide) (hs:starEach [e,.Name x p2] X.env=(false,eval e X.env)::starEach [.Name x p2] X.env:=by rfl) :
  ME X EX (.Call (.Name "isinstance" p) [e,.Name x p2] [] pos) (Ix g m) :=
 ED (c:=.ref T) (cl:=.ref T) rfl (fun u r=>r) (BU hg2 hm2 rfl hd) hg hG hm ha hs
end
structure Ch (X:Cx) (N G:Zv):Prop where
 hN:X.N=N
 nd:N.Nodup
 loc:∀x∈N,zD X.env.scope x/\(x==("__debug__":Str))=false/\(x==("__classdict__":Str))=false
 gl:∀x∈G,Gl X x
 fn:∀x,X.fn x=true
 un:X.A.units+200<cLine
section
variable {X:Cx}{EX:EXT}{N G:Zv}
theorem Tf (C:Ct X N G):Ch (hand X a pn) N G:=⟨C.hN,C.nd,C.loc,C.gl,C.fn,C.un⟩
theorem Mo (C:Ct X N G):Ct (tryK X pn xe f) N G:=⟨C.hN,C.nd,C.loc,C.gl,C.fn,C.calm,C.un⟩
theorem Jr (C:Ct X N G):Ct (tryX X pn xe) N G:=⟨C.hN,C.nd,C.loc,C.gl,C.fn,C.calm,C.un⟩
theorem Ch.at (C:Ch X N G) {i:Nat}(h:N[i]? =some x):X.N[i]? =some x:=by rw[C.hN];exact h
theorem Ch.ndX (C:Ch X N G):X.N.Nodup:=by rw[C.hN];exact C.nd
theorem Ch.g (C:Ch X N G) (j:Nat) (h:G[j]? =some x):Gl X x:=C.gl x (cU h)
theorem V6 (C:Ch X N G) (i:Nat) (h:N[i]? =some x):ME X EX (.Name x pos) (a4 i) :=
 AR (C.at h) (zD.vis (C.loc x (cU h)).1) (C.loc x (cU h)).2.1 (C.loc x (cU h)).2.2
theorem Vs (C:Ch X N G) (i:Nat) (h:N[i]? =some x) (he:ME X EX e m) (hs:swapsWith e (some (.Name x pos')) pos.line X.env=pure false:=by rfl) (hk:X.kn=none:=by rfl) :
  MS X EX (.Assign [.Name x pos'] e pos) (mSet i m):=I9 ⟨C.ndX,hk⟩ (C.at h) (C.loc x (cU h)).1 (.inl (C.fn x)) he hs
end
section
variable {P:Program}{w:World}{K:Zl}{mg:Zn}{base:Heap}{xc:K3}
theorem Js (nd:N.Nodup)
  (loc:∀x∈N,zD sc x/\(x==("__debug__":Str))=false/\(x==("__classdict__":Str))=false) (gl:∀x∈G,sc.names.lookup x=some .globalImplicit) (hr:aQ k (A.deeper (envOfC qual sc s.heap.objs.size f cdv))) :
  Ct (fP CX P w K mg base N qual sc f cdv A outer s H E) N G :=
 ⟨rfl,nd,loc,gl,fun _=>rfl,rfl,by have:=hr.un;show(A.deeper _).units+200<cLine;omega⟩
def Dt (P:Program) (w:World) (K:Zl) (mg:Zn) (base:Heap) (xc:K3) (x:Str) (k n:Nat) (φ:Fn):Prop :=
 ∃f fd ps,mg x=some (.ref f)/\PySem.W.keepIn K (.ref f)=true/\fY fd ps/\ps.length=n/\ei P w K mg base (mY P w) k f fd ps (N3 K xc n φ)
theorem Jf {x:Str}{st:Stmt}{N ps:Zv}{k j n:Nat}(F:wS K x x st f fd) (S:cX N ps (af st)) (hj:N.length-ps.length=j) (hn:ps.length=n)
  (hb:∀(cdv:Value) (A:Around) (outer:Zy) (s:Shared) (H:Hp) (E:XK),aQ k (A.deeper (envOfC x (af st) s.heap.objs.size f cdv)) ->
   MSs (fP (mY P w) P w K mg base N x (af st) f cdv A outer s H E) (vS K xc E) (bU st) b):ei P w K mg base (mY P w) (k+1) f fd ps (N3 K xc n (fnOf j b)):=by
 subst hn;exact Qs F S hj hb
theorem yS {x:Str}{st:Stmt}{ps:Zv}(D:aR K mg x st ps) (hn:ps.length=n)
  (hb:∀(f:Addr) (fd:FuncData),wS K x x st f fd->ei P w K mg base (mY P w) k f fd ps (N3 K xc n φ)):Dt P w K mg base xc x k n φ:=by
 obtain⟨f,fd,h1,h2,h3⟩:=D;exact⟨f,fd,ps,h1,h2.kp,h3,hn,hb f fd h2⟩
theorem Ik (F:Dt X.prog X.w X.K X.mg X.base xc x k n φ) (hx:fW (mY X.prog X.w) X E) (hr:aQ k X.A) (hg:Gl X x)
  (ha:MA X (vS X.K xc E) (e::es) ms) (hl:(e::es).length=n) (hdb:(x==("__debug__":Str))=false:=by decide) (he:starEach (e::es) X.env=(false,eval e X.env)::starEach es X.env:=by rfl) (hpl:(backTo pos (starEach es X.env)).any (·.1)=false:=by rfl) :
  ME X (vS X.K xc E) (.Call (.Name x p) (e::es) [] pos) (jR φ ms):=by
 obtain⟨f,fd,ps,h1,h2,h3,h4,h5⟩:=F;subst h4;exact Ip hx h5 hr hg h1 h2 (.all h3) ha hl hdb he hpl
def V3 (K:Zl) (mg:Zn) (cn nm qual self at_:Str) (st:Stmt):Prop :=
 ∃fi fd,mg cn=some (.ref (cA K cn))/\QQ K (cA K cn) fi nm/\wS K "__init__" qual st fi fd/\fY fd [self,at_]
def Tt (P:Program) (w:World) (K:Zl) (mg:Zn) (base:Heap) (cn nm:Str) (ki:Nat):Prop :=
 ∃fi fd self at_,mg cn=some (.ref (cA K cn))/\QQ K (cA K cn) fi nm/\fY fd [self,at_]/\ei P w K mg base mZ ki fi fd [self,at_] (TX (cA K cn) nm)
def NX (K:Zl) (mg:Zn) (x:Str):Prop:=mg x=some (.ref (cA K x))/\V2 K (cA K x)
def K0 (K:Zl) (mg:Zn) (x:Str):Prop:=mg x=some (.ref (cA K x))
def JP (N:Zv) (sc:Scope):Bool:=N.all fun x=>sc.names.lookup x==some .local
theorem HY (C:Ct X N G) (h:NX X.K X.mg xn) (hg:Gl X xn) (hlo:JP N X.env.scope=true) (hix:N[i]? =some x) (hi:N[ie]? =some nE)
  (hok:∀k,ok k=true->PySem.W.subIn X.K (.ref (cA X.K (xc k).1)) (.ref (cA X.K xn))=some true)
  (hb:∀pn xe f E,fW (mY X.prog X.w) (tryK X pn xe f) E->Ct (tryK X pn xe f) N G->ME (tryK X pn xe f) (vS X.K xc E) e ne) (hs:∀a pn,Ch (hand X a pn) N G->MSs (hand X a pn) Ds (b0::suite) ns)
  (hsw:swapsWith e (some (.Name x pos')) apos.line X.env=pure false:=by rfl) (hst:X.stack=X.env::X.outer:=by rfl) (hfr:X.env.frame=some X.env.locals:=by rfl) (hk:X.kn=none:=by rfl) (hkd:∀x,X.env.kindOf x=X.env.scope.names.lookup x:=by intro _;rfl) (hdb:(xn==("__debug__":Str))=false:=by decide) :
  MS X EX (.Try [.Assign [.Name x pos'] e apos] [.ExceptHandler (some (.Name xn p1)) (some nE) (b0::suite) hp] [] [] pos) (mTryK i ie ok xc ne ns):=by
 have lo:∀y∈N,X.env.scope.names.lookup y=some .local:=fun y hy=>by have:=List.all_eq_true.mp hlo y hy;simpa using this
 exact Ls hst hfr ⟨C.ndX,hk⟩ (fun y hy=>by rw[C.hN] at hy;rw[hkd];exact lo y hy) (C.at hix) (C.at hi) (lo nE (cU hi)) (C.loc x (cU hix)).1 (C.fn x) h.2 hg h.1 hok (fun pn xe f E hx=>hb pn xe f E hx (Mo C)) (fun a pn=>hs a pn (Tf C)) hsw hdb
theorem eX {L:Zv}{Q:Str->Prop}(h:∀x∈L,Q x) (C:Str) (hc:L.contains C=true):Q C:=h C (List.contains_iff_mem.mp hc)
theorem Lm {L:List (Str×Bool)}{Q:Str->Bool->Prop}(h:∀x∈L,Q x.1 x.2) (C:Str) (b:Bool) (hc:L.lookup C=some b):Q C b:=h (C,b) (WX hc)
end
def De:Stmt->Zz
 |.ClassDef _ _ _ b .. =>b
 |_=>[]
theorem Kr {K:Zl}{φ:Fn}{ns:ZC}(hS:gR K H a (ns.map V.int)) (h:∃U,φ [.lst (ns.map .int)] []=.ok (.bl true) U):Ag K 1 φ [.ref a] H (fun v _=>v=.bl true) (fun _ _ _=>False):=by
 obtain⟨U,h⟩:=h;refine⟨⟨fun _=>none,[],fun _=>none⟩,[],H,[.lst (ns.map .int)],[],⟨Same.refl H,rfl,fun k a c hk=>(by simp at hk),fun b o e=>(by cases e),fun b o e=>(by cases e),fun k a c hk=>(by simp at hk),fun j k a c c' hk=>(by simp at hk),⟨fun b o e=>(by cases e),fun k a hk=>(by simp at hk)⟩⟩,?_,rfl,?_⟩
 ·refine aa ?_ ax;unfold aG;exact⟨a,_,rfl,hS,tF ns⟩
 ·rw[h];intro v O' F' H' _ _ r;unfold aG at r;exact r
theorem DD {l:PySem.W.OpenLaw}{q:Program}{loose:Zv}{K:Params->Zl}{k:Nat}{x:Str}{φ:Fn}(hn:l.most=some 63) (hdf:d.params.defaults=[]) (hr:aQ k callerA)
  (hY:∀(w:World) (h:Heap),YP w h->(K w.params).In h)
  (F:∀(w:World) (mg:Zn) (fa:Addr) (h:Heap),(K w.params).In h->h.Ns mainGlobals mg->mg d.name=some (.ref fa) ->
   ∃fd:FuncData,fY fd [x]/\∀base:Heap,ei l.prog w (K w.params) mg base mZ k fa fd [x] (Ag (K w.params) 1 φ))
  (hlaw:∀ns:ZC,ns.length<=63->∃U,φ [.lst (ns.map .int)] []=.ok (.bl true) U) :
  PySem.W.WalkO q loose XP YP l.row.toRowW d [] (fun f vs=>PySem.call f vs) :=
 L2.Ka (n:=63) (k:=k) (x:=x) (CX:=fun _=>mZ) (sp:=fun w=>Ag (K w.params) 1 φ) hn (by decide) hdf hr hY
  (fun w mg fa h hK hG hm=>by
   obtain⟨fd,hb,hf⟩:=F w mg fa h hK hG hm;exact⟨fd,fun s u=>.of_eq (hb [u] rfl),fun base _ _=>hf base⟩)
  (fun w H a ns hl _ hS=>Kr hS (hlaw ns hl)) fun _ _ _ _ _ z=>z
def zA (h:Heap) (e:Addr) (C:Value) (dx:Zw) (tr:Zw) (L:Addr):Prop :=
 mW h e C dx tr\/∃T vs sl,tr=some T/\h.get? e=some ⟨C,dx,.fields vs,sl⟩/\1<vs.size/\vs[1]? =some (.ref T)/\T≠e/\∃oT ts,h.get? T=some oT/\oT.data=.fields ts/\ts[3]? =some (rawInt L)
theorem zA.p (x:zA h e C dx tr L):excP e C dx h:=by
 rcases x with x|⟨T,vs,sl,_,e,_⟩
 ·exact x.p
 ·exact⟨vs,sl,e⟩
section
variable {Md:Model}{A:Around}{E:Zm}{s:Shared}{base:Heap}{env:Env}{outer:Zy}{L e:Addr}
theorem rY (hfr:A.frames=some (env::outer)) (hl:s.heap.FunFrames base (env::outer)) (hf:env.frame=some L)
  (he:s.heap.get? e=some ⟨C,dx,.fields vs,sl⟩) (hz:1<vs.size) (q:∀h' T,zA h' e C dx (some T) L->s.heap.objs.size<=T->jm (oR (env::outer)) e none s.heap h'->Q () { s with heap:=h'}) :
  wpAny Md A (do let a ←frameOf env;let pl ←entryPlaceOf L had;let b ←EntryCells.newEntry head a .none (rawInt L) .none pl;setField (.ref e) 1 b) Q E s:=by
 have nf:e∉(env::outer).filterMap (·.frame):=fun hm=>by
  obtain⟨_,o,ho,hn⟩:=hl.mem hm;rw[he] at ho;cases ho;exact hn vs rfl
 refine VG (wpAny_frameOf_fun hfr hl hf fun h1 so=>VG (wpAny_entryPlaceOf fun pl hpl=>?_));unfold EntryCells.newEntry newFields;refine VG (WB ?_ (hpl.sizeOk5 _ _ _ _ _));generalize hts:([head,Value.ref L,Value.none,rawInt L,Value.none]++if pl.isEmpty=true then List.replicate 6 Value.none else pl).toArray=ts;have t3:ts[3]? =some (rawInt L):=by rw[←hts];simp
 have e1:h1.get? e=some ⟨C,dx,.fields vs,sl⟩:=(so.2.1 e nf).trans he;have nT:h1.objs.size≠e:=WP (VM e1);have e2:=VH (h:=h1) { cls:=.type "traceback",data:=.fields ts} e1;refine WT e2 rfl hz (q _ h1.objs.size ?_ ?_ ?_)
 ·refine .inr ⟨h1.objs.size,vs.setIfInBounds 1 (.ref h1.objs.size),sl,rfl,Wt _ e2 rfl,by simpa using hz,by simp[hz],nT,_,ts,(W9 _ _ (Wr nT)).trans (VZ h1 rfl),rfl,t3⟩
 ·exact Xg so.1.symm
 ·have up:∀b o,h1.get? b=some o->b≠e->((h1.push { cls:=.type "traceback",data:=.fields ts}).update e (Obj.mapFields (·.setIfInBounds 1 (.ref h1.objs.size)))).get? b=some o:=fun b o hb hbe=>by
   rw[W9 _ _ (Wr hbe)];exact VH _ hb
  refine⟨fun b o hb hn hbe _=>up b o ((so.2.1 b hn).trans hb) hbe,fun b o hb hbe _=>?_⟩;obtain⟨sl',e'⟩:=so.2.2 b o hb;exact⟨sl',up b _ e' hbe⟩
theorem Cd (hfr:A.frames=some (env::outer)) (hl:s.heap.FunFrames base (env::outer)) (hf:env.frame=some L) (x:zA s.heap e C dx tr L)
  (q:∀h' T,zA h' e C dx (some T) L->(s.heap.objs.size<=T\/tr=some T)->jm (oR (env::outer)) e tr s.heap h'->Q () { s with heap:=h'}) :
  wpAny Md A (noteFrame (.ref e) env) Q E s:=by
 rcases x with⟨vs,sl,he,hz,ht⟩|⟨T,vs,sl,rfl,he,hz,h1,ne,oT,ts,hT,hd,h3⟩
 ·unfold noteFrame;simp only[hf];cases tr with
  |none =>
   refine VG (Wq he rfl ht ?_);rw[VN (by decide)];exact rY hfr hl hf he hz fun h' T x' n' N=>q h' T x' (.inl n') N
  |some T0 =>
   obtain⟨h1,hne,oT,ts,hT,hd,h3⟩:=ht;refine VG (Wq he rfl h1 ?_);rw[VJ (by simp)];refine VG (Wq hT hd h3 ?_);rw[VN (by simp[rawInt])];refine VG (WT hT hd (Array.getElem?_eq_some_iff.mp h3).1 ?_);have ot:∀b,b≠T0->(s.heap.update T0 (Obj.mapFields (·.setIfInBounds 3 Value.none))).get? b=s.heap.get? b:=fun b hb=>W9 _ _ (Wr hb)
   have nr:∀b o,s.heap.get? b=some o->(∀vs,o.data≠.fields vs)->b≠T0:=fun b o hb hn z=>by
    rw[z,hT] at hb;cases hb;exact hn ts hd
   refine rY (s:={ s with heap:=s.heap.update T0 (Obj.mapFields (·.setIfInBounds 3 Value.none))}) hfr (hl.of_keeps fun b o hb hn=>⟨o,(ot b (nr b o hb hn)).trans hb,rfl⟩) hf ((ot e (Wr hne)).trans he) hz fun h' T x' n' N=>q h' T x' (.inl ?_) ?_
   ·have n2:(s.heap.update T0 (Obj.mapFields (·.setIfInBounds 3 Value.none))).objs.size<=T:=n';rw[Heap.size_update] at n2;exact n2
   ·exact⟨fun b o hb hn hbe hbt=>N.keep b o ((ot b fun z=>hbt (by rw[z])).trans hb) hn hbe (by simp),fun b o hb hbe hbt=>N.slot b o ((ot b fun z=>hbt (by rw[z])).trans hb) hbe (by simp)⟩
 ·exact wpAny_noteFrame_inFlight hf he rfl h1 hT hd h3 (q s.heap T (.inr ⟨T,vs,sl,rfl,he,hz,h1,ne,oT,ts,hT,hd,h3⟩) (.inr rfl) ⟨fun b o hb _ _ _=>hb,fun b o hb _ _=>⟨o.slots,hb⟩⟩)
theorem rS (x:zA s.heap e C dx (some T) L) (hfl:fl=none\/fl=some L)
  (q:∀h',zA h' e C dx (some T) L->(fl=none->mW h' e C dx (some T))->jm [] e (some T) s.heap h'->Q () { s with heap:=h'}):wpAny Md A (setFlight (.ref e) fl) Q E s:=by
 obtain⟨vs,sl,he,hz,h1,ne,oT,ts,hT,hd,z3⟩:∃vs sl,s.heap.get? e=some ⟨C,dx,.fields vs,sl⟩/\1<vs.size/\vs[1]? =some (.ref T)/\T≠e/\∃oT ts,s.heap.get? T=some oT/\oT.data=.fields ts/\3<ts.size:=by
  rcases x with⟨vs,sl,he,hz,h1,ne,oT,ts,hT,hd,h3⟩|⟨T',vs,sl,eT,he,hz,h1,ne,oT,ts,hT,hd,h3⟩
  ·exact⟨vs,sl,he,hz,h1,ne,oT,ts,hT,hd,(Array.getElem?_eq_some_iff.mp h3).1⟩
  ·cases eT;exact⟨vs,sl,he,hz,h1,ne,oT,ts,hT,hd,(Array.getElem?_eq_some_iff.mp h3).1⟩
 obtain⟨w,hw⟩:∃w:Value,w=fl.elim Value.none fun f=>rawInt f:=⟨_,rfl⟩
 have ot:∀b o,s.heap.get? b=some o->b≠T->(s.heap.update T (Obj.mapFields (·.setIfInBounds 3 w))).get? b=some o:=fun b o hb n=>(W9 _ _ (Wr n)).trans hb
 have nw:(s.heap.update T (Obj.mapFields (·.setIfInBounds 3 w))).get? T=some (Obj.mapFields (·.setIfInBounds 3 w) oT):=Wt _ hT (by
  obtain⟨c,d,dt,sl⟩:=oT;cases hd;rfl)
 have nd:(Obj.mapFields (·.setIfInBounds 3 w) oT).data=.fields (ts.setIfInBounds 3 w):=by
  obtain⟨c,d,dt,sl⟩:=oT;cases hd;rfl
 have n3:(ts.setIfInBounds 3 w)[3]? =some w:=by simp[z3]
 have kp:jm [] e (some T) s.heap (s.heap.update T (Obj.mapFields (·.setIfInBounds 3 w))):=⟨fun b o hb _ _ hn=>ot b o hb fun z=>hn (by rw[z]),fun b o hb _ hn=>⟨o.slots,ot b o hb fun z=>hn (by rw[z])⟩⟩
 unfold setFlight;refine VG (Wq he rfl h1 ?_);rw[VJ (show(Value.ref T != Value.none)=true from by simp),←hw];refine WT hT hd z3 ?_;rcases hfl with rfl|rfl
 ·have hw:w=.none:=hw;subst hw;have xo:mW (s.heap.update T (Obj.mapFields (·.setIfInBounds 3 .none))) e C dx (some T):=⟨vs,sl,ot _ _ he (Wr ne),hz,h1,ne,_,_,nw,nd,n3⟩
  exact q _ (.inl xo) (fun _=>xo) kp
 ·have hw:w=rawInt L:=hw;subst hw;exact q _ (.inr ⟨T,vs,sl,rfl,ot _ _ he (Wr ne),hz,h1,ne,_,_,nw,nd,n3⟩) (fun z=>by cases z) kp
end
section
variable {X:Cx}{pins:Zo}{σ:L2.St}{H:Hp}{s:Shared}{h h':Heap}{a:Addr}{C:Value}{dx tr:Zw}{fs:Zr}{P:Program}{w:World}
theorem rD (x:jn P w H h) (ha:H a=some (.ext (excP a C dx))) (ht:∀T,tr=some T->H T=none) (xo:excP a C dx h') (N:jm fs a tr h h') (hf:∀b∈fs,H b=none):jn P w H h':=fun b u e=>by
 by_cases hb:b=a
 ·subst hb;rw[ha] at e;cases e;exact B8 xo
 ·refine(x b u e).stay (fun c v hc q=>?_) (fun _ q=>q) fun _ _ q=>q
  have hn:∃u',H c=some u'/\c≠a:=by
   rcases hc with rfl|hc
   ·exact⟨u,e,hb⟩
   ·exact⟨_,hc,fun z=>by rw[z,ha] at hc;cases hc⟩
  obtain⟨u',e',hca⟩:=hn;exact N.keep c v q (fun z=>by rw[hf c z] at e';cases e') hca (fun z=>by rw[ht c z] at e';cases e')
theorem lz (I:Inv X pins σ H s) (xo:excP a C dx h') (N:jm fs a tr s.heap h') (hfs:∀b∈fs,b∈oR X.stack) (ha:H a=some (.ext (excP a C dx)))
  (ht:∀T,tr=some T->H T=none/\X.s₀.heap.objs.size<=T/\T≠X.env.locals/\(∀x c,X.env.cells.lookup x=some c->c≠T)/\∀p∈X.pn++pins,p.1≠T):Inv X pins σ H { s with heap:=h'}:=by
 have na:∀b,H b=none->b≠a:=fun b n z=>by rw[z,ha] at n;cases n
 refine I.call' (s':={ s with heap:=h'}) (ch:=tr.toList) rfl ⟨fun b o q n hc hx=>?_,fun b o q n hc hx=>?_,fun b o q n hx=>n,fun b o q hx=>?_,fun b xs q=>q,fun b o u q=>q,fun b ps q=>⟨#[],by rw[q];simp⟩⟩
  (rD I.hok ha (fun T z=>(ht T z).1) xo N fun b hb=>I.stkFree b (hfs b hb)) I.bare fun b hb=>?_
 ·exact N.keep b o q (fun z=>hc (hfs b z)) (na b n) fun z=>hx (by rw[z];simp)
 ·obtain⟨sl,e⟩:=N.slot b o q (na b n) fun z=>hx (by rw[z];simp)
  exact⟨sl,e⟩
 ·by_cases z:b=a
  ·obtain⟨vs,sl,e⟩:=xo;exact⟨_,by rw[z];exact e⟩
  ·obtain⟨sl,e⟩:=N.slot b o q z fun z=>hx (by rw[z];simp)
   exact⟨_,e⟩
 ·have z:tr=some b:=by
   cases tr with
   |none=>cases hb
   |some T=>simp at hb;rw[hb]
  obtain⟨_,h1,h2,h3,h4⟩:=ht b z;exact⟨.inr h1,h2,h3,h4⟩
end
inductive Vg (X:Cx) (E:XK) (e:Value) (s':Shared):Prop
 |mk (pins:Zo) (σ:L2.St) (H':Hp) (a:Addr) (C:Value) (dx tr:Zw):e=.ref a->Inv X pins σ H' s'->zA s'.heap a C dx tr X.env.locals->H' a=some (.ext (excP a C dx)) ->
 (∀T,tr=some T->H' T=none/\X.s₀.heap.objs.size<=T/\T≠X.env.locals/\(∀x c,X.env.cells.lookup x=some c->c≠T)/\∀p∈X.pn++pins,p.1≠T)->X.s₀.heap.objs.size<=a->E e (some a) H'->Vg X E e s'
abbrev Rz (X:Cx) (E:XK):Zm:=Vg X E
section
variable {X:Cx}{E:XK}
theorem nZ {xe:Zm}{pins:Zo}{σ:L2.St}{H:Hp}{s:Shared}(I:Inv (tryX X X.pn xe) pins σ H s) (ok:X.Ok):Inv X pins σ H s:=⟨ok,I.os,I.bare,I.base,I.loc,I.cell,I.free,I.freeC,I.pin,I.hok,I.len,I.fx⟩
theorem Qo (I:Inv X pins σ H s):Inv (tryX X X.pn xe) pins σ H s:=⟨Cx.Ok.tryX I.ok,I.os,I.bare,I.base,I.loc,I.cell,I.free,I.freeC,I.pin,I.hok,I.len,I.fx⟩
theorem Hs (hst:X.stack=X.env::X.outer) (hfr:X.env.frame=some X.env.locals):PassesOwn (model X.prog X.w) X.A X.env (Rz X E):=by
  rintro e s' ⟨pins,σ,H',a,C,dx,tr,rfl,I,x,ha,ht,na,hE⟩
  have fr:X.A.frames=some (X.env::X.outer):=by have:=I.ok.frames;rw[hst] at this;exact this
  have st:s'.heap.FunFrames X.base (X.env::X.outer):=by have:=I.stack;rw[hst] at this;exact this
  show wpAny _ _ (noteFrame (.ref a) X.env) _ _ s';refine Cd fr st hfr x fun h1 T x1 hT N1=>?_
  have I1:=lz I x1.p N1 (fun b hb=>by rw[hst];exact hb) ha ht;have fT:H' T=none/\X.s₀.heap.objs.size<=T/\T≠X.env.locals/\(∀x c,X.env.cells.lookup x=some c->c≠T)/\∀p∈X.pn++pins,p.1≠T:=by
    rcases hT with hT|hT
    · exact⟨I.hok.fresh hT,my I hT⟩
    · exact ht T hT
  obtain⟨vs,sl,he,h1'⟩:∃vs sl,h1.get? a=some ⟨C,dx,.fields vs,sl⟩/\vs[1]? =some (.ref T):=by
    rcases x1 with⟨vs,sl,he,hz,h1',_⟩|⟨T',vs,sl,eT,he,hz,h1',_⟩
    · exact⟨vs,sl,he,h1'⟩
    · cases eT;exact⟨vs,sl,he,h1'⟩
  show wpAny _ _ (do if(←field (.ref a) 1)==.none then unsupported "frame.own-activation:exception-without-traceback"
                     setFlight (.ref a) X.env.frame) _ _ _
  refine VG (Wq he rfl h1' ?_);rw[VN (by simp)];show wpAny _ _ (setFlight (.ref a) X.env.frame) _ _ _;refine(rS (s:={ s' with heap:=h1}) x1 (.inr hfr) fun h2 x2 _ N2=>?_);exact⟨pins,σ,H',a,C,dx,some T,rfl,lz I1 x2.p N2 (fun b hb=>by cases hb) ha (fun T' z=>by cases z;exact fT),x2,ha,fun T' z=>by cases z;exact fT,na,hE⟩
theorem Hn:fW (mY X.prog X.w) (tryX X X.pn (Rz X E)) E:=by
 intro pins σ H1 s1 e s' I h;obtain⟨a,C,dx,T,H',rfl,os,bare,un,hok,x,ha,hT,na,nT,hE⟩:=h;have ok:X.Ok:=⟨I.ok.mod,I.ok.kind,I.ok.glob,I.ok.blt,I.ok.above,I.ok.inj,I.ok.has,I.ok.cab,I.ok.hd,I.ok.frames,I.ok.stk,I.ok.exf,I.ok.bs,I.ok.bsz,I.ok.noex,I.ok.exfs,I.ok.funs,I.ok.frf⟩
 have I':=I.call' (ch:=[]) os un hok bare fun b z=>absurd z (by simp)
 exact⟨pins,σ,H',a,C,dx,some T,rfl,nZ I' ok,.inl x,ha,fun T' z=>by cases z;exact⟨hT,my I nT⟩,Wh I.sz na,hE⟩
end
section
variable {P:Program}{w:World}{K:Zl}{mg:Zn}{base:Heap}{N:Zv}{qual:Str}{sc:Scope}{f:Addr}{cdv:Value}{A:Around}{outer:Zy}{s:Shared}{H:Hp}{E:XK}
theorem II (h:Rz (fP (mY P w) P w K mg base N qual sc f cdv A outer s H E) E e s'):(fP (mY P w) P w K mg base N qual sc f cdv A outer s H E).xe e s':=by
 obtain⟨pins,σ,H',a,C,dx,tr,rfl,I,x,ha,ht,na,hE⟩:=h;show wpAny _ _ (leaving _ (.ref a)) _ _ s';unfold leaving;refine VG (Cd (L:=s.heap.objs.size) I.ok.frames I.stack rfl x fun h1 T x1 hT N1=>?_);have I1:=lz I x1.p N1 (fun b hb=>hb) ha ht;have fT:H' T=none/\s.heap.objs.size<=T:=by
  rcases hT with hT|hT
  ·exact⟨I.hok.fresh hT,Wh I.sz hT⟩
  ·exact⟨(ht T hT).1,(ht T hT).2.1⟩
 refine rS (s:={ s' with heap:=h1}) x1 (.inl rfl) fun h2 x2 xo N2=>?_
 have xo:=xo rfl;refine⟨a,C,dx,T,H',rfl,I.os,I.bare,?_,rD (fs:=[]) (tr:=some T) I1.hok ha (fun T' z=>by cases z;exact fT.1) xo.p N2 (fun b hb=>by cases hb),xo,ha,fT.1,na,fT.2,hE⟩;have n0:s.heap.get? a=none:=WR na;have nT0:s.heap.get? T=none:=WR fT.2;have u1:Un (oR outer) [] H H' s.heap h1:=Gc (L:=s.heap.objs.size) I.base N1 rfl (WR (VL _)) (WR na) (fun T' z=>WR (ht T' z).2.1);refine⟨fun b o q n hc hx=>N2.keep b o (u1.keep b o q n hc hx) (by simp) (fun z=>by rw[z,n0] at q;cases q) (fun z=>by cases z;rw[nT0] at q;cases q),fun b o q n hc hx=>?_,u1.free,fun b o q hx=>?_,u1.tups,u1.frzs,u1.tbls⟩
 ·obtain⟨sl,e⟩:=u1.slot b o q n hc hx;obtain⟨sl',e'⟩:=N2.slot b _ e (fun z=>by rw[z,n0] at q;cases q) (fun z=>by cases z;rw[nT0] at q;cases q);exact⟨sl',e'⟩
 ·obtain⟨o',e⟩:=u1.there b o q hx;obtain⟨sl',e'⟩:=N2.slot b _ e (fun z=>by rw[z,n0] at q;cases q) (fun z=>by cases z;rw[nT0] at q;cases q);exact⟨_,e'⟩
end
theorem E2 (c:QQ X.K C fi nm) (F:ei X.prog X.w X.K X.mg X.base mZ ki fi fd [self,at_] (TX C nm))
  (hr:aQ (ki+1) X.A) (hg:Gl X x) (hm:X.mg x=some (.ref C)) (hb:jq X.K fd [self,at_] [])
  (ha:PE (tryX X X.pn (Rz X E)) e t) (hdb:(x==("__debug__":Str))=false:=by decide)
  (he:∀env,starEach [e] env=[(false,eval e env)]:=by intro env;rfl) :
  PS (tryX X X.pn (Rz X E)) (.Raise (some (.Call (.Name x p) [e] [] cpos)) none pos) (fun _ σ H0=>t σ H0 fun v H1=>∃i,v=.int i/\i.natAbs.log2<1920 /\
   ∀a dx,H1 a=none->H1 dx=none->dx≠a->E (.ref a) (some a) (b6 (b6 H1 a (.ext (excP a (.ref C) (some dx)))) dx (.xd [(nm,.int i)]))):=by
 intro pins s0 σ H0 D I h;have hm':(tryX X X.pn (Rz X E)).mg x=some (.ref C):=hm;have okX:X.Ok:=⟨I.ok.mod,I.ok.kind,I.ok.glob,I.ok.blt,I.ok.above,I.ok.inj,I.ok.has,I.ok.cab,I.ok.hd,I.ok.frames,I.ok.stk,I.ok.exf,I.ok.bs,I.ok.bsz,I.ok.noex,I.ok.exfs,I.ok.funs,I.ok.frf⟩
 rw[arm_exec_Raise];refine VG (Yl (Au c.own hr.hd ?_));refine VG (Wj (X1 (gc I (show Gl (tryX X X.pn (Rz X E)) x from hg) hm' ?_ hdb)) (fun v s₃ h₃=>VG (Yl (VO h₃))) fun _ _ x=>x)
 let W:V->Hp->Prop:=fun v H1=>∃i,v=.int i/\i.natAbs.log2<1920/\∀a dx,H1 a=none->H1 dx=none->dx≠a->E (.ref a) (some a) (b6 (b6 H1 a (.ext (excP a (.ref C) (some dx)))) dx (.xd [(nm,.int i)]))
 refine PySem.W.callWith_K (h₀:=X.base) I.ok.mod.kin c.kp (bP ((g9 ha nk (he _)) cpos pins s0 σ H0 (fun vs H1=>match vs with|[v]=>W v H1|_=>False) I h) fun us s1 ⟨vs,H1,I1,r,q⟩=>⟨I1.kIn,?_⟩) (he _) rfl;cases r with
 |nil=>exact q.elim
 | @cons v u vs' us' rv rs =>
  cases rs with
  |cons _ _=>exact q.elim
  |nil =>
   obtain⟨i,rfl,hi,q⟩:=q;obtain⟨nm',qn,N',bs,bm,hd,sn,sub,ab,col,dd,k0,k1,k2,k3,k5,mN,hC,hn,hi',T⟩:=uW I1.kIn c.own;have I2:=(I1.kept (h':=s1.heap.push { cls:=.type "tuple",data:=.seq [u].toArray}) (t':=s1.toks) fun b o e=>VH _ e).laid (a:=s1.heap.objs.size+1) (o:=.ext (rawP (s1.heap.objs.size+1) (.ref C) none)) (h':=g0 s1.heap C [u]) (t':=s1.toks)
    (fun b o e=>VH _ e) (by show _<=_;exact Xg (WS _ _)) (At ⟨s1.heap.objs.size,YK (by rw[WS]) rfl⟩)
   have fa:H1 (s1.heap.objs.size+1)=none:=I1.hok.fresh (Y0 _);obtain⟨hp,g,d,tk,os⟩:=s1;have sp:=F.run _ _ _ _ ⟨[.ref (hp.objs.size+1),u],[]⟩ [.ref (hp.objs.size+1),u] [.ref (hp.objs.size+1),.int i] (fun v H3=>v=.non/\∃dx,b6 H1 (hp.objs.size+1) (.ext (rawP (hp.objs.size+1) (.ref C) none)) dx=none/\H3=b6 (b6 (b6 H1 (hp.objs.size+1) (.ext (rawP (hp.objs.size+1) (.ref C) none))) (hp.objs.size+1) (.ext (rawP (hp.objs.size+1) (.ref C) (some dx)))) dx (.xd [(nm,.int i)])) E0
    (hr.make C [u] []) (I2.env0.make C [u] []) (hb _ [.ref (hp.objs.size+1),u] I2.kIn rfl) (.cons rfl (.cons rv .nil)) ⟨hp.objs.size+1,i,rfl,hi,aw,fun dx hdx=>⟨rfl,dx,hdx,rfl⟩⟩
   refine wA (us:=[u]) PySem.F.excBase_ValueError T hC hn hi' (by rw[Wb];exact show 1<=16777216 by decide) (PySem.W.bind_fn I2.kIn _ (beq_iff_eq.mp c.fn)) (Xy (Yy sp fun r s' hq'=>?_));cases r with
   |error e'=>exact hq'.elim
   |ok fl =>
    cases fl with
    |next=>exact False.elim hq'
    |brk=>exact False.elim hq'
    |cont=>exact False.elim hq'
    |ret u' =>
     obtain⟨v',H3,I3,rv',rfl,dx,hdx,rfl⟩:=I2.after hq';have ne:dx≠hp.objs.size+1:=fun z=>by rw[z,aw] at hdx;cases hdx
     have hd1:H1 dx=none:=by rw[ak ne] at hdx;exact hdx
     have e3:b6 (b6 (b6 H1 (hp.objs.size+1) (.ext (rawP (hp.objs.size+1) (.ref C) none))) (hp.objs.size+1) (.ext (rawP (hp.objs.size+1) (.ref C) (some dx)))) dx (.xd [(nm,.int i)]) (hp.objs.size+1)=some (.ext (rawP (hp.objs.size+1) (.ref C) (some dx))):=by
      rw[ak (Wr ne),aw]
     obtain⟨raw,-,-⟩:=I3.hok _ _ e3;refine⟨rv',hp.objs.size+1,some dx,rfl,I3.kIn,raw,?_⟩;have xo:=raw.x;have I4:=I3.write (x:=hp.objs.size+1) (e:=hp.objs.size+1) (o:=.ext (excP (hp.objs.size+1) (.ref C) (some dx))) (h':=s'.heap) (t':=s'.toks) (by rw[e3];trivial) (.inl rfl) (fun b o _ z=>z) (let⟨_,z⟩:=raw;⟨_,z⟩) (B8 xo.p);have eH:b6 (b6 (b6 (b6 H1 (hp.objs.size+1) (.ext (rawP (hp.objs.size+1) (.ref C) none))) (hp.objs.size+1) (.ext (rawP (hp.objs.size+1) (.ref C) (some dx)))) dx (.xd [(nm,.int i)])) (hp.objs.size+1) (.ext (excP (hp.objs.size+1) (.ref C) (some dx))) =
       b6 (b6 H1 (hp.objs.size+1) (.ext (excP (hp.objs.size+1) (.ref C) (some dx)))) dx (.xd [(nm,.int i)]):=by
      funext b
      by_cases z:b=hp.objs.size+1
      ·subst z;rw[aw,ak (Wr ne),aw]
      ·rw[ak z];by_cases z':b=dx
       ·subst z';rw[aw,aw]
       ·rw[ak z',ak z',ak z,ak z,ak z]
     rw[eH] at I4;exact⟨pins,σ,_,hp.objs.size+1,.ref C,some dx,none,rfl,nZ I4 okX,.inl xo,by rw[ak (Wr ne),aw],(fun T z=>by cases z),Wh I1.sz (Y0 _),q _ _ fa hd1 ne⟩
theorem EA (hx:xc k=(cn,some nm)) (hcn:cA X.K cn=C) (c:QQ X.K C fi nm) (F:ei X.prog X.w X.K X.mg X.base mZ ki fi fd [self,at_] (TX C nm))
  (hr:aQ (ki+1) X.A) (hg:Gl X x) (hm:X.mg x=some (.ref C)) (hb:jq X.K fd [self,at_] [])
  (ha:ME (tryX X X.pn (Rz X E)) (vS X.K xc E) e m) (hdb:(x==("__debug__":Str))=false:=by decide)
  (he:∀env,starEach [e] env=[(false,eval e env)]:=by intro env;rfl) :
  MS (tryX X X.pn (Rz X E)) (vS X.K xc E) (.Raise (some (.Call (.Name x p) [e] [] cpos)) none pos) (qU k m):=by
 obtain⟨t,pt,st⟩:=ha;refine⟨_,E2 c F hr hg hm hb pt hdb he,fun Z O G H σ ρ U D R g=>?_⟩;refine st Z O G H σ ρ U _ R (GE.step (G:=GS X.K (vS X.K xc E) Z O G D) g (fun _ _ h=>h) (fun h=>h) fun d U1 v O1 F1 H1 R1 e1 p1 g1=>?_);cases d with
 |int i =>
  dsimp only at g1;split at g1
  ·rename_i hi;obtain rfl:v=.int i:=p1;refine⟨i,rfl,hi,fun a dx ha hd ne=>?_⟩;have eH:del (b6 (b6 H1 a (.ext (excP a (.ref C) (some dx)))) dx (.xd [(nm,.int i)])) a dx=H1:=by
    funext b
    unfold del;split
    ·rename_i z;rcases z with z|z
     ·rw[z,ha]
     ·rw[z,hd]
    ·rename_i z;rw[ak (fun q=>z (.inr q)),ak (fun q=>z (.inl q))]
   refine g1 a dx (.int i) O1 F1 _ (by rw[eH];exact R1) rfl ?_;rw[hx];exact⟨by rw[ak (Wr ne),aw,hcn],aw⟩
  ·exact g1.elim
 |_=>exact g1.elim
section
variable {P:Program}{w:World}{K:Zl}{mg:Zn}{base:Heap}{xc:K3}
theorem PR (R:Tt X.prog X.w X.K X.mg X.base x nm ki) (hx:xc k=(x,some nm)) (hr:aQ (ki+1) X.A) (hg:Gl X x)
  (ha:ME (tryX X X.pn (Rz X E)) (vS X.K xc E) e m) (hdb:(x==("__debug__":Str))=false:=by decide) (he:∀env,starEach [e] env=[(false,eval e env)]:=by intro env;rfl) :
  MS (tryX X X.pn (Rz X E)) (vS X.K xc E) (.Raise (some (.Call (.Name x p) [e] [] cpos)) none pos) (qU k m):=by
 obtain⟨fi,fd,self,at_,h1,c,hb,F⟩:=R;exact EA hx rfl c F hr hg h1 (.all hb) ha hdb he
theorem yR {x:Str}{st:Stmt}{N ps:Zv}{k j n:Nat}(F:wS K x x st f fd) (S:cX N ps (af st)) (hj:N.length-ps.length=j) (hn:ps.length=n)
  (hb:∀(cdv:Value) (A:Around) (outer:Zy) (s:Shared) (H:Hp) (E:XK),aQ k (A.deeper (envOfC x (af st) s.heap.objs.size f cdv)) ->
   MSs (tryX (fP (mY P w) P w K mg base N x (af st) f cdv A outer s H E) [] (Rz (fP (mY P w) P w K mg base N x (af st) f cdv A outer s H E) E)) (vS K xc E) (bU st) b):ei P w K mg base (mY P w) (k+1) f fd ps (N3 K xc n (fnOf j b)):=by
 refine Jf F S hj hn fun cdv A outer s H E hr=>?_
 obtain⟨t,p,q⟩:=hb cdv A outer s H E hr;refine⟨t,fun pins s' σ H' D I h=>?_,q⟩;refine Wj (p pins s' σ H' D (Qo I) h) (fun fl s2 z=>?_) fun e s2 z=>II z
 cases fl with
 |next=>obtain⟨σ2,H2,I2,q2⟩:=z;exact⟨σ2,H2,nZ I2 I.ok,q2⟩
 |brk=>obtain⟨σ2,H2,I2,q2⟩:=z;exact⟨σ2,H2,nZ I2 I.ok,q2⟩
 |cont=>obtain⟨σ2,H2,I2,q2⟩:=z;exact⟨σ2,H2,nZ I2 I.ok,q2⟩
 |ret u=>obtain⟨v,σ2,H2,I2,r,q2⟩:=z;exact⟨v,σ2,H2,nZ I2 I.ok,r,q2⟩
end
def whGo (t:MB) (n:bD):Nat->En->Mu->Res Out
 |0,_,_=>.bad
 |k+1,ρ,U=>(t ρ U).bind fun b U1=>if b=true then(n ρ U1).bind fun o U2=>match o with
   |.nx ρ2=>whGo t n k ρ2 U2
   |.ct ρ2=>whGo t n k ρ2 U2
   |.bk ρ2=>.ok (.nx ρ2) U2
   |.rt d=>.ok (.rt d) U2
  else .ok (.nx ρ) U1
def mWhile (k:Nat) (t:MB) (n:bD):bD:=fun ρ U=>whGo t n k ρ U
theorem HX (k:Nat) (hp:PassesOwn (model X.prog X.w) X.A X.env X.xe) (hc:MT X EX c t) (hb:MSs X EX body n):MS X EX (.While c body [] pos) (mWhile k t n):=by
 obtain⟨tc,pc,sc⟩:=hc;obtain⟨tb,pb,sb⟩:=hb;refine⟨_,GY hp pc pb,fun Z O F H σ ρ U D R g=>?_⟩;refine⟨fun m σ H=>∃O' F' ρ' U',RS X.K Z O' F' H σ ρ' U'/\Ext O F O' F'/\GS X.K EX Z O F D (whGo t n m ρ' U'),⟨k,O,F,ρ,U,R,Ext.refl _ _,g⟩,?_⟩
 rintro m σ1 H1 ⟨O1,F1,ρ1,U1,R1,e1,g1⟩
 cases m with
 |zero=>exact g1.elim
 |succ m =>
  refine sc Z O1 F1 H1 σ1 ρ1 U1 _ R1 (GB.step (G:=GS X.K EX Z O F D) g1 (fun _ _ h=>h) (fun h=>h) fun b U2 O2 F2 H2 R2 e2 g2=>?_);cases b with
  |false =>
   rw[VN (by decide)] at g2 ⊢;exact g2 σ1 O2 F2 H2 (R1.to R2 e2) (e1.trans e2)
  |true =>
   rw[VJ rfl] at g2 ⊢;refine⟨fun σ' H'=>∃O' F' ρ' U',RS X.K Z O' F' H' σ' ρ' U'/\Ext O F O' F'/\GS X.K EX Z O F D (whGo t n m ρ' U'),fun σ' H' h=>⟨m,YO m,h⟩,?_⟩;refine sb Z O2 F2 H2 σ1 ρ1 U2 _ (R1.to R2 e2) ?_;cases er:n ρ1 U2 with
   |bad=>rw[er] at g2;exact g2
   |exc x U3=>rw[er] at g2;exact g2
   |ok o U3 =>
    rw[er] at g2;cases o with
    |nx ρ3=>exact fun σ' O' F' H' R' e'=>⟨O',F',ρ3,U3,R',e1.trans (e2.trans e'),g2⟩
    |ct ρ3=>exact fun σ' O' F' H' R' e'=>⟨O',F',ρ3,U3,R',e1.trans (e2.trans e'),g2⟩
    |bk ρ3=>exact fun σ' O' F' H' R' e'=>g2 σ' O' F' H' R' (e1.trans (e2.trans e'))
    |rt d=>exact fun v O' F' H' R' e' r'=>g2 v O' F' H' R' (e1.trans (e2.trans e')) r'
def kP (nm:Str):Zv->List β->Option β
 |n::ns,d::ds=>if n=nm then some d else kP nm ns ds
 |_,_=>none
def putN (nm:Str) (v:β):Zv->List β->Zv×List β
 |n::ns,d::ds=>if n=nm then(n::ns,v::ds) else(n::(putN nm v ns ds).1,d::(putN nm v ns ds).2)
 |_,_=>([nm],[v])
theorem rK :∀(ns:Zv) (vs:List V),(ns.zip vs).lookup nm=kP nm ns vs
 |[],_=>rfl
 |_::_,[]=>rfl
 |n::ns,v::vs=>by
  show List.lookup nm ((n,v)::ns.zip vs)=_;rw[Wc];unfold kP;by_cases h:n=nm
  ·subst h;rw[VJ rfl];simp
  ·rw[VN h,show(nm==n)=false from beq_eq_false_iff_ne.mpr fun z=>h z.symm];exact rK ns vs
theorem xI :∀(ns:Zv) (vs:List V),ns.length=vs.length->iF nm v (ns.zip vs)=(putN nm v ns vs).1.zip (putN nm v ns vs).2
 |[],[],_=>rfl
 |[],_::_,h=>by simp at h
 |_::_,[],h=>by simp at h
 |n::ns,w::vs,h=>by
  show(if n=nm then(n,v)::ns.zip vs else(n,w)::iF nm v (ns.zip vs))=_;unfold putN;by_cases z:n=nm
  ·rw[VJ z,VJ z];rfl
  ·rw[VN z,VN z,xI ns vs (by simpa using h)];rfl
theorem rL {K:Zl}{F:Hp} :∀{ns:Zv}{ds:ZE}{vs:List V}{d:D},Reps K F O ds vs->kP nm ns ds=some d->∃v,kP nm ns vs=some v/\aG K F O d v
 |[],_,_,_,_,h=>by cases h
 |_::_,[],_,_,_,h=>by cases h
 |n::ns,d::ds,vs,e,r,h=>by
  unfold Reps at r;obtain⟨v,vr,rfl,r1,r2⟩:=r;unfold kP at h ⊢;split at h
  ·rename_i z;cases h;exact⟨v,by rw[VJ z],r1⟩
  ·rename_i z;rw[VN z];exact rL r2 h
theorem xJ {K:Zl}{F:Hp}{O:Zr}(hd:aG K F O d v):∀{ns:Zv}{ds:ZE}{vs:List V},ns.length=ds.length->Reps K F O ds vs->(putN nm d ns ds).1=(putN nm v ns vs).1/\Reps K F O (putN nm d ns ds).2 (putN nm v ns vs).2/\(putN nm d ns ds).1.length=(putN nm d ns ds).2.length
 |[],[],vs,_,r=>by
  have:vs=[]:=List.length_eq_zero_iff.mp r.length.symm;subst this;exact⟨rfl,aa hd ax,rfl⟩
 |[],_::_,_,h,_=>by simp at h
 |_::_,[],_,h,_=>by simp at h
 |n::ns,e::ds,vs,h,r=>by
  unfold Reps at r;obtain⟨w,vr,rfl,r1,r2⟩:=r;unfold putN;by_cases z:n=nm
  ·rw[VJ z,VJ z];exact⟨rfl,aa hd r2,by simpa using h⟩
  ·rw[VN z,VN z];obtain⟨h1,h2,h3⟩:=xJ hd (ns:=ns) (by simpa using h) r2;exact⟨by rw[h1],aa r1 h2,by simp[h3]⟩
def ny (ok:Str->Bool) (d:D) (U:Mu):Option (Nat×Str×Zv×ZE):=match d with
 |.ref k=>match U[k]? with
  |some (.obj c ns ds)=>if ok c=true then some (k,c,ns,ds) else none
  |_=>none
 |_=>none
theorem vb {K:Zl}{Z:ZS}{O:Zr}{F H:Hp}{U:Mu}{ok:Str->Bool}(R:RH K Z O F H U) (p:aG K F O d v) (h:ny ok d U=some (k,c,ns,ds)) :
  ∃a dx vs,v=.ref a/\d=.ref k/\ok c=true/\O[k]? =some a/\U[k]? =some (.obj c ns ds)/\F a=none/\H a=some (.ins (cA K c) dx (ns.zip vs))/\ns.length=ds.length/\Reps K F O ds vs:=by
 cases d with
 |ref j =>
  unfold ny at h;dsimp only at h;split at h
  ·rename_i c' ns' ds' hj;split at h
   ·rename_i hok;cases h;unfold aG at p;obtain⟨a,ha,rfl⟩:=p;obtain⟨h1,dx,vs,h2,h3,h4⟩:=R.cell k a _ ha hj;exact⟨a,dx,vs,rfl,rfl,hok,ha,hj,h1,h2,h3,h4⟩
   ·cases h
  ·cases h
 |_=>cases h
section
variable {X:Cx}{EX:EXT}{o e value:Expr}{m mo mv:MX}{pos pos' tpos:Pos}
abbrev QW (X:Cx) (ok:Str->Bool) (nm:Str):Prop:=∀c,ok c=true->K4 X.K (cA X.K c)/\fg X.K (cA X.K c) nm
def mAttr (ok:Str->Bool) (nm:Str) (m:MX):MX:=fun ρ U=>(m ρ U).bind fun d U1=>ofO U1 ((ny ok d U1).bind fun q=>kP nm q.2.2.1 q.2.2.2)
theorem mj {ok:Str->Bool}(hC:QW X ok nm) (ha:ME X EX e m) (hb:attributeBase e nm X.env (eval e X.env)=eval e X.env:=by rfl):ME X EX (.Attribute e nm pos) (mAttr ok nm m):=by
 obtain⟨t,pt,st⟩:=ha;refine⟨_,Pa pt hb,fun Z O F H σ ρ U Q R g=>?_⟩;refine st Z O F H σ ρ U _ R (GE.step (G:=GE X.K EX Z O F Q) g (fun _ _ h=>h) (fun h=>h) fun d U1 v O1 F1 H1 R1 e1 p1 g1=>?_);cases h:ny ok d U1 with
 |none=>rw[h] at g1;exact g1.elim
 |some q =>
  obtain⟨k,c,ns,ds⟩:=q;rw[h] at g1;obtain⟨a,dx,vs,rfl,rfl,hk,ha,hc,hF,hH,hl,hr⟩:=vb R1 p1 h;cases hg:kP nm ns ds with
  |none=>simp only[Wl,hg] at g1;exact g1.elim
  |some y =>
   simp only[Wl,hg] at g1;obtain⟨u,hu,ru⟩:=rL hr hg;exact⟨a,_,dx,_,u,rfl,hH,(hC c hk).1,(hC c hk).2,by rw[rK];exact hu,g1 u O1 F1 H1 R1 e1 ru⟩
def xy (ok:Str->Bool) (nm:Str) (ρ:En) (d v:D) (U:Mu):Res Out:=match ny ok d U with
 |some q=>if q.2.2.1.length<900 then .ok (.nx ρ) (U.set q.1 (.obj q.2.1 (putN nm v q.2.2.1 q.2.2.2).1 (putN nm v q.2.2.1 q.2.2.2).2)) else .bad
 |none=>.bad
theorem BC {K:Zl}{Z:ZS}{O:Zr}{nm:Str}{ρ:En}{d v:D}{x y:V}{G:Res Out->Prop}(hb:¬G .bad) (R:RH K Z O F H U) (p:aG K F O d x) (q:aG K F O v y) (g:G (xy ok nm ρ d v U)) :
  ∃a c dx fs U',x=.ref a/\ok c=true/\H a=some (.ins (cA K c) dx fs)/\fs.length<1000/\RH K Z O F (b6 H a (.ins (cA K c) dx (iF nm y fs))) U'/\G (.ok (.nx ρ) U'):=by
 unfold xy at g;cases h:ny ok d U with
 |none=>rw[h] at g;exact absurd g hb
 |some w =>
  obtain⟨k,c,ns,ds⟩:=w;rw[h] at g;dsimp only at g;split at g
  ·rename_i hn;obtain⟨a,dx,vs,rfl,rfl,hk,ha,hc,hF,hH,hl,hr⟩:=vb R p h;obtain⟨h1,h2,h3⟩:=xJ (nm:=nm) q hl hr;refine⟨a,c,dx,_,_,rfl,hk,hH,?_,R.setCell (c:=.obj c (putN nm v ns ds).1 (putN nm v ns ds).2) ha hc (by simp) ⟨hF,dx,(putN nm y ns vs).2,by rw[aw,xI ns vs (hl.trans hr.length),←h1],h3,h2⟩,g⟩;rw[XT];omega
  ·exact absurd g hb
def mSetA (ok:Str->Bool) (nm:Str) (mo mv:MX):bD:=fun ρ U=>(mv ρ U).bind fun v U1=>(mo ρ U1).bind fun d U2=>xy ok nm ρ d v U2
theorem kz {ok:Str->Bool}{nm:Str}(hC:QW X ok nm) (ho:ME X EX o mo) (hv:ME X EX value mv) (hs:swapsWith value (some (.Attribute o nm pos')) pos.line X.env=pure false:=by rfl):MS X EX (.Assign [.Attribute o nm pos'] value pos) (mSetA ok nm mo mv):=by
 obtain⟨to,po,so⟩:=ho;obtain⟨tv,pv,sv⟩:=hv;refine⟨_,OZ po pv hs,fun Z O F H σ ρ U N R g=>?_⟩;refine sv Z O F H σ ρ U _ R (GE.step (G:=GS X.K EX Z O F N) g (fun _ _ h=>h) (fun h=>h) fun v U1 y O1 F1 H1 R1 e1 p1 g1=>?_);refine so Z O1 F1 H1 σ ρ U1 _ (R.to R1 e1) (GE.step (G:=GS X.K EX Z O F N) g1 (fun _ _ h=>h) (fun h=>h) fun d U2 x O2 F2 H2 R2 e2 p2 g2=>?_);obtain⟨a,c,dx,fs,U',rfl,hk,hH,hl,R3,g3⟩:=BC (G:=GS X.K EX Z O F N) (fun h=>h) R2 p2 (p1.mono e2) g2;exact⟨a,_,dx,fs,rfl,hH,(hC c hk).1,(hC c hk).2,hl,g3 σ O2 F2 _ ((R.to R2 (e1.trans e2)).to R3 (Ext.refl _ _)) (e1.trans e2)⟩
def addI (a b:D):ZF:=match a,b with
 |.int i,.int j=>some (.int (i+j))
 |_,_=>none
def mAugA (ok:Str->Bool) (nm:Str) (mo mv:MX):bD:=fun ρ U=>(mo ρ U).bind fun d U1=>match(ny ok d U1).bind fun q=>kP nm q.2.2.1 q.2.2.2 with
 |some w=>(mv ρ U1).bind fun y U2=>match addI w y with
  |some z=>xy ok nm ρ d z U2
  |none=>.bad
 |none=>.bad
theorem Cj {ok:Str->Bool}{nm:Str}(hC:QW X ok nm) (hone:∀c c',ok c=true->ok c'=true->c=c') (ho:ME X EX o mo) (hv:ME X EX value mv):MS X EX (.AugAssign (.Attribute o nm tpos) .Add value pos) (mAugA ok nm mo mv):=by
 obtain⟨to,po,so⟩:=ho;obtain⟨tv,pv,sv⟩:=hv;refine⟨_,E3 po pv Qp,fun Z O F H σ ρ U N R g=>?_⟩;refine so Z O F H σ ρ U _ R (GE.step (G:=GS X.K EX Z O F N) g (fun _ _ h=>h) (fun h=>h) fun d U1 x O1 F1 H1 R1 e1 p1 g1=>?_);cases h:ny ok d U1 with
 |none=>rw[h] at g1;exact g1.elim
 |some q =>
  obtain⟨k,c,ns,ds⟩:=q;rw[h] at g1;obtain⟨a,dx,vs,rfl,rfl,hk,ha,hc,hF,hH,hl,hr⟩:=vb R1 p1 h;cases hg:kP nm ns ds with
  |none=>simp only[Wl,hg] at g1;exact g1.elim
  |some w =>
   simp only[Wl,hg] at g1;obtain⟨u,hu,ru⟩:=rL hr hg;refine⟨a,_,dx,_,u,rfl,hH,(hC c hk).1,(hC c hk).2,by rw[rK];exact hu,?_⟩;refine sv Z O1 F1 H1 σ ρ U1 _ (R.to R1 e1) (GE.step (G:=GS X.K EX Z O F N) g1 (fun _ _ h=>h) (fun h=>h) fun y U2 v O2 F2 H2 R2 e2 p2 g2=>?_);cases hz:addI w y with
   |none=>rw[hz] at g2;exact g2.elim
   |some z =>
    rw[hz] at g2;have g2:GS X.K EX Z O F N (xy ok nm ρ (.ref k) z U2):=g2;cases w with
    |int i =>
     cases y with
     |int j =>
      cases hz;obtain rfl:u=.int i:=ru;obtain rfl:v=.int j:=p2;obtain⟨a',c',dx',fs',U',ea,hk',hH',hl',R3,g3⟩:=BC (G:=GS X.K EX Z O F N) (y:=.int (i+j)) (fun h=>h) R2 (p1.mono e2) (cv _) g2;cases ea;obtain rfl:=hone c c' hk hk';exact⟨i,j,rfl,rfl,dx',fs',hH',hl',g3 σ O2 F2 _ ((R.to R2 (e1.trans e2)).to R3 (Ext.refl _ _)) (e1.trans e2)⟩
     |_=>cases hz
    |_=>cases hz
end
theorem RH.extra {K:Zl}{Z:ZS}{O:Zr}(o:HO) (r:RH K Z O F H U) (hp:H p=none):RH K Z O F (b6 H p o) U:=by
 refine⟨fun b u e=>?_,r.len,fun k a c ha hc=>?_,fun b u e=>?_,r.zf,r.zc,r.dis,r.ext⟩
 ·rw[ak (az (r.sub b u e) hp)];exact r.sub b u e
 ·have h:=r.cell k a c ha hc;exact h.go (Ext.refl _ _) (fun _=>rfl) fun hd=>let⟨_,_,z⟩:=h.live hd;ak (az z hp)
 ·rw[ak (az (r.zs b u e) hp)];exact r.zs b u e
def HR (c:Str) (φ:Fn) (ds:ZE) (U:Mu):Res D:=(noX (φ (.ref U.length::ds) (U++[.obj c [] []]))).bind fun r U2=>match r with
 |.non=>.ok (.ref U.length) U2
 |_=>.bad
def mNew (c:Str) (φ:Fn) (ms:l7):MX:=fun ρ U=>(ms ρ U).bind (HR c φ)
def QV (P:Program) (w:World) (K:Zl) (mg:Zn) (base:Heap) (x:Str) (k n:Nat) (φ:Fn):Prop :=
 ∃f fd ps,mg x=some (.ref (cA K x))/\Mk K (cA K x) f/\fY fd ps/\ps.length=n+1/\ei P w K mg base mZ k f fd ps (Ag K (n+1) φ)
section
variable {X:Cx}{EX:EXT}{e:Expr}{es:Zx}{ms:l7}{p pos:Pos}
theorem HQ (R1:RH X.K Z O1 F1 H1 U1) (e1:Ext O F O1 F1) (r:Reps X.K F1 O1 ds vs) (hl:ds.length=n) (g:GE X.K EX Z O F Q (HR c φ ds U1)) :
  ∀x dx,H1 x=none->H1 dx=none->dx≠x->Ag X.K (n+1) φ (.ref x::vs) (b6 (b6 H1 dx (.own x)) x (.ins (cA X.K c) dx [])) (fun v H2=>v=.non/\Q (.ref x) H2) E0:=by
 intro x dx hx hd ne;have R2:=(R1.extra (.own x) hd).newCell (p:=x) (o':=.ins (cA X.K c) dx []) (c:=.obj c [] []) (by rw[ak (Wr ne)];exact hx) ⟨CM R1 hx,dx,[],aw,rfl,ax⟩;have hrx:aG X.K F1 (O1++[x]) (.ref U1.length) (.ref x):=by
  unfold aG;exact⟨x,by rw[←R1.len,VQ (VL _),Wm];rfl,rfl⟩
 refine⟨Z,O1++[x],F1,.ref U1.length::ds,U1++[.obj c [] []],R2,aa hrx (r.mono (cP _ _ _)),by rw[W1,hl],?_⟩;unfold HR at g;cases er:φ (.ref U1.length::ds) (U1++[.obj c [] []]) with
 |bad=>rw[er] at g;exact g
 |exc y U2=>rw[er] at g;exact g.elim
 |ok d U2 =>
  rw[er] at g;cases d with
  |non =>
   intro v O' F' H' R' e' r';refine⟨?_,g _ O' F' H' R' (e1.trans ((cP _ _ _).trans e')) (hrx.mono e')⟩;unfold aG at r';exact r'
  |_=>exact g.elim
theorem LG (mka:QV X.prog X.w X.K X.mg X.base c k 0 φ) (hr:aQ (k+1) X.A) (hg:Gl X c) (hdb:(c==("__debug__":Str))=false:=by decide):ME X EX (.Call (.Name c p) [] [] pos) (mNew c φ mNil):=by
 obtain⟨f,fd,ps,h1,mk,hb,hl,F⟩:=mka;refine⟨_,He mk F hr hg h1 (.all hb) .nil Ho hdb,fun Z O G H σ ρ U Q R g=>?_⟩;intro x dx hx hd ne;exact HQ (n:=0) R.hp (Ext.refl _ _) ax rfl g x dx hx hd ne
end
section
variable {P:Program}{w:World}{K:Zl}{mg:Zn}{base:Heap}
theorem Jg {x qual:Str}{st:Stmt}{N ps:Zv}{k j n:Nat}(F:wS K x qual st f fd) (S:cX N ps (af st)) (hj:N.length-ps.length=j) (hn:ps.length=n)
  (hb:∀(cdv:Value) (A:Around) (outer:Zy) (s:Shared) (H:Hp) (E:XK),aQ k (A.deeper (envOfC qual (af st) s.heap.objs.size f cdv)) ->
   MSs (fP mZ P w K mg base N qual (af st) f cdv A outer s H E).nox Ds (bU st) b):ei P w K mg base mZ (k+1) f fd ps (Ag K n (fnOf j b)):=by
 subst hn;exact NK F S hj hb
def Vh (K:Zl) (mg:Zn) (x qual:Str) (st:Stmt) (ps:Zv):Prop:=∃f fd,mg x=some (.ref (cA K x))/\Mk K (cA K x) f/\wS K "__init__" qual st f fd/\fY fd ps
theorem Lz {x qual:Str}{st:Stmt}{ps:Zv}(D:Vh K mg x qual st ps) (hn:ps.length=n+1) (hb:∀(f:Addr) (fd:FuncData),wS K "__init__" qual st f fd->ei P w K mg base mZ k f fd ps (Ag K (n+1) φ)):QV P w K mg base x k n φ:=by
 obtain⟨f,fd,h1,h2,h3,h4⟩:=D;exact⟨f,fd,ps,h1,h2,h4,hn,hb f fd h3⟩
end
def mDic0:MX:=fun _ U=>.ok (.ref U.length) (U++[.dic [] []])
theorem LJ :ME X EX (.Dict [] [] pos) mDic0:=by
 refine⟨_,Hh,fun Z O F H σ ρ U Q R g=>?_⟩;intro p hp;have R1:=R.hp.newCell (p:=p) (o':=.dK []) (c:=.dic [] []) hp ⟨CM R.hp hp,[],aw,rfl,ax⟩;refine g _ (O++[p]) F _ R1 (cP _ _ _) ?_;unfold aG;exact⟨p,by rw[←R.hp.len,VQ (VL _),Wm];rfl,rfl⟩
theorem Nq (h:us.length=0):us=[]:=List.length_eq_zero_iff.mp h
theorem yp (h:us.length=n+1):∃a vs,us=a::vs/\vs.length=n:=by
 cases us with
 |nil=>cases h
 |cons a vs=>exact⟨a,vs,rfl,Nat.succ.inj h⟩
theorem IH (h:us.length=1):∃a,us=[a]:=by
 obtain⟨a,vs,rfl,q⟩:=yp h;cases Nq q;exact⟨a,rfl⟩
theorem IG (h:us.length=2):∃a b,us=[a,b]:=by
 obtain⟨a,vs,rfl,q⟩:=yp h;obtain⟨b,rfl⟩:=IH q;exact⟨a,b,rfl⟩
theorem Np (h:us.length=3):∃a b c,us=[a,b,c]:=by
 obtain⟨a,vs,rfl,q⟩:=yp h;obtain⟨b,c,rfl⟩:=IG q;exact⟨a,b,c,rfl⟩
theorem No (h:us.length=4):∃a b c d,us=[a,b,c,d]:=by
 obtain⟨a,vs,rfl,q⟩:=yp h;obtain⟨b,c,d,rfl⟩:=Np q;exact⟨a,b,c,d,rfl⟩
theorem SB (h:us.length=5):∃a b c d e,us=[a,b,c,d,e]:=by
 obtain⟨a,vs,rfl,q⟩:=yp h;obtain⟨b,c,d,e,rfl⟩:=No q;exact⟨a,b,c,d,e,rfl⟩
section
variable {X:Cx}{EX:EXT}{o:Expr}{mo:MX}
def intsOf:ZE->Option (ZC)
 |[]=>some []
 |.int b::r=>(intsOf r).map (b:: ·)
 |_=>none
def Qq:GL:=fun ds=>match ds with
 |[.lst xs]=>(intsOf xs).map fun bs=>.int bs.sum
 |_=>none
theorem BM {K:Zl}{F:Hp} :∀{ds:ZE}{vs:List V}{bs:ZC},Reps K F O ds vs->intsOf ds=some bs->vs=bs.map V.int
 |[],vs,bs,h,e=>by
  cases e;unfold Reps at h;exact h
 |d::ds,vs,bs,h,e=>by
  unfold Reps at h;obtain⟨v,vr,rfl,h1,h2⟩:=h;cases d with
  |int b =>
   simp only[intsOf,WG] at e;obtain⟨br,e1,rfl⟩:=e;unfold aG at h1;rw[h1,BM h2 e1];rfl
  |_=>cases e
theorem Bv:∀{bs:ZC}{us:Zt},aW (bs.map V.int) us->∃xs:List (Int×Tok),us.toArray=intItems xs.toArray/\xs.map (·.1)=bs
 |[],us,h=>by cases h;exact⟨[],by simp[intItems],rfl⟩
 |b::bs,us,h=>by
  cases h with
  |cons r rr =>
   obtain⟨t,r⟩:=r;obtain⟨xs,e1,e2⟩:=Bv rr;refine⟨(b,t)::xs,?_,by rw[VW,e2]⟩;rw[r];unfold intItems at e1 ⊢;rw[List.map_toArray] at e1 ⊢;rw[VW];have e3:=congrArg Array.toList e1;simp only[List.toList_toArray] at e3;rw[e3]
theorem Fh (hc:X.calm=true):gP X (.builtin "sum") (fun xs H Q=>∃(p:Addr) (bs:ZC),xs=[.ref p]/\gR X.K H p (bs.map V.int)/\Q (.int bs.sum) H):=by
 intro pins s σ H xs us Q I r h;obtain⟨p,bs,rfl,hq,q⟩:=h;obtain⟨u,rfl,rx⟩:=kT r;cases rx;obtain⟨its,r',pl,hz⟩:=I.list hq;obtain⟨xs,e1,e2⟩:=Bv r';have hl:=pl.isList;rw[e1] at hl;refine sum_intListG (I.ok.hd hc) hl fun h' tk t' hk=>?_
 have e3:preSum (numAt xs.toArray) xs.toArray.size=bs.sum:=by
  rw[preSum_eq,List.take_of_length_le (by simp),←e2]
 rw[e3];exact⟨.int _,H,I.kept (t':=tk) hk,⟨_,rfl⟩,q⟩
theorem QD (hc:X.calm=true):jo X (.builtin "sum") Qq:=by
 refine⟨_,Fh hc,fun Z O F H U ds c vs Q R hp hg k=>?_⟩
 match ds,hg with
 |[.lst xs],hg =>
  obtain⟨v,r,rfl,⟨q,us,rfl,hs,hr⟩,hq⟩:=hp;have hq:r=[]:=hq;subst hq;simp only[Qq,WG] at hg;obtain⟨bs,e,rfl⟩:=hg;exact⟨q,bs,rfl,by rw[←BM hr e];exact hs,k _ F H R (Same.refl _) (cv _)⟩
def rangeD2 (i:Int) (n:Nat):ZE:=(List.range n).map fun k=>.int (i+(k:Nat))
def kt (ds:ZE):Option (ZE):=match ds with
 |[.int i,.int j]=>if -(2 ^ 62)<=i/\i<2 ^ 62/\ -(2 ^ 62)<=j/\j<2 ^ 62 then some (rangeD2 i (j-i).toNat) else none
 |_=>none
def mRange2 (ms:l7):JX:=fun ρ U=>(ms ρ U).bind fun ds U1=>ofO U1 (kt ds)
theorem wV {K:Zl}{F:Hp}(i0:Int) (n:Nat):WalkOk K O F (Rf i0 n) (rangeD2 i0 n):=by
 intro Z O' F' H' U' R e i;have hl:(rangeD2 i0 n).length=n:=by simp[rangeD2]
 refine⟨fun h=>⟨by rw[hl] at h;exact h,fun x H2 y=>?_⟩,fun h=>by rw[hl] at h;exact Xg h⟩;obtain⟨rfl,rfl⟩:=y;rw[hl] at h;exact⟨.int (i0+(i:Nat)),F',by simp[rangeD2,h],R,Same.refl _,cv _⟩
theorem EC (hg:Gl X "range") (hm:X.mg "range"=none) (ha:MA X EX [a,b] ms) (hs:starEach [a,b] X.env=[(false,eval a X.env),(false,eval b X.env)]:=by rfl) (hs2:starEach [b] X.env=[(false,eval b X.env)]:=by rfl):MI X EX tg (.Call (.Name "range" p) [a,b] [] pos) (mRange2 ms):=by
 obtain⟨t,pt,st,_⟩:=ha;refine⟨_,E5 hg hm pt hs hs2,fun Z O F H σ ρ U Rr R g=>?_⟩;unfold mRange2 at g;refine st Z O F H σ ρ U _ R ?_;cases h1:ms ρ U with
 |exc x U1=>rw[h1] at g;exact g
 |bad=>rw[h1] at g;exact g
 |ok ds U1 =>
  rw[h1] at g;intro vs O' F' H' R' e' p;simp only[ae] at g;cases hr:kt ds with
  |none=>rw[hr] at g;exact g.elim
  |some xs =>
   rw[hr] at g;unfold kt at hr;split at hr
   ·rename_i i j;by_cases hj:-(2 ^ 62)<=i/\i<2 ^ 62/\ -(2 ^ 62)<=j/\j<2 ^ 62
    ·rw[VJ hj] at hr;cases hr;unfold Reps at p;obtain⟨v,r,rfl,p1,p2⟩:=p;unfold Reps at p2;obtain⟨v',r',rfl,p3,p4⟩:=p2;unfold Reps at p4;subst p4;unfold aG at p1 p3;subst p1 p3;exact⟨i,j,rfl,hj,g _ O' F' H' R' e' (wV _ _)⟩
    ·rw[VN hj] at hr;cases hr
   ·cases hr
end
section
variable {X:Cx}{EX:EXT}{o a:Expr}{mo m:MX}{ms:l7}
end
def mBad:bD:=fun _ _=>.bad
theorem PU {st:Stmt}:MS X EX st mBad:=⟨fun _ _ _=>False,fun _ _ _ _ _ _ h=>h.elim,fun Z O F H σ ρ U N R g=>g⟩
section
variable {prog:Program}{w:World}{A:Around}{E:Zm}{s:Shared}
end
section
variable {X:Cx}{EX:EXT}{a:Expr}{ma:MX}{p1 p2 q1 q2:Pos}
end
def aU (K:Zl) (x:Str) (st:Stmt):Prop:=∃(f:Addr) (oc:Value) (od:Zw) (kV doc pm:Value) (an:Zw) (cdv ct:Value) (osl:Zp),PySem.W.nsIn K mainGlobals x=some (some (.ref f))/\K.lookup f=some ⟨oc,od,.func (PySem.W.fnOf x x (fb st) (bU st) (af st) .none kV doc pm an cdv ct),osl⟩/\PySem.W.codeIn K cdv x=true/\PySem.W.keepIn K (.ref f)=true
theorem Qy {K:Zl}{mg:Zn}{st:Stmt}{ps:Zv}(X:K.In h) (G:h.Ns mainGlobals mg) (d:aU K x st) (hb:∀(kV doc pm:Value) (an:Zw) (cdv ct:Value),fY (PySem.W.fnOf x x (fb st) (bU st) (af st) .none kV doc pm an cdv ct) ps):aR K mg x st ps:=by
 obtain⟨f,oc,od,kV,doc,pm,an,cdv,ct,osl,a,l,c,k⟩:=d;exact Qz X G a l c k (hb kV doc pm an cdv ct)
theorem Te {K:Zl}{x:Str}{st:Stmt}{f:Addr}{osl:Zp}{kV doc pm cdv ct:Value}(a:PySem.W.nsIn K mainGlobals x=some (some (.ref f))) (l:K.lookup f=some ⟨oc,od,.func (PySem.W.fnOf x x (fb st) (bU st) (af st) .none kV doc pm an cdv ct),osl⟩)
  (c:PySem.W.codeIn K cdv x=true) (k:PySem.W.keepIn K (.ref f)=true):aU K x st:=⟨f,oc,od,kV,doc,pm,an,cdv,ct,osl,a,l,c,k⟩
def mCont:bD:=fun ρ U=>.ok (.ct ρ) U
theorem Lv :MS X EX (.Continue pos) mCont:=⟨_,xM,fun Z O F H σ ρ U N R g=>g σ O F H R (Ext.refl _ _)⟩
def TJ (lo c:Int) (n:Nat):It:=⟨fun i _=>i<n,fun i H x H'=>H'=H/\x=.int (lo+i*c),fun i _=>n<=i⟩
theorem xk {K:Zl}{tg:Expr}(it:Addr) (lo c:Int) (n:Nat):wR P w K tg (TJ lo c n) [it] it (fun i h=>IsRangeIter h it (lo+(i:Nat)*c) ((n:Int)-(i:Nat)) c) where
 mem:=by simp
 obj:=fun i h st b hb=>by
  have e:b=it:=by simpa using hb
  subst e;exact⟨_,st,fun v z=>by
   have z':Data.fields _=Data.cell v:=z;cases z'⟩
 keep:=fun i h h' st k=>k it (by simp) _ st
 item:=by
  intro X hP hw hK hc i pins s σ H E I hf st hg;subst hP hw hK;obtain⟨f0,f1,f2,f3,f4,f5⟩:=hf it (by simp);have W:=Walks.range (prog:=X.prog) (w:=X.w) (I.ok.hd hc) it lo c n;refine W.item i s _ _ hg st fun v h' tk hv st' kk=>?_
  obtain⟨t,rfl⟩:=hv;have I1:Inv X pins σ H { s with heap:=h',toks:=tk}:=I.turned (fun b o hb e=>kk b o (by simpa using hb) e) f0 f1 f3 f4 f5;exact⟨_,rfl,J3 (s:={ s with heap:=h',toks:=tk}) (n:="range_iterator") st' rfl rfl (by decide) ⟨.int (lo+i*c),H,I1,⟨t,rfl⟩,⟨rfl,rfl⟩,st',fun b hb=>(hf b hb).1⟩⟩
 done:=by
  intro X hP hw hK hc i pins s σ H E I hf st hg;subst hP hw hK;obtain⟨f0,f1,f2,f3,f4,f5⟩:=hf it (by simp);exact Z0 (I.ok.hd hc) st (by have:n<=i:=hg;omega) fun h' eb=>⟨rfl,I.turned (t':=s.toks) (fun b o hb e=>eb b o hb e) f0 f1 f3 f4 f5⟩
 self:=fun _ _ _ _ _ st h=>Z1 st h
def downD (hi lo:Int):ZE:=(List.range (hi-lo).toNat).map fun k=>.int (hi-(k:Nat))
def wI (ds:ZE):Option (ZE):=match ds with
 |[.int i,.int j,.int c]=>if c= -1/\ -1000000<=i/\i<1000000/\ -1000000<=j/\j<1000000 then some (downD i j) else none
 |_=>none
def mRange3 (ms:l7):JX:=fun ρ U=>(ms ρ U).bind fun ds U1=>ofO U1 (wI ds)
theorem DF {K:Zl}{F:Hp}(i0 j:Int):WalkOk K O F (TJ i0 (-1) (i0-j).toNat) (downD i0 j):=by
 intro Z O' F' H' U' R e i;have hl:(downD i0 j).length=(i0-j).toNat:=by simp[downD]
 refine⟨fun h=>⟨by rw[hl] at h;exact h,fun x H2 y=>?_⟩,fun h=>by rw[hl] at h;exact Xg h⟩;obtain⟨rfl,rfl⟩:=y;rw[hl] at h;refine⟨.int (i0-(i:Nat)),F',by simp[downD,h],R,Same.refl _,?_⟩;have:i0+(i:Int) * -1=i0-i:=by omega
 rw[this];exact cv _
section
variable {X:Cx}{EX:EXT}
theorem Ah (h1:-1000000<=i) (h2:i<1000000) (h3:-1000000<=j) (h4:j<1000000):Builtin.Range.small i j (-1)=true/\Builtin.Range.rangeSize i j (-1)=((i-j).toNat:Int):=by
 have hs:Builtin.Range.rangeSize i j (-1)=((i-j).toNat:Int):=by
  unfold Builtin.Range.rangeSize;rw[VN (by decide)];split
  ·rw[show -(-1:Int)=1 by decide,Int.ediv_one];omega
  ·omega
 refine⟨?_,hs⟩;have fit:∀x:Int,-3000000<=x->x<3000000->Builtin.Range.rangeFitsLong x=true:=fun x a b=>by
  unfold Builtin.Range.rangeFitsLong;simp only[W0,Xv];omega
 unfold Builtin.Range.small;rw[hs,fit i (by omega) (by omega),fit j (by omega) (by omega),fit (-1) (by decide) (by decide),fit ((i-j).toNat:Int) (by omega) (by omega),VN (by decide),fit (j+(-1+1)) (by omega) (by omega),Za];rfl
theorem LC (hg:Gl X "range") (hm:X.mg "range"=none) (ha:MA X EX [a,b,c] ms) (hs:starEach [a,b,c] X.env=(false,eval a X.env)::starEach [b,c] X.env:=by rfl) (hs2:(backTo pos (starEach [b,c] X.env)).any (·.1)=false:=by rfl):MI X EX tg (.Call (.Name "range" p) [a,b,c] [] pos) (mRange3 ms):=by
 obtain⟨t,pt,st,_⟩:=ha;refine⟨fun σ H R=>∀pins s,Inv X pins σ H s->wpAny (model X.prog X.w) X.A (eval (.Call (.Name "range" p) [a,b,c] [] pos) X.env) (fun v s1=>wpAny (model X.prog X.w) X.A (pyIter v) (Tz X pins σ tg R) X.xe s1) X.xe s,fun pins s σ H R I h=>h pins s I,fun Z O F H σ ρ U Rr R g pins s I=>?_⟩;have hw:t σ H fun vs H1=>∃i j O1 F1 U1,RH X.K Z O1 F1 H1 U1/\Ext O F O1 F1/\vs=[.int i,.int j,.int (-1)]/\(-1000000<=i/\i<1000000/\ -1000000<=j/\j<1000000)/\(∀J O' F' H',RH X.K Z O' F' H' U1->Ext O F O' F'->WalkOk X.K O' F' J (downD i j)->Rr J H'):=by
  refine st Z O F H σ ρ U _ R ?_;unfold mRange3 at g;cases h1:ms ρ U with
  |exc x U1=>rw[h1] at g;exact g
  |bad=>rw[h1] at g;exact g
  |ok ds U1 =>
   rw[h1] at g;intro vs O1 F1 H1 R1 e1 p;simp only[ae] at g;cases hr:wI ds with
   |none=>rw[hr] at g;exact g.elim
   |some xs =>
    rw[hr] at g;unfold wI at hr;split at hr
    ·rename_i i j c;split at hr
     ·rename_i hj;obtain⟨rfl,hj⟩:=hj;cases hr;unfold Reps at p;obtain⟨v,r,rfl,p1,p2⟩:=p;unfold Reps at p2;obtain⟨v',r',rfl,p3,p4⟩:=p2;unfold Reps at p4;obtain⟨v'',r'',rfl,p5,p6⟩:=p4;unfold Reps at p6;subst p6;unfold aG at p1 p3 p5;subst p1 p3 p5;exact⟨i,j,O1,F1,U1,R1,e1,rfl,hj,g⟩
     ·cases hr
    ·cases hr
 refine Call_ (jU I hg hm PyProof.Rows.boot_range (WE (bP (pt pos pins s σ H _ I hw) fun us s1 ⟨vs,H1,I1,rr,q⟩=>?_) hs hs2));obtain⟨i,j,O1,F1,U1,R1,e1,rfl,hj,fin⟩:=q;cases rr with
 |cons r1 rr =>
  cases rr with
  |cons r2 rr =>
   cases rr with
   |cons r3 rr =>
    cases rr;obtain⟨t1,rfl⟩:=r1;obtain⟨t2,rfl⟩:=r2;obtain⟨t3,rfl⟩:=r3;obtain⟨sm,sz⟩:=Ah hj.1 hj.2.1 hj.2.2.1 hj.2.2.2;refine call_range_3 (by decide) ?_ (.inl (PyProof.noPylong_small (by decide)));refine wpAny_pyIter_range (IsRange.new ..) sm ?_;have I2:Inv X pins σ H1 { s1 with heap:=s1.heap.push { cls:=.type "range",data:=.fields #[.int i t1,.int j t2,.int (-1) t3]}}:=I1.kept (t':=s1.toks) fun b o e=>VH _ e
    refine⟨_,[_],_,_,H1,rfl,I2.kept (t':=s1.toks) fun b o e=>VH _ e,xk _ i (-1) (i-j).toNat,?_,fun b hb=>?_,fin _ O1 F1 H1 R1 e1 (DF i j)⟩
    ·have e2:(((i-j).toNat:Nat):Int)-((0:Nat):Int)=Builtin.Range.rangeSize i j (-1):=by rw[sz];omega
     have e3:i+((0:Nat):Int) * -1=i:=by omega
     show IsRangeIter _ _ (i+((0:Nat):Int) * -1) ((((i-j).toNat:Nat):Int)-((0:Nat):Int)) (-1);rw[e2,e3];exact VZ _ rfl
    ·have e:b=(s1.heap.push { cls:=.type "range",data:=.fields #[.int i t1,.int j t2,.int (-1) t3]}).objs.size:=by simpa using hb
     subst e;exact I2.fpOk (VL _) (I2.hok.fresh (VL _))
def J8:GL:=fun ds=>match ds with
 |[.lst xs]=>some (.tup xs)
 |_=>none
theorem Fg:gP X (.type "tuple") (fun xs H Q=>∃(p:Addr) (vs:List V),xs=[.ref p]/\gR X.K H p vs/\∀q,H q=none->Q (.ref q) (b6 H q (.tup vs))):=by
 intro pins s σ H xs us Q I r h;obtain⟨p,vs,rfl,hq,q⟩:=h;obtain⟨u,rfl,rx⟩:=kT r;cases rx;obtain⟨its,r',pl,hz⟩:=I.list hq;have hlen:=r'.length;refine call_tuple_list pl.isList (fun h' kp=>?_) (by rw[VT,←hlen];exact hz);have I1:Inv X pins σ H { s with heap:=h'}:=I.kept (t':=s.toks) kp;exact⟨.ref _,_,I1.laid (o:=.tup vs) (t':=s.toks) (fun b o e=>VH _ e) (VL _) ⟨hz,its,r',⟨_,VZ _ rfl,rfl,0,rfl⟩⟩,rfl,q _ (I1.hok.fresh (VL _))⟩
theorem QC:jo X (.type "tuple") J8:=by
 refine⟨_,Fg,fun Z O F H U ds c vs Q R hp hg k=>?_⟩
 match ds,hg with
 |[.lst xs],hg =>
  obtain⟨v,r,rfl,⟨q,us,rfl,hs,hr⟩,hq⟩:=hp;have hq:r=[]:=hq;subst hq;cases hg;refine⟨q,us,rfl,hs,fun p hp=>?_⟩;obtain⟨a1,a2,a3⟩:=kB R hr hp;exact k _ _ _ a1 a2 a3
end
def frzC (c:Cell):ZF:=match c with
 |.lst ds=>some (.lst ds)
 |.dic ks ds=>some (.dic ks ds)
 |_=>none
def mFrz (i:Nat) (n:bD):bD:=fun ρ U=>match ρ[i]? with
 |some (some (.ref k))=>match(U[k]?).bind frzC with
  |some d=>n (ρ.set i (some d)) (U.set k .dead)
  |none=>.bad
 |_=>.bad
section
variable {K:Zl}{Z:ZS}{F H:Hp}{O:Zr}{U:Mu}{k:Nat}{a:Addr}{c:Cell}{d:D}{o:HO}
theorem RH.frz (r:RH K Z O F H U) (ha:O[k]? =some a) (hc:U[k]? =some c) (hd:c≠.dead) (ho:H a=some o):RH K Z O (b6 F a o) H (U.set k .dead)/\Ext O F O (b6 F a o):=by
 have hF:F a=none:=((r.cell k a c ha hc).live hd).1;have hZ:Z.z a=none:=r.zc k a c ha hc hd;have hk:k<U.length:=(List.getElem?_eq_some_iff.mp hc).1;have sF:Same F (b6 F a o):=fun b u e=>by rw[ak (fun z=>by rw[z,hF] at e;cases e)];exact e
 have ex:Ext O F O (b6 F a o):=⟨sF,fun _ _ h=>h⟩
 have at':∀(j:Nat) (c':Cell),(U.set k .dead)[j]? =some c'->c'≠.dead->j≠k/\U[j]? =some c':=fun j c' h hd'=>by
  by_cases e:j=k
  ·subst e;rw[Wi hk] at h;exact absurd (Option.some.inj h).symm hd'
  ·rw[Wp (Wr e)] at h;exact⟨e,h⟩
 refine⟨⟨fun b u e=>?_,by simp[r.len],fun j b c' hj hc'=>?_,r.zs,fun b u e=>?_,fun j b c' hj hc' d'=>?_,fun i j b c1 c2 hi hj ci cj d1 d2=>?_,r.ext.trans ex⟩,ex⟩
 ·by_cases hb:b=a
  ·subst hb;rw[aw] at e;rw[ho];exact e
  ·rw[ak hb] at e;exact r.sub b u e
 ·by_cases d':c'=.dead
  ·subst d';trivial
  ·obtain⟨e1,e2⟩:=at' j c' hc' d';refine(r.cell j b c' hj e2).go ex (fun _=>?_) fun _=>rfl
   rw[ak (fun z=>e1 (r.dis j k a c' c (by rw[←z];exact hj) ha e2 hc d' hd))]
 ·rw[ak (fun z=>by rw[z,hZ] at e;cases e)];exact r.zf b u e
 ·obtain⟨_,e2⟩:=at' j c' hc' d';exact r.zc j b c' hj e2 d'
 ·obtain⟨_,e2⟩:=at' i c1 ci d1;obtain⟨_,g2⟩:=at' j c2 cj d2;exact r.dis i j b c1 c2 hi hj e2 g2 d1 d2
theorem Ma (r:RH K Z O F H U) (ha:O[k]? =some a) (hc:U[k]? =some c) (hf:frzC c=some d):∃o,H a=some o/\c≠.dead/\aG K (b6 F a o) O d (.ref a):=by
 have h:=r.cell k a c ha hc;have hF:c≠.dead->F a=none:=fun hd=>(h.live hd).1
 have sF:∀o,c≠.dead->Ext O F O (b6 F a o):=fun o hd=>⟨fun b u e=>by rw[ak (fun z=>by rw[z,hF hd] at e;cases e)];exact e,fun _ _ h=>h⟩
 cases c with
 |lst ds =>
  cases hf;obtain⟨_,vs,h2,h3⟩:=h;refine⟨_,h2,by simp,?_⟩;unfold aG;exact⟨a,vs,rfl,gR.of aw,h3.mono (sF _ (by simp))⟩
 |dic ks ds =>
  cases hf;obtain⟨_,vs,h2,hl,h3⟩:=h;refine⟨_,h2,by simp,?_⟩;unfold aG;exact⟨a,vs,rfl,aw,hl,h3.mono (sF _ (by simp))⟩
 |_=>cases hf
end
theorem Ic (i:Nat) (h:MS X EX s n):MS X EX s (mFrz i n):=by
 obtain⟨t,pt,st⟩:=h;refine⟨t,pt,fun Z O F H σ ρ U N R g=>?_⟩;unfold mFrz at g;split at g
 ·rename_i k hk;split at g
  ·rename_i d hd;cases hc:U[k]? with
   |none=>rw[hc] at hd;cases hd
   |some c =>
    rw[hc] at hd;obtain⟨v,hv,hr⟩:=R.sl i _ hk;unfold aG at hr;obtain⟨a,ha,rfl⟩:=hr;obtain⟨o,ho,nd,rp⟩:=Ma R.hp ha hc hd;obtain⟨R1,e1⟩:=R.hp.frz ha hc nd ho;have hi:i<ρ.length:=(List.getElem?_eq_some_iff.mp hk).1;have R2:RS X.K Z O (b6 F a o) H σ (ρ.set i (some d)) (U.set k .dead):=⟨R1,by simp[R.len],fun j d' hj=>by
     by_cases z:j=i
     ·subst z;rw[Wi hi] at hj;cases hj;exact⟨_,hv,rp⟩
     ·rw[Wp (Wr z)] at hj;obtain⟨v',h1,h2⟩:=R.sl j d' hj;exact⟨v',h1,h2.mono e1⟩⟩
    refine st Z O (b6 F a o) H σ _ _ N R2 ?_;cases er:n (ρ.set i (some d)) (U.set k .dead) with
    |bad=>rw[er] at g;exact g
    |exc x U1=>rw[er] at g;exact g
    |ok out U1 =>
     rw[er] at g;cases out with
     |nx ρ'=>exact fun σ' O' F' H' R' e'=>g σ' O' F' H' R' (e1.trans e')
     |bk ρ'=>exact fun σ' O' F' H' R' e'=>g σ' O' F' H' R' (e1.trans e')
     |ct ρ'=>exact fun σ' O' F' H' R' e'=>g σ' O' F' H' R' (e1.trans e')
     |rt w=>exact fun u O' F' H' R' e'=>g u O' F' H' R' (e1.trans e')
  ·exact g.elim
 ·exact g.elim
section
variable {X:Cx}{EX:EXT}
variable {a:Expr}{ma:MX}{p1 p2 q1 q2:Pos}
end
theorem vm:typeLookup (.type "list") "keys"=pure none:=by rw[typeLookup_type,Zh];kernel_rfl
theorem vn:typeLookup (.type "list") "__getattr__"=pure none:=by rw[typeLookup_type,Zh];kernel_rfl
theorem Ac:isSubtype (.type "AttributeError") (.type "AttributeError")=pure true:=by rw[isSubtype_type];kernel_rfl
section
variable {O:Type}{Md:Model}{A:Around}{E:Zm}{s:Shared}
theorem GQ (hm:msg.length<=sizeLine) (hh:A.handled=none)
  (hq:∀h' tk' e oe,(∀b o,s.heap.get? b=some o->h'.get? b=some o)->h'.get? e=some oe->oe.cls=.type "AttributeError"->E (.ref e) { s with heap:=h',toks:=tk'}):wpAny Md A (raiseAttrError self name msg:Sem O) Q E s:=by
 unfold raiseAttrError;refine VG (wpAny_mkStr (VG ?_) hm);unfold newExc newTuple;refine VG (WB ?_ (by size_fits));refine VG (m:=firstArgMember _ _) (YJ (a:=Value.none) (by kernel_rfl) ?_);refine WB ?_ (by size_fits);refine VG (Zb (VG ?_));obtain⟨h,g,d,t,os⟩:=s;generalize hh2:Heap.push (Heap.push h _) _=h2;have he:h2.get? (h.push { cls:=.type "tuple",data:=.seq #[Value.str msg t]}).objs.size=some { cls:=.type "AttributeError",data:=.fields (#[.ref h.objs.size,.none,.none,.none,.bool false,.none]++ownMembersOf (.type "AttributeError") [Value.str msg t])}:=by
  rw[←hh2];exact VZ _ rfl
 have hk:∀b o,h.get? b=some o->h2.get? b=some o:=fun b o e=>by rw[←hh2];exact VH _ (VH _ e)
 have hne:∀b o,h.get? b=some o->b≠(h.push { cls:=.type "tuple",data:=.seq #[Value.str msg t]}).objs.size:=fun b o q=>W3 (VM (VH _ q))
 generalize (h.push { cls:=.type "tuple",data:=.seq #[Value.str msg t]}).objs.size=e at he hne;generalize h.objs.size=t0 at he;have hT:(⟨h2,g,d,t+1+1,os⟩:Shared).TypeIs (.ref e) "AttributeError":=⟨_,he,rfl⟩
 have e1:(#[Value.ref t0,Value.none,Value.none,Value.none,Value.bool false,Value.none]++ownMembersOf (.type "AttributeError") [Value.str msg t])= #[Value.ref t0,Value.none,Value.none,Value.none,Value.bool false,Value.none,unsetMember,unsetMember]:=rfl;rw[e1] at he;show wpAny Md A (noteAttr (.ref e) self (.str name (t+1))) _ _ ⟨h2,g,d,t+1+1,os⟩;have lk:∀{Q':Bool->Shared->Prop},Q' true ⟨h2,g,d,t+1+1,os⟩->wpAny Md A (lacksNameAndObj (.ref e)) Q' E ⟨h2,g,d,t+1+1,os⟩:=by
  intro Q' q;unfold lacksNameAndObj;refine VG (Yh hT Ac ?_);simp only[Yo,Xk,XO];refine VG (wpAny_load he ?_);exact VO q
 unfold noteAttr;refine VG (lk ?_);rw[VJ rfl];refine VG (Z7 (VG (Yz hT ?_)));show wpAny Md A (layMembers e 6 #[.str name (t+1),self]) _ _ _;unfold layMembers;refine VG (wpAny_load he ?_);refine wpAny_update' he ?_;unfold raiseNew;refine VG (wpAny_handled ?_);rw[hh]
 first
  |refine wpAny_throw ?_
  |refine VG (VO (wpAny_throw ?_))
 refine hq _ _ _ _ (fun b o q=>?_) (Wt _ he rfl) rfl;exact(W9 _ _ (Wr (hne b o q))).trans (hk b o q)
end
section
variable {prog:Program}{w:World}{A:Around}{E:Zm}{h:Heap}{g:Array GenState}{d:Drawn}{t:Nat}{os:OsState}{a:Addr}{o:Obj}
theorem M6 (hx:h.get? a=some ⟨.type "list",none,.seq its n,sl⟩) (hh:A.handled=none)
  (hq:∀h' tk' e oe,(∀b o,h.get? b=some o->h'.get? b=some o)->h'.get? e=some oe->oe.cls=.type "AttributeError"->E (.ref e) ⟨h',g,d,tk',os⟩) :
  wpAny (model prog w) A (Builtin.«object.__getattribute__» ⟨[.ref a,.str "keys" tk],[]⟩) Q E ⟨h,g,d,t,os⟩:=by
 have hT:(⟨h,g,d,t,os⟩:Shared).TypeIs (.ref a) "list":=⟨_,hx,rfl⟩
 have f4:=vm
 repeat (any_goals (first|assumption|with_reducible refine X9 hx ?_|wp_step))
 exact GQ (by decide +kernel) hh hq
theorem EJ (hx:h.get? a=some ⟨.type "list",none,.seq its n,sl⟩) (hh:A.handled=none)
  (hq:∀h' tk',(∀b o,h.get? b=some o->h'.get? b=some o)->Q none ⟨h',g,d,tk',os⟩):wpAny (model prog w) A (getAttr? (.ref a) "keys") Q E ⟨h,g,d,t,os⟩:=by
 unfold getAttr? getAttrBy?;refine VG (Zb (VG (Xn ?_)));have hT:∀t,(⟨h,g,d,t,os⟩:Shared).TypeIs (.ref a) "list":=fun t=>⟨_,hx,rfl⟩
 have f2:=F.slot_list_getattribute.lookup;have f3:=F.slot_list_getattribute.bind (.ref a);have f4:=vn;have hT:=hT (t+1);have call:∀{Q':Zm}{E':Zm},(∀h' tk' e oe,(∀b o,h.get? b=some o->h'.get? b=some o)->h'.get? e=some oe->oe.cls=.type "AttributeError"->E' (.ref e) ⟨h',g,d,tk',os⟩) ->
   wpAny (model prog w) A (call (.builtin "list.__getattribute__") [.ref a,.str "keys" t]) Q' E' ⟨h,g,d,t+1,os⟩:=by
  intro Q' E' q;refine Xy (Xa F.slot_list_getattribute.plain F.entry_list_ga (F.slot_list_getattribute.check _ _ _ _ _ _ _ _ hT (F.args_list_getattribute_2 _ _) (M6 hx hh fun h' tk' e oe k1 k2 k3=>?_)));exact q h' tk' e oe k1 k2 k3
 show wpAny _ _ (getAttrBy (.ref a) (.str "keys" t) false) _ _ ⟨h,g,d,t+1,os⟩;unfold getAttrBy;refine WD (VG (Yz hT (VG (YJ f2 ?_))));show wpAny _ _ (getAttrByItsOwn _ _ _ _ _ _) _ _ _;unfold getAttrByItsOwn;refine VG (m:=hookBefore _) (VO (VG (Xn (WD ?_))));show wpAny _ _ (boundAndCalled _ _ _) _ _ _;unfold boundAndCalled;refine VG (YJ f3 ?_);refine call fun h' tk' e oe k1 k2 k3=>?_
 have hE:(⟨h',g,d,tk',os⟩:Shared).TypeIs (.ref e) "AttributeError":=⟨_,k2,k3⟩
 show wpAny _ _ (getattributeRaised _ _ _ _ _ _ _) _ _ _;unfold getattributeRaised;refine VG (Yh hE Ac ?_);rw[VJ rfl];refine VG (m:=hookBehind _ _) (YJ f4 ?_);unfold hookOrError attributeErrorLeaves;dsimp only;refine VG (wpAny_throw ?_);show wpAny _ _ _ _ _ _;refine VG (Yh hE Ac ?_);rw[VJ rfl];exact VO (hq h' tk' k1)
end
theorem de:plainId "dict.update.loop"=true:=by decide +kernel
theorem i3:entryFor table "dict.update.loop"=some Builtin.«dict.update.loop»:=entryFor_of_tree (by kernel_rfl)
inductive PP {prog:Program}{w:World}{κ:Type}[DecidableEq κ] (knd:KeyKind prog w κ) (h:Heap) (it d:Addr):Zt->List (κ×Value)->Prop
 |nil:PP knd h it d [] []
 |cons {a:Addr}{key v:Value}{k:κ}{vs:Zt}{ps:List (κ×Value)}:IsTup h a #[key,v]->knd.is k key=true->a≠it->a≠d->PP knd h it d vs ps->PP knd h it d (.ref a::vs) ((k,v)::ps)
section
variable {prog:Program}{w:World}{κ:Type}[DecidableEq κ] {knd:KeyKind prog w κ}{A:Around}{E:Zm}{h h':Heap}{it d l:Addr}
theorem PP.keeps (p:PP knd h it d vs ps) (k:∀b o,b≠it->b≠d->h.get? b=some o->h'.get? b=some o):PP knd h' it d vs ps:=by
 induction p with
 |nil=>exact .nil
 |cons t1 t2 t3 t4 _ ih =>
  obtain⟨o,e,r⟩:=t1;exact .cons ⟨o,k _ _ t3 t4 e,r⟩ t2 t3 t4 ih
theorem oo (hd:d≠it) (hld:l≠d) (hli:l≠it) (hh:A.handled=none) :∀(vs done:Zt) (ps kvs:List (κ×Value)) (s:Shared) (n:Int),its=done++vs->s.heap.IsListIter it l done.length->s.heap.IsList l its.toArray->s.heap.DictOf knd d kvs ->
  PP knd s.heap it d vs ps->kvs.length+vs.length<=sizeLine ->
  (∀h' tk,(∀b o,b≠it->b≠d->s.heap.get? b=some o->h'.get? b=some o)->h'.DictOf knd d (merged kvs ps)->R (.ok (.ret .none)) { s with heap:=h',toks:=tk}) ->
  codeAny (model prog w) A (.builtin "dict.update.loop" ⟨[.ref d,.ref it,rawInt n,.none],[]⟩) R s
 |[],done,ps,kvs,s,n,e0,hit,hl,hD,pp,hz,q=>by
  cases pp;refine codeAny_builtin i3 ?_;rw[Around.under_plainId de _];show wpAny _ A.in1 (pyNext (.ref it) >>= _) _ _ s;refine VG (Zg hh hit hl (by rw[e0];simp) fun h' eb=>?_);refine VG (m:=Builtin.Dict.addKeywords _ _) (VO (VO ?_));exact q h' s.toks (fun b o hb _ e=>eb b o hb e) (hD.extBut eb hd)
 |v::vs,done,ps,kvs,s,n,e0,hit,hl,hD,pp,hz,q=>by
  cases pp with
  | @cons a key v' k _ ps t1 t2 t3 t4 pp =>
   refine codeAny_builtin i3 ?_;rw[Around.under_plainId de _];show wpAny _ A.in1 (pyNext (.ref it) >>= _) _ _ s;refine VG (YZ hit hl (x:=.ref a) (by rw[e0];simp) fun h' hit' sb=>?_);have k1:∀b o,b≠it->s.heap.get? b=some o->h'.get? b=some o:=fun b o hb e=>(sb.2 b hb).trans e
   obtain⟨o,ho,hc,n1,hdt⟩:=id t1;have ho':=k1 a o t3 ho;show wpAny _ A.in1 (holding _ _ >>= _) _ _ _;refine VG (WD (VG (wpAny_tryCatch ?_)));unfold Builtin.Dict.pairItems;refine VG (Yz (T:="tuple") ⟨o,ho',hc⟩ ?_);rw[VJ (by decide)];refine VG (X2 ho' hdt ?_);refine VO ?_;show wpAny _ _ (holding _ (dictSet d key v')) _ _ _;refine WD (wpAny_dictSet_pairs t2 (hD.sameBut sb hd) (fun h2 hD2 sb2=>?_) (by rw[W1] at hz;omega));have k2:∀b o,b≠it->b≠d->s.heap.get? b=some o->h2.get? b=some o:=fun b o hb hb' e=>(sb2.2 b hb').trans (k1 b o hb e)
   refine VO ⟨plainId_quiet de _,?_⟩;obtain⟨oi,hoi,ri⟩:=hit';obtain⟨ol,hol,rl⟩:=hl;refine oo hd hld hli hh vs (done++[.ref a]) ps (stored kvs k v') { s with heap:=h2,toks:=s.toks+1} (n+1) (by rw[e0];simp) ⟨oi,(sb2.2 it (Wr hd)).trans hoi,by rw[Wy];exact ri⟩ ⟨ol,k2 l ol hli hld hol,rl⟩ hD2 (pp.keeps k2) ?_ fun h3 tk k3 hD3=>?_
   ·have:(stored kvs k v').length<=kvs.length+1:=stored_length_le kvs k v';rw[W1] at hz;omega
   ·exact q h3 tk (fun b o hb hb' e=>k3 b o hb hb' (k2 b o hb hb' e)) hD3
theorem oS (hl:s.heap.get? l=some ⟨.type "list",none,.seq its.toArray n,sl⟩) (hh:A.handled=none) (hz:its.length<=sizeLine)
  (hp:∀it d:Addr,s.heap.objs.size<=it->s.heap.objs.size<=d->PP knd s.heap it d its ps) (hn:(ps.map (·.1)).Nodup)
  (q:∀h' tk,(∀b o,s.heap.get? b=some o->h'.get? b=some o)->h'.DictOf knd s.heap.objs.size ps->Q (.ref s.heap.objs.size) { s with heap:=h',toks:=tk}) :
  wpAny (model prog w) A (call (.type "dict") [.ref l]) Q E s:=by
 obtain⟨h,g,dr,t,os⟩:=s;dsimp only at hl hp q;refine callType_codes (Q₁:=fun obj s₁=>obj=.ref h.objs.size/\s₁=(⟨h.push { cls:=.type "dict",data:=.dict #[]},g,dr,t,os⟩:Shared)) F.kt_called_dict (F.kt_typeCall_dict_1 _) F.entry_dict_init (kt_code_dict_new _ ⟨rfl,rfl⟩) ?_
 rintro obj s₁ ⟨rfl,rfl⟩
 have hnew:(h.push { cls:=.type "dict",data:=.dict #[]}).DictOf knd h.objs.size []:=Heap.DictOf.new h;have hl':(h.push { cls:=.type "dict",data:=.dict #[]}).get? l=some ⟨.type "list",none,.seq its.toArray n,sl⟩:=VH _ hl;have hll:=VM hl;refine⟨hnew.typeIs,F.args_dict_init_2 _ _,?_⟩;unfold Builtin.«dict.__init__»;refine VG ?_;unfold Builtin.Dict.selfAndRest;refine VG (wpAny_notOrdered_dict hnew.typeIs ?_);show wpAny _ _ (pure (h.objs.size,[Value.ref l])) _ _ _;refine VO ?_;show wpAny _ _ (Builtin.Dict.updateFrom "dict.__init__" h.objs.size (.ref l) [] .none) _ _ _;unfold Builtin.Dict.updateFrom;refine VG (Yz (T:="list") ⟨_,hl',rfl⟩ ?_);rw[VJ (by decide)];refine VG (EJ hl' hh fun h' tk' k1=>?_);show wpAny _ _ (rule _ >>= _) _ _ _;have k0:∀b o,h.get? b=some o->h'.get? b=some o:=fun b o e=>k1 b o (VH _ e)
 have hl2:h'.IsList l its.toArray:=⟨_,k0 _ _ hl,rfl,n,rfl⟩
 refine VG (Z7 (VG (Xs hl2 ?_)));have hs':h.objs.size<h'.objs.size:=VM (k1 h.objs.size _ (VZ _ rfl));obtain⟨od,es,ep,hod,rd⟩:=hnew;have hD':(h'.push { cls:=.type "list_iterator",data:=.fields #[.ref l,.int 0 0]}).DictOf knd h.objs.size []:=⟨od,es,ep,VH _ (k1 _ _ hod),rd⟩
 refine VO ⟨plainId_quiet de _,oo (A:=A.in1) (knd:=knd) (its:=its) (it:=h'.objs.size) (d:=h.objs.size) (l:=l) (W3 hs') (W3 hll) (W3 (Nat.lt_trans hll hs')) hh its [] ps [] ⟨h'.push { cls:=.type "list_iterator",data:=.fields #[.ref l,.int 0 0]},g,dr,tk',os⟩ 0 rfl ⟨_,VZ _ rfl,rfl,rfl⟩ (hl2.push _) hD' ?_ (by simpa using hz) fun h2 tk k2 hD2=>?_⟩
 ·exact(hp h'.objs.size h.objs.size (YY hs') (VL _)).keeps fun b o _ _ e=>VH _ (k0 b o e)
 ·rw[merged_nil_of_nodup ps hn] at hD2;exact⟨rfl,q h2 tk (fun b o e=>k2 b o (W3 (Nat.lt_trans (VM e) hs')) (W3 (VM e)) (VH _ (k0 b o e))) hD2⟩
end
def pairsOf:ZE->Option (List DK×ZE)
 |[]=>some ([],[])
 |.tup [k,v]::r=>(keyD k).bind fun q=>(pairsOf r).map fun p=>(q::p.1,v::p.2)
 |_=>none
def vP:GL:=fun ds=>match ds with
 |[.lst xs]=>(pairsOf xs).bind fun p=>if p.1.Nodup then some (.dic p.1 p.2) else none
 |_=>none
inductive VP (K:Zl) (H:Hp):List V->List (Key×V)->Prop
 |nil:VP K H [] []
 |cons {a:Addr}{k:Key}{v:V}{vs:List V}{ps:List (Key×V)}:SqT K H a [kV k,v]->VP K H vs ps->VP K H (.ref a::vs) ((k,v)::ps)
theorem VP.len {K:Zl}{H:Hp}(h:VP K H vs ps):vs.length=ps.length:=by
 induction h with
 |nil=>rfl
 |cons _ _ ih=>simp[ih]
section
variable {X:Cx}{EX:EXT}
theorem MO {K:Zl}{F H:Hp}(hs:Same F H):∀{xs:ZE}{vs:List V}{ks:List DK}{ds:ZE},Reps K F O xs vs->pairsOf xs=some (ks,ds)->∃us,VP K H vs ((ks.map dk).zip us)/\Reps K F O ds us/\ks.length=ds.length
 |[],vs,ks,ds,h,e=>by
  cases e;unfold Reps at h;subst h;exact⟨[],.nil,ax,rfl⟩
 |x::xs,vs,ks,ds,h,e=>by
  unfold pairsOf at e;split at e
  ·cases ‹x::xs=[]›
  ·rename_i k v r e0;injection e0 with e1 e2
   subst e1 e2;obtain⟨q,hq,e⟩:=Option.bind_eq_some_iff.mp e;obtain⟨p,hp,e⟩:=Option.map_eq_some_iff.mp e;cases e;unfold Reps at h;obtain⟨u,r,rfl,h1,h2⟩:=h;unfold aG at h1;obtain⟨a,us,rfl,hsq,hr⟩:=h1;unfold Reps at hr;obtain⟨v1,r1,rfl,p1,hr⟩:=hr;unfold Reps at hr;obtain⟨v2,r2,rfl,p2,hr⟩:=hr;unfold Reps at hr;subst hr;obtain⟨us,g1,g2,g3⟩:=MO hs h2 hp;rw[vC p1 hq] at hsq;exact⟨v2::us,.cons (Same.tup hs hsq) g1,aa p2 g2,by simp[g3]⟩
  ·cases e
theorem Be (hc:X.calm=true):gP X (.type "dict") (fun xs H Q=>∃(p:Addr) (vs:List V) (ps:List (Key×V)),xs=[.ref p]/\gR X.K H p vs/\VP X.K H vs ps/\(ps.map (·.1)).Nodup/\∀q,H q=none->Q (.ref q) (b6 H q (.dK ps))):=by
 intro pins s σ H xs us Q I r h;obtain⟨p,vs,ps,rfl,hq,hv,hn,q⟩:=h;obtain⟨u,rfl,rx⟩:=kT r;cases rx;obtain⟨its,r',pl,hz⟩:=I.list hq;have hlen:=r'.length;have go:∀{vs:List V}{ps:List (Key×V)}{its:Zt},VP X.K H vs ps->aW vs its->∃qs:List (Key×Value),KV ps qs/\qs.map (·.1)=ps.map (·.1)/\∀it d:Addr,s.heap.objs.size<=it->s.heap.objs.size<=d->PP (mixKind X.prog X.w) s.heap it d its qs:=by
  intro vs ps its v
  induction v generalizing its with
  |nil=>intro r;cases r;exact⟨[],.nil,rfl,fun _ _ _ _=>.nil⟩
  | @cons a k v vs ps t1 _ ih =>
   intro r;cases r with
   |cons r rr =>
    cases r;obtain⟨qs,g1,g2,g3⟩:=ih rr;obtain⟨it',rt,tp,_⟩:=I.tuple t1;obtain⟨u1,u2,rfl,r1,r2⟩:=q9 rt;refine⟨(k,u2)::qs,.cons ⟨rfl,r2⟩ g1,by simp[g2],fun it d h1 h2=>.cons tp ?_ ?_ ?_ (g3 it d h1 h2)⟩
    ·exact jk r1
    ·obtain⟨o,e,_⟩:=tp;exact W3 (W4 (VM e) h1)
    ·obtain⟨o,e,_⟩:=tp;exact W3 (W4 (VM e) h2)
 obtain⟨qs,g1,g2,g3⟩:=go hv r';obtain⟨⟨oc,odd,odt,osl⟩,n,hol,rfl,rfl,rfl⟩:=pl;have hlv:=hv.len;refine oS (knd:=mixKind X.prog X.w) hol (I.ok.hd hc) (by omega) g3 (by rw[g2];exact hn) fun h' tk kp hD=>?_
 have hb:=I.big;refine⟨.ref _,_,I.laid (a:=s.heap.objs.size) (o:=.dK ps) (t':=tk) kp (VL _) ⟨by omega,beq_eq_false_iff_ne.mpr (WP hb),qs,g1,hD⟩,rfl,q _ (I.hok.fresh (VL _))⟩
theorem Mr (hc:X.calm=true):jo X (.type "dict") vP:=by
 refine⟨_,Be hc,fun Z O F H U ds c vs Q R hp hg k=>?_⟩
 match ds,hg with
 |[.lst xs],hg =>
  obtain⟨v,r,rfl,⟨q,us,rfl,hs,hr⟩,hq⟩:=hp;have hq:r=[]:=hq;subst hq;simp only[vP,Y2] at hg;obtain⟨⟨ks,ds⟩,e,hg⟩:=hg;split at hg
  ·rename_i nd;cases hg;obtain⟨us',g1,g2,g3⟩:=MO R.sub hr e;have hl:=g2.length;refine⟨q,us,_,rfl,hs,g1,by rw[YU (by simp;omega)];exact md nd,fun p hp=>?_⟩;refine k _ _ _ (R.lay (.dK ((ks.map dk).zip us')) hp) (jD R.sub hp) ?_;unfold aG;exact⟨p,us',rfl,aw,g3,g2.mono (R.layExt _ hp)⟩
  ·cases hg
end
section
variable {X:Cx}{EX:EXT}{scope:Scope}{T caps:Zv}{ix:Zu}{tg iter elt:Expr}{ifs:Zx}{g:MG}{t:MB}{m:MX}{pos:Pos}
end
section
variable {prog:Program}{w:World}{A:Around}{E:Zm}{h:Heap}{g:Array GenState}{d:Drawn}{t:Nat}{os:OsState}
variable {nm q:Str}{C N:Addr}{bs bm bmB:Zt}{hdct:Bool}{sn:Zv}{sub:Zt}{ab:Bool}{col:Option Bool}{dd:Zw}{k0 k1 k2 k3 k5:Zs}{B newId initId:String}
end
section
variable {X:Cx}{EX:EXT}{o e:Expr}{es:Zx}{mo:MX}{ms:l7}{name:Str}{id:String}{r:V->List V->Hp->VK->Prop}{apos cpos:Pos}
end
section
variable {X:Cx}{EX:EXT}{o e:Expr}{es:Zx}{mo:MX}{ms:l7}{apos cpos:Pos}
end
section
variable {X:Cx}{EX:EXT}{o a:Expr}{mo m:MX}{ms:l7}
end
section
variable {X:Cx}{EX:EXT}{e:Expr}{m:MX}{pos:Pos}
end
def Vd (N ps G:Zv) (sc:Scope):Bool:=(match sc.kind with
 |.function=>true
 | _=>false)&&!sc.isCoroutine&&!sc.isGenerator&&decide N.Nodup&&decide (N.take ps.length=ps)&&(ps.all fun x=>sc.names.lookup x==some .local||sc.names.lookup x==some .cell)&&(sc.names.all fun y=>y.2 != .free)&&IA sc N&&Ra sc G
theorem gj {P:Program}{w:World}{K:Zl}{mg:Zn}{base:Heap}{x:Str}{st:Stmt}{ps:Zv}{k n j:Nat}{b:bD}(D:aR K mg x st ps) (N G:Zv) (h:Vd N ps G (af st)=true) (hj:N.length-ps.length=j) (hn:ps.length=n)
  (hb:∀(f:Addr) (cdv:Value) (A:Around) (outer:Zy) (s:Shared) (H:Hp) (E:XK),aQ k (A.deeper (envOfC x (af st) s.heap.objs.size f cdv))->Ct (fP mZ P w K mg base N x (af st) f cdv A outer s H E).nox N G->MSs (fP mZ P w K mg base N x (af st) f cdv A outer s H E).nox Ds (bU st) b) :
  bS P w K mg base x (k+1) n (fnOf j b):=by
 unfold Vd at h;simp only[W0] at h;obtain⟨⟨⟨⟨⟨⟨⟨⟨h1,h2⟩,h3⟩,h4⟩,h5⟩,h6⟩,h7⟩,h8⟩,h9⟩:=h;refine Mb D hn fun f fd F=>?_
 have S:cX N ps (af st):=⟨(by cases q:(af st).kind<;>rw[q] at h1<;>first|rfl|cases h1),by simpa using h2,by simpa using h3,X8 h4,X8 h5,fun x hx=>by simpa using List.all_eq_true.mp h6 x hx,fun y hy=>by simpa using List.all_eq_true.mp h7 y hy⟩
 exact CN F S hj hn fun cdv A outer s H E hr=>hb f cdv A outer s H E hr (Jt S.nd (qX h8) (yL h9) hr)
section
variable {ρ ρ1:En}{U U1:Mu}{m ma mb:MX}{t u:MB}{n a b r:bD}{d:D}{o:Res Out}{q:Res D}{c:Res Bool}
theorem eI (i:Nat) (h:m ρ U=.ok d U1) (k:r (ρ.set i (some d)) U1=o):ag (mSet i m) r ρ U=o:=(ar i h).trans k
end
end M
local macro_rules | `(tactic| walk_at "bs")=> `(tactic| (rename_i us hl;first|(have e:=M.Nq hl;subst e;rfl)|(obtain⟨_,e⟩:=M.IH hl;subst e;rfl)|(obtain⟨_,_,e⟩:=M.IG hl;subst e;rfl)|(obtain⟨_,_,_,e⟩:=M.Np hl;subst e;rfl)|(obtain⟨_,_,_,_,e⟩:=M.No hl;subst e;rfl)|(obtain⟨_,_,_,_,_,e⟩:=M.SB hl;subst e;rfl)))
local macro_rules | `(tactic| walk_at "dm")=> `(tactic| (refine' M.Te ?a ?l ?c ?k;(case a=>k_is);(case l=>k_is);(case c=>k_is);(case k=>k_is)))
namespace K30
open PySem PySem.Spec PyProof.Rows L2 M
def fD (i:Nat):Stmt:=PySem.Challenge.pw_netsieve_k30_whole_shrunk.main.body.getD i (.Pass ⟨0,0,0,0⟩)
abbrev GI:Stmt:=fD 58
abbrev N7:Stmt:=fD 59
abbrev V7:Stmt:=fD 62
abbrev RP:Stmt:=fD 63
abbrev GD:Stmt:=fD 64
abbrev Ar:Stmt:=fD 65
abbrev lX:Stmt:=fD 30
abbrev lY:Stmt:=fD 10
abbrev kY:Stmt:=fD 11
abbrev ow:Stmt:=fD 24
abbrev gH:Stmt:=fD 25
abbrev jE:Stmt:=fD 23
abbrev gG:Stmt:=fD 31
abbrev jG:Stmt:=fD 29
abbrev jF:Stmt:=fD 33
abbrev fS:Stmt:=fD 32
abbrev db:Stmt:=fD 28
abbrev eV:Stmt:=fD 26
abbrev ii:Stmt:=fD 39
abbrev oz:Stmt:=fD 38
abbrev gF:Stmt:=fD 41
abbrev xz:Stmt:=fD 42
abbrev iE:Stmt:=fD 43
abbrev ji:Stmt:=fD 40
abbrev iW:Stmt:=fD 44
abbrev cm:Stmt:=fD 37
abbrev qu:Stmt:=fD 76
abbrev BJ:Stmt:=fD 67
abbrev BF:Stmt:=fD 68
abbrev BE:Stmt:=fD 69
abbrev uN:Stmt:=fD 70
abbrev kZ:Stmt:=fD 27
abbrev qw:Stmt:=fD 66
abbrev aY:Stmt:=(De (fD 46)).getD 0 (.Pass ⟨0,0,0,0⟩)
abbrev lW:Stmt:=fD 50
abbrev iD:Stmt:=fD 51
abbrev qx:Stmt:=fD 54
abbrev ou:Stmt:=fD 14
abbrev fM:Stmt:=fD 13
abbrev lU:Stmt:=fD 12
abbrev oy:Stmt:=fD 53
abbrev lT:Stmt:=fD 52
abbrev tD:Stmt:=fD 56
abbrev lZ:Stmt:=fD 55
abbrev oA:Stmt:=fD 49
abbrev tE:Stmt:=fD 48
abbrev BG:Stmt:=fD 47
abbrev qv:Stmt:=fD 71
abbrev BI:Stmt:=fD 73
abbrev uO:Stmt:=fD 72
abbrev GG:Stmt:=fD 74
abbrev N6:Stmt:=fD 75
abbrev BH:Stmt:=fD 77
abbrev fK:Stmt:=(De (fD 2)).getD 0 (.Pass ⟨0,0,0,0⟩)
def xc:K3:=fun k=>match k with
 |0=>("NotLetIn",some "at")
 |_=>("",none)
abbrev aq:Str->Bool:=fun c=>(["Machine"]:Zv).contains c
def eP:Zu:=[108,111,97,100]
def wY:Zu:=[97,116]
def FD:Zu:=[120]
def dX:Zu:=[108,101,110]
theorem FZ:(Str.ofString "len")=⟨dX.toArray⟩:=by decide +kernel
def fH:Zu:=[116,97,120]
def dW:Zu:=[116,120,97]
theorem FX:(Str.ofString "txa")=⟨dW.toArray⟩:=by decide +kernel
def be:Zu:=[116,101,108,108,97]
def eI:Zu:=[115,101,116]
theorem FY:(Str.ofString "set")=⟨eI.toArray⟩:=by decide +kernel
def du:Zu:=[115,101,116,120]
def ba:Zu:=[107,101,101,112]
def bf:Zu:=[102,101,116,99,104]
def bW:Zu:=[112,108,117,115]
theorem DG:(Str.ofString "plus")=⟨bW.toArray⟩:=by decide +kernel
def bo:Zu:=[109,105,110,117,115]
theorem zM:(Str.ofString "minus")=⟨bo.toArray⟩:=by decide +kernel
def aZ:Zu:=[116,105,109,101,115]
theorem zK:(Str.ofString "times")=⟨aZ.toArray⟩:=by decide +kernel
def aI:Zu:=[111,118,101,114]
def aM:Zu:=[114,101,115,116]
def bx:Zu:=[97,110,100]
theorem G0:(Str.ofString "and")=⟨bx.toArray⟩:=by decide +kernel
def dv:Zu:=[111,114]
theorem Kb:(Str.ofString "or")=⟨dv.toArray⟩:=by decide +kernel
def cg:Zu:=[120,111,114]
theorem FW:(Str.ofString "xor")=⟨cg.toArray⟩:=by decide +kernel
def aH:Zu:=[108,101,102,116]
def aD:Zu:=[114,105,103,104,116]
def lL:Zu:=[100,111]
def jg:Zu:=[100,111,120]
def bA:Zu:=[106,117,109,112]
def eR:Zu:=[101,113,117,97,108]
theorem zO:(Str.ofString "equal")=⟨eR.toArray⟩:=by decide +kernel
def eS:Zu:=[97,98,111,118,101]
theorem zP:(Str.ofString "above")=⟨eS.toArray⟩:=by decide +kernel
def eQ:Zu:=[108,101,97,115,116]
theorem zN:(Str.ofString "least")=⟨eQ.toArray⟩:=by decide +kernel
def lM:Zu:=[97,110,121]
def fR:Zu:=[105,102]
def dw:Zu:=[105,102,120]
def bE:Zu:=[116,101,108,108]
def pZ:Zu:=[115,105,122,101]
def q0:Zu:=[98,97,115,101]
def bq:Zu:=[110,117,109,98,101,114]
def jB:Zu:=[115,108,111,116]
def wW:Zu:=[111,112]
def b5:Zu:=[100,105,115,116,97,110,99,101]
def l8:Zu:=[116,101,115,116]
def wX:Zu:=[110,111]
theorem Kc:(Str.ofString "no")=⟨wX.toArray⟩:=by decide +kernel
def Bu:Zu:=[111,116,104,101,114]
theorem zL:(Str.ofString "other")=⟨Bu.toArray⟩:=by decide +kernel
def Bt:Zu:=[115,116,117,99,107]
def c_MOST_STEPS:D:=(.int 2000)
def c_SLOTS:D:=(.int 8)
def rm:List DK:=[.inr eP,.inr dX,.inr eI,.inr du,.inr fH,.inr dW,.inr ba,.inr bf,.inr lL,.inr jg,.inr bA,.inr fR,.inr dw,.inr bE,.inr be]
def sA:ZE:=[(.tup [(.str pZ),(.str q0),(.str bq)]),(.tup []),(.tup [(.str bq)]),(.tup [(.str bq)]),(.tup []),(.tup []),(.tup [(.str jB)]),(.tup [(.str jB)]),(.tup [(.str wW),(.str bq)]),(.tup [(.str wW)]),(.tup [(.str b5)]),(.tup [(.str l8),(.str bq),(.str b5),(.str b5)]),(.tup [(.str l8),(.str b5),(.str b5)]),(.tup [(.str bq)]),(.tup [])]
def c_ROUND:D:=(.int 4294967296)
def c_SIZES:D:=(.tup [(.int 1),(.int 2),(.int 4)])
def c_FARTHEST:D:=(.int 2000)
def c_BASES:D:=(.tup [(.str wY),(.str FD)])
def c_OPS:D:=(.tup [(.str bW),(.str bo),(.str aZ),(.str aI),(.str aM),(.str bx),(.str dv),(.str cg),(.str aH),(.str aD)])
def c_TESTS:D:=(.tup [(.str eR),(.str eS),(.str eQ),(.str lM)])
def c_DIVIDING:D:=(.tup [(.str aI),(.str aM)])
def c_SHIFTING:D:=(.tup [(.str aH),(.str aD)])
def c_WIDTH:D:=(.int 32)
def c_LEADING:D:=(.tup [(.str bA),(.str fR),(.str dw)])
def c_TELLING:D:=(.tup [(.str bE),(.str be)])
abbrev QO:bD:=(ag (mIte (mTru (a4 0))
  (av (a6 gIdx (a4 0) (a6 bL (a4 1) (mCallB bM (a5 (a4 0) mNil)))))
  mSkip)
  (av (mC (.int 0))))
def vR:Fn:=fnOf 0 QO
abbrev Tk:bD:=(ag (mSet 2 (a6 bL (a6 bi (mCall vR (a5 (a4 0) (a5 (a4 1) mNil))) (a6 eM (mC (.int 104729)) (a6 bi (a4 1) (mC (.int 1))))) (mC (.int 4294967291))))
  (ag (mSet 2 (a6 bL (a6 eM (a4 2) (mC (.int 48271))) (mC (.int 4294967279))))
  (av (a6 bL (a6 bi (a6 eM (a6 dq (a4 2) (mC (.int 64))) (mC (.int 69621))) (a4 2)) (mC (.int 4294967231))))))
def di:Fn:=fnOf 1 Tk
abbrev VB:bD:=(ag (mSet 1 (mLst (a5 (mC (.int 0)) (a5 (mC (.int 1)) (a5 (mC (.int 2)) (a5 (mC (.int 7)) (a5 (mC (.int 31)) (a5 (mC (.int 32)) (a5 (mC (.int 255)) (a5 (mC (.int 256)) (a5 (mC (.int 65535)) (a5 (mC (.int 2147483648)) (a5 (mC (.int 4294967295)) (a5 (mC (.int 12)) mNil))))))))))))))
  (av (mIf (a9 (a6 yP (a6 bL (a4 0) (mC (.int 4))) (mC (.int 0)))) (a6 gIdx (a4 1) (a6 bL (a6 dq (a4 0) (mC (.int 4))) (mC (.int 12)))) (a6 bL (a6 dq (a4 0) (mC (.int 4))) (mC (.int 4294967296))))))
def f_k:Fn:=fnOf 1 VB
abbrev UR:bD:=(av (a6 gIdx (mLst (a5 (mC (.str bW)) (a5 (mC (.str bo)) (a5 (mC (.str aZ)) (a5 (mC (.str aI)) (a5 (mC (.str aM)) (a5 (mC (.str bx)) (a5 (mC (.str dv)) (a5 (mC (.str cg)) (a5 (mC (.str aH)) (a5 (mC (.str aD)) mNil))))))))))) (a6 bL (a4 0) (mC (.int 10)))))
def Ji:Fn:=fnOf 0 UR
abbrev JF:bD:=(ag (mSet 3 (mCall di (a5 (a4 0) (a5 (a4 1) mNil))))
  (ag (mSet 4 (mCall f_k (a5 (mCall di (a5 (a4 0) (a5 (a6 bi (a4 1) (mC (.int 1))) mNil))) mNil)))
  (ag (mSet 5 (a6 bL (a4 3) (mC (.int 18))))
  (ag (mSet 6 (a6 gIdx (mLst (a5 (mC (.int 0)) (a5 (mC (.int 1)) (a5 (mC (.int 2)) (a5 (mC (.int 5)) (a5 (mC (.int 13)) (a5 (mC (.int 19)) mNil))))))) (a6 bL (a6 dq (a4 3) (mC (.int 18))) (mC (.int 6)))))
  (ag (mSet 7 (a6 bL (mCall di (a5 (a4 0) (a5 (a6 bi (a4 1) (mC (.int 2))) mNil))) (mCallB t5 (a5 (mC (.int 1)) (a5 (a4 2) mNil)))))
  (ag (mSet 8 (a6 bL (mCall di (a5 (a4 0) (a5 (a6 bi (a4 1) (mC (.int 3))) mNil))) (mCallB t5 (a5 (mC (.int 1)) (a5 (a4 2) mNil)))))
  (ag (mIte (a9 (a6 t6 (a4 5) (mC (.int 3))))
  (av (mTup (a5 (mC (.str eP)) (a5 (a6 gIdx (mLst (a5 (mC (.int 1)) (a5 (mC (.int 2)) (a5 (mC (.int 4)) mNil)))) (a6 bL (a6 dq (a4 3) (mC (.int 18))) (mC (.int 3)))) (a5 (a6 gIdx (mLst (a5 (mC (.str wY)) (a5 (mC (.str FD)) mNil))) (a6 bL (a6 dq (a4 3) (mC (.int 54))) (mC (.int 2)))) (a5 (mIf (mTru (a6 bL (a6 dq (a4 3) (mC (.int 108))) (mC (.int 5)))) (a4 6) (a4 4)) mNil))))))
  mSkip)
  (ag (mIte (a9 (a6 t6 (a4 5) (mC (.int 5))))
  (av (a6 gIdx (mLst (a5 (mTup (a5 (mC (.str dX)) mNil)) (a5 (mTup (a5 (mC (.str fH)) mNil)) (a5 (mTup (a5 (mC (.str dW)) mNil)) (a5 (mTup (a5 (mC (.str be)) mNil)) mNil))))) (a6 bL (a6 dq (a4 3) (mC (.int 18))) (mC (.int 4)))))
  mSkip)
  (ag (mIte (a9 (a6 t6 (a4 5) (mC (.int 7))))
  (av (mTup (a5 (a6 gIdx (mLst (a5 (mC (.str eI)) (a5 (mC (.str du)) mNil))) (a6 dn (a4 5) (mC (.int 5)))) (a5 (a4 4) mNil))))
  mSkip)
  (ag (mIte (a9 (a6 t6 (a4 5) (mC (.int 9))))
  (av (mTup (a5 (a6 gIdx (mLst (a5 (mC (.str ba)) (a5 (mC (.str bf)) mNil))) (a6 dn (a4 5) (mC (.int 7)))) (a5 (a6 bL (a6 dq (a4 3) (mC (.int 18))) (mC (.int 3))) mNil))))
  mSkip)
  (ag (mIte (a9 (a6 t6 (a4 5) (mC (.int 11))))
  (ag (mSet 9 (mCall Ji (a5 (a6 dq (a4 3) (mC (.int 18))) mNil)))
  (ag (mIte (a9 (a6 ek (a4 9) (mTup (a5 (mC (.str aI)) (a5 (mC (.str aM)) (a5 (mC (.str aH)) (a5 (mC (.str aD)) mNil)))))))
  (mSet 4 (a6 bi (mC (.int 1)) (a6 bL (a4 4) (mC (.int 31)))))
  mSkip)
  (av (mTup (a5 (mC (.str lL)) (a5 (a4 9) (a5 (a4 4) mNil)))))))
  mSkip)
  (ag (mIte (a9 (a6 bB (a4 5) (mC (.int 11))))
  (av (mTup (a5 (mC (.str jg)) (a5 (mCall Ji (a5 (a6 dq (a4 3) (mC (.int 18))) mNil)) mNil))))
  mSkip)
  (ag (mIte (a9 (a6 bB (a4 5) (mC (.int 12))))
  (av (mTup (a5 (mC (.str bA)) (a5 (a4 7) mNil))))
  mSkip)
  (ag (mSet 10 (a6 gIdx (mLst (a5 (mC (.str eR)) (a5 (mC (.str eS)) (a5 (mC (.str eQ)) (a5 (mC (.str lM)) mNil))))) (a6 bL (a6 dq (a4 3) (mC (.int 18))) (mC (.int 4)))))
  (ag (mIte (a9 (a6 t6 (a4 5) (mC (.int 15))))
  (av (mTup (a5 (mC (.str fR)) (a5 (a4 10) (a5 (mIf (mTru (a6 bL (a6 dq (a4 3) (mC (.int 72))) (mC (.int 2)))) (a4 4) (a4 6)) (a5 (a4 7) (a5 (a4 8) mNil)))))))
  mSkip)
  (ag (mIte (a9 (a6 bB (a4 5) (mC (.int 15))))
  (av (mTup (a5 (mC (.str dw)) (a5 (a4 10) (a5 (a4 7) (a5 (a4 8) mNil))))))
  mSkip)
  (av (mIf (a9 (a6 bB (a4 5) (mC (.int 16)))) (mTup (a5 (mC (.str bE)) (a5 (a4 4) mNil))) (mTup (a5 (mC (.str ba)) (a5 (a6 bL (a6 dq (a4 3) (mC (.int 18))) (mC (.int 3))) mNil)))))))))))))))))))))
def vQ:Fn:=fnOf 8 JF
abbrev QN:bD:=(ag (mSet 3 (b7 1 [0,1,2] (gN 0) (mRange1 (a4 2)) fh (mCall vQ (a5 (a4 1) (a5 (a6 bi (a4 2) (a6 eM (mC (.int 4)) (a4 0))) (a5 (a6 dn (a4 3) (a4 0)) mNil))))))
  (av (mCatC (a4 3) (mLst (a5 (a6 gIdx (mLst (a5 (mTup (a5 (mC (.str be)) mNil)) (a5 (mTup (a5 (mC (.str bE)) (a5 (mC (.int 1)) mNil))) mNil))) (a6 bL (mCall di (a5 (a4 0) (a5 (a6 bi (a4 1) (a6 eM (mC (.int 4)) (a4 2))) mNil))) (mC (.int 2)))) mNil)))))
def rW:Fn:=fnOf 1 QN
abbrev wD:bD:=(av (mRep (a5 (mC (.bl false)) mNil) (mC c_SLOTS)))
def j6:Fn:=fnOf 0 wD
abbrev wE:bD:=(av (mAndV (mIsI .int (a4 0)) (mNotV (mIsI .bool (a4 0)))))
def dQ:Fn:=fnOf 0 wE
abbrev t9:bD:=(av (mAndV (mCall dQ (a5 (a4 0) mNil)) (mChain EV t6 (mC (.int 0)) (a4 0) (mC c_ROUND))))
def iu:Fn:=fnOf 0 t9
abbrev zo:bD:=(ag (mIte (a9 (a6 bB (a4 0) (mC (.str bq))))
  (av (mCall iu (a5 (a4 1) mNil)))
  mSkip)
  (ag (mIte (a9 (a6 bB (a4 0) (mC (.str pZ))))
  (av (mAndV (mCall dQ (a5 (a4 1) mNil)) (a6 ek (a4 1) (mC c_SIZES))))
  mSkip)
  (ag (mIte (a9 (a6 bB (a4 0) (mC (.str jB))))
  (av (mAndV (mCall dQ (a5 (a4 1) mNil)) (mChain EV t6 (mC (.int 0)) (a4 1) (mC c_SLOTS))))
  mSkip)
  (ag (mIte (a9 (a6 bB (a4 0) (mC (.str b5))))
  (av (mAndV (mCall dQ (a5 (a4 1) mNil)) (mChain EV EV (mC (.int 0)) (a4 1) (mC c_FARTHEST))))
  mSkip)
  (ag (mIte (a9 (a6 bB (a4 0) (mC (.str q0))))
  (av (a6 ek (a4 1) (mC c_BASES)))
  mSkip)
  (ag (mIte (a9 (a6 bB (a4 0) (mC (.str wW))))
  (av (a6 ek (a4 1) (mC c_OPS)))
  mSkip)
  (av (a6 ek (a4 1) (mC c_TESTS)))))))))
def dF:Fn:=fnOf 0 zo
abbrev lG:bD:=(ag (mIte (a9 (a6 ek (a4 0) (mC c_DIVIDING)))
  (av (a6 kQ (a4 1) (mC (.int 0))))
  mSkip)
  (ag (mIte (a9 (a6 ek (a4 0) (mC c_SHIFTING)))
  (av (a6 t6 (a4 1) (mC c_WIDTH)))
  mSkip)
  (av (mC (.bl true)))))
def bH:Fn:=fnOf 0 lG
abbrev zn:bD:=(ag (mIte (mOr (mNot (mTru (mIsI .tuple (a4 0)))) (a9 (a6 bB (mCallB bM (a5 (a4 0) mNil)) (mC (.int 0)))))
  (av (mC (.bl false)))
  mSkip)
  (ag (mIte (mOr (mNot (mTru (mIsI .str (a6 gIdx (a4 0) (mC (.int 0)))))) (a9 (a6 (gi true) (a6 gIdx (a4 0) (mC (.int 0))) (mC (.dic rm sA)))))
  (av (mC (.bl false)))
  mSkip)
  (ag (mSet 1 (a6 gDGet (mC (.dic rm sA)) (a6 gIdx (a4 0) (mC (.int 0)))))
  (ag (mIte (a9 (a6 kQ (mCallB bM (a5 (a4 0) mNil)) (a6 bi (mC (.int 1)) (mCallB bM (a5 (a4 1) mNil)))))
  (av (mC (.bl false)))
  mSkip)
  (ag (mIte (mNot (mTru (mCallB B5 (a5 (b7 2 [] (gTupT (cr (gN 0) (cr (gN 1) gsNil))) (mZip true true (a4 1) (mSl (a4 0) (mPart (mC (.int 1))) mNoP)) fh (mCall dF (a5 (a4 0) (a5 (a4 1) mNil)))) mNil))))
  (av (mC (.bl false)))
  mSkip)
  (av (mOrV (a6 kQ (a6 gIdx (a4 0) (mC (.int 0))) (mC (.str lL))) (mCall bH (a5 (a6 gIdx (a4 0) (mC (.int 1))) (a5 (a6 gIdx (a4 0) (mC (.int 2))) mNil))))))))))
def aK:Fn:=fnOf 1 zn
abbrev lF:bD:=(av (mAndV (a6 bB (a6 gIdx (a4 0) (mC (.int 0))) (mC (.str bf))) (mNotV (a6 gIdx (a4 1) (a6 gIdx (a4 0) (mC (.int 1)))))))
def cu:Fn:=fnOf 0 lF
abbrev sL:bD:=(ag (mSet 2 (a6 bi (a4 0) (mC (.int 1))))
  (ag (mIte (a9 (a6 ek (a6 gIdx (a4 1) (mC (.int 0))) (mTup (a5 (mC (.str bE)) (a5 (mC (.str be)) mNil)))))
  (av (mLst mNil))
  mSkip)
  (ag (mIte (a9 (a6 bB (a6 gIdx (a4 1) (mC (.int 0))) (mC (.str bA))))
  (av (mLst (a5 (a6 bi (a4 2) (a6 gIdx (a4 1) (mC (.int 1)))) mNil)))
  mSkip)
  (ag (mIte (a9 (a6 ek (a6 gIdx (a4 1) (mC (.int 0))) (mTup (a5 (mC (.str fR)) (a5 (mC (.str dw)) mNil)))))
  (av (mLst (a5 (a6 bi (a4 2) (a6 gIdx (a4 1) (mNeg (mC (.int 2))))) (a5 (a6 bi (a4 2) (a6 gIdx (a4 1) (mNeg (mC (.int 1))))) mNil))))
  mSkip)
  (av (mLst (a5 (a4 2) mNil)))))))
def bQ:Fn:=fnOf 1 sL
abbrev l5:bD:=(ag (mSet 4 (mDGet2 (a4 0) (a4 3) (a4 2)))
  (mPut (a4 0) (a4 3) (b7 2 [] (gTupT (cr (gN 0) (cr (gN 1) gsNil))) (mZip false false (a4 4) (a4 2)) fh (mAndV (a4 0) (a4 1)))))
abbrev zp:bD:=(mFor (gN 3) (mOverL (a4 1)) l5)
def fO:Fn:=fnOf 2 zp
abbrev oV:bD:=(ag (mIte (a9 (a6 kQ (a6 gIdx (a4 0) (mC (.int 0))) (mC (.str ba))))
  (av (a4 1))
  mSkip)
  (av (b7 2 [0] (gTupT (cr (gN 0) (cr (gN 1) gsNil))) (mEnum (a4 1)) fh (mOrV (a4 1) (a6 bB (a4 0) (a6 gIdx (a4 2) (mC (.int 1))))))))
def d7:Fn:=fnOf 0 oV
abbrev bu:bD:=(ag (mIte (mNot (mTru (mCall aK (a5 (a4 3) mNil))))
  (av (a4 2))
  mSkip)
  (ag (mIte (mAnd (a9 (a6 (gi false) (a4 2) (a4 1))) (mTru (mCall cu (a5 (a4 3) (a5 (a6 gDGet (a4 1) (a4 2)) mNil)))))
  (av (a4 2))
  mSkip)
  (ag (mSet 4 (mCall bQ (a5 (a4 2) (a5 (a4 3) mNil))))
  (ag (mIte (mTru (mCallB Jc (a5 (b7 1 [0] (gN 0) (mOverL (a4 4)) fh (a6 t7 (a4 0) (mCallB bM (a5 (a4 1) mNil)))) mNil)))
  (av (a4 2))
  mSkip)
  (mIte (a9 (a6 (gi false) (a4 2) (a4 1)))
  (mDrop (mCall fO (a5 (a4 1) (a5 (a4 4) (a5 (mCall d7 (a5 (a4 3) (a5 (a6 gDGet (a4 1) (a4 2)) mNil))) mNil)))))
  mSkip)))))
abbrev js:bD:=(ag (mIte (mNot (a9 (mChain EV EV (mC (.int 1)) (mCallB bM (a5 (a4 0) mNil)) (mC c_MOST_STEPS))))
  (av (mC (.int 0)))
  mSkip)
  (ag (mSet 1 (mDicC [.inl 0] (a5 (mCall j6 mNil) mNil)))
  (ag (mFor (gTupT (cr (gN 2) (cr (gN 3) gsNil))) (mEnum (a4 0)) bu)
  (av (mC .non)))))
def bn:Fn:=fnOf 4 js
abbrev JI:bD:=(ag (mSet 1 (mCall bn (a5 (a4 0) mNil)))
  (mIte (a9 (mNotN (a4 1)))
  (qU 0 (a4 1))
  mSkip))
def mD:Fn:=fnOf 1 JI
abbrev t8:bD:=(ag (mIte (a9 (a6 fy (a6 gIdx (a6 gIdx (a4 0) (a4 2)) (mC (.int 0))) (mC c_LEADING)))
  (av (mLst mNil))
  mSkip)
  (av (b7 1 [1] (gN 0) (mOverL (mCall bQ (a5 (a4 2) (a5 (a6 gIdx (a4 0) (a4 2)) mNil)))) fh (a6 gDGet (a4 1) (a4 0)))))
def bN:Fn:=fnOf 0 t8
abbrev l6:bD:=(ag (mSet 3 (mCall bN (a5 (a4 0) (a5 (a4 1) (a5 (a4 2) mNil)))))
  (ag (mSet 4 (mAndV (a6 yP (mCallB bM (a5 (a4 3) mNil)) (mC (.int 0))) (a6 bB (a6 gIdx (a4 3) (mC (.int 0))) (a6 gIdx (a4 3) (mNeg (mC (.int 1)))))))
  (mPut (a4 1) (a4 2) (mIf (mTru (a4 4)) (a6 gIdx (a4 3) (mC (.int 0))) (a4 2)))))
abbrev zr:bD:=(ag (mSet 1 mDic0)
  (ag (mFor (gN 2) (mRange3 (a5 (a6 dn (mCallB bM (a5 (a4 0) mNil)) (mC (.int 1))) (a5 (mNeg (mC (.int 1))) (a5 (mNeg (mC (.int 1))) mNil)))) l6)
  (mFrz 1 (av (a4 1)))))
def hW:Fn:=fnOf 4 zr
abbrev sJ:bD:=(av (b7 1 [0] (gN 0) (mRange1 (a4 1)) (a9 (a6 bB (a6 gDGet (a4 1) (a4 0)) (a4 0))) (a4 0)))
def dE:Fn:=fnOf 0 sJ
abbrev qY:bD:=(mPut (a4 0) (a4 2) (mC (.bl true)))
abbrev JJ:bD:=(mFor (gN 2) (mOverL (a4 1)) qY)
def gL:Fn:=fnOf 1 JJ
abbrev og:bD:=(av (mIf (a9 (a6 ek (a6 gIdx (a6 gIdx (a4 0) (a4 1)) (mC (.int 0))) (mC c_TELLING))) (mLst mNil) (mLst (a5 (a4 1) mNil))))
def cM:Fn:=fnOf 0 og
abbrev dh:bD:=(ag (mSet 6 (mAndV (mNotN (a4 4)) (a6 bB (a6 gDGet (a4 1) (a4 4)) (a4 5))))
  (ag (mIte (mAnd (mNot (mTru (a4 6))) (a9 (a6 (gi true) (a4 5) (a4 3))))
  mCont
  mSkip)
  (ag (mIte (mAnd (a9 (mNotN (a4 4))) (mNot (mTru (a4 6))))
  (ag (mDrop (mAppend (a4 2) (a4 4)))
  (mDrop (mCall gL (a5 (a4 3) (a5 (mCall cM (a5 (a4 0) (a5 (a6 gDGet (a4 1) (a4 4)) mNil))) mNil)))))
  mSkip)
  (ag (mDrop (mAppend (a4 2) (a4 5)))
  (ag (mDrop (mCall gL (a5 (a4 3) (a5 (mCall bN (a5 (a4 0) (a5 (a4 1) (a5 (a4 5) mNil)))) mNil))))
  (mSet 4 (mIf (a9 (a6 ek (a6 gIdx (a6 gIdx (a4 0) (a4 5)) (mC (.int 0))) (a6 bi (mC c_LEADING) (mC c_TELLING)))) (mC .non) (a6 bi (a4 5) (mC (.int 1))))))))))
abbrev oU:bD:=(ag (mSet 2 (mLstC mNil))
  (ag (mSet 3 mDic0)
  (ag (mSet 4 (mC (.int 0)))
  (ag (mFor (gN 5) (mOverL (mCall dE (a5 (a4 1) (a5 (mCallB bM (a5 (a4 0) mNil)) mNil)))) dh)
  (mFrz 2 (av (a4 2)))))))
def eC:Fn:=fnOf 5 oU
abbrev mU:bD:=(ag (mSet 4 (a6 gIdx (a4 0) (a4 2)))
  (ag (mSet 5 (a6 gDGet (a4 1) (a4 2)))
  (ag (mSet 6 (a6 bi (a6 gDGet (a4 3) (a4 2)) (mC (.int 1))))
  (ag (mIte (mAnd (a9 (a6 kQ (a4 5) (a4 2))) (a9 (a6 ek (a6 gIdx (a6 gIdx (a4 0) (a4 5)) (mC (.int 0))) (mC c_TELLING))))
  (av (a6 gIdx (a4 0) (a4 5)))
  mSkip)
  (ag (mIte (a9 (a6 kQ (a4 5) (a4 2)))
  (av (mTup (a5 (mC (.str bA)) (a5 (a6 dn (a6 gDGet (a4 3) (a4 5)) (a4 6)) mNil))))
  mSkip)
  (ag (mIte (a9 (a6 ek (a6 gIdx (a4 4) (mC (.int 0))) (mC c_LEADING)))
  (av (a6 bi (mSl (a4 4) mNoP (mPart (mNeg (mC (.int 2))))) (mCallB J8 (a5 (b7 1 [6,3] (gN 0) (mOverL (mCall bN (a5 (a4 0) (a5 (a4 1) (a5 (a4 2) mNil))))) fh (a6 dn (a6 gDGet (a4 2) (a4 0)) (a4 1))) mNil))))
  mSkip)
  (av (a4 4))))))))
def dL:Fn:=fnOf 3 mU
abbrev Bi:bD:=(ag (mDrop (jR mD (a5 (a4 0) mNil)))
  (ag (mSet 1 (mCall hW (a5 (a4 0) mNil)))
  (ag (mSet 2 (mCall eC (a5 (a4 0) (a5 (a4 1) mNil))))
  (ag (mSet 3 (mCallB vP (a5 (b7 2 [] (gTupT (cr (gN 0) (cr (gN 1) gsNil))) (mEnum (a4 2)) fh (mTup (a5 (a4 1) (a5 (a4 0) mNil)))) mNil)))
  (av (b7 1 [0,1,3] (gN 0) (mOverL (a4 2)) fh (mCall dL (a5 (a4 1) (a5 (a4 2) (a5 (a4 0) (a5 (a4 3) mNil)))))))))))
def eF:Fn:=fnOf 3 Bi
abbrev fk:bD:=(mSet 1 (mIf (mTru (Ix (fun c=>([("NotLetIn",true)]:List (Str×Bool)).lookup c) (a4 2))) (mTup (a5 (mC (.str wX)) (a5 (LP (fun c=>(["NotLetIn"]:Zv).contains c) "at" (a4 2)) mNil))) (mTup (a5 (mC (.str Bu)) (a5 (mC (.int 0)) mNil)))))
abbrev JG:bD:=(ag (mSet 1 (mC .non))
  (ag (mTryK 1 2 (fun k=>k==0) xc (jR eF (a5 (a4 0) mNil)) fk)
  (av (a4 1))))
def ke:Fn:=fnOf 2 JG
abbrev Mz:bD:=(ag (mIte (a9 (a6 ek (a6 gIdx (a4 0) (mC (.int 0))) (mTup (a5 (mC (.str bE)) (a5 (mC (.str be)) mNil)))))
  (av (mLst mNil))
  mSkip)
  (ag (mIte (a9 (a6 bB (a6 gIdx (a4 0) (mC (.int 0))) (mC (.str bA))))
  (av (mLst (a5 (a6 bi (a6 bi (a4 1) (mC (.int 1))) (a6 gIdx (a4 0) (mC (.int 1)))) mNil)))
  mSkip)
  (ag (mIte (a9 (a6 ek (a6 gIdx (a4 0) (mC (.int 0))) (mTup (a5 (mC (.str fR)) (a5 (mC (.str dw)) mNil)))))
  (av (mLst (a5 (a6 bi (a6 bi (a4 1) (mC (.int 1))) (a6 gIdx (a4 0) (mNeg (mC (.int 2))))) (a5 (a6 bi (a6 bi (a4 1) (mC (.int 1))) (a6 gIdx (a4 0) (mNeg (mC (.int 1))))) mNil))))
  mSkip)
  (av (mLst (a5 (a6 bi (a4 1) (mC (.int 1))) mNil))))))
def dm:Fn:=fnOf 0 Mz
abbrev nJ:bD:=(mIte (a9 (a6 fy (a4 3) (a4 1)))
  (mDrop (mAppend (a4 1) (a4 3)))
  mSkip)
abbrev nI:bD:=(mIte (a9 (a6 ek (a4 2) (a4 1)))
  (mFor (gN 3) (mOverL (mCall dm (a5 (a6 gIdx (a4 0) (a4 2)) (a5 (a4 2) mNil)))) nJ)
  mSkip)
abbrev Mw:bD:=(ag (mSet 1 (mLstC (a5 (mC (.int 0)) mNil)))
  (ag (mFor (gN 2) (mRange1 (mCallB bM (a5 (a4 0) mNil))) nI)
  (av (a4 1))))
def pB:Fn:=fnOf 3 Mw
abbrev nH:bD:=(mIte (a9 (a6 fy (a4 4) (a4 2)))
  (mDrop (mAppend (a4 2) (a4 4)))
  mSkip)
abbrev nG:bD:=(mIte (mAnd (a9 (a6 ek (a4 3) (a4 2))) (a9 (a6 kQ (a6 gIdx (a4 0) (a4 3)) (mTup (a5 (mC (.str ba)) (a5 (a4 1) mNil))))))
  (mFor (gN 4) (mOverL (mCall dm (a5 (a6 gIdx (a4 0) (a4 3)) (a5 (a4 3) mNil)))) nH)
  mSkip)
abbrev Mv:bD:=(ag (mSet 2 (mLstC (a5 (mC (.int 0)) mNil)))
  (ag (mFor (gN 3) (mRange1 (mCallB bM (a5 (a4 0) mNil))) nG)
  (av (a4 2))))
def mz:Fn:=fnOf 3 Mv
abbrev nM:bD:=(ag (mIte (mAnd (a9 (a6 bB (a6 gIdx (a6 gIdx (a4 0) (a4 2)) (mC (.int 0))) (mC (.str bf)))) (mAnd (a9 (a6 ek (a4 2) (a4 1))) (a9 (a6 ek (a4 2) (mCall mz (a5 (a4 0) (a5 (a6 gIdx (a6 gIdx (a4 0) (a4 2)) (mC (.int 1))) mNil)))))))
  (av (a4 2))
  mSkip)
  (mIte (mNot (mTru (mCallB B5 (a5 (b7 1 [0] (gN 0) (mOverL (mCall dm (a5 (a6 gIdx (a4 0) (a4 2)) (a5 (a4 2) mNil)))) fh (a6 t6 (a4 0) (mCallB bM (a5 (a4 1) mNil)))) mNil))))
  (av (a4 2))
  mSkip))
abbrev MC:bD:=(ag (mSet 1 (mCall pB (a5 (a4 0) mNil)))
  (ag (mFor (gN 2) (mRange1 (mCallB bM (a5 (a4 0) mNil))) nM)
  (av (mNeg (mC (.int 1))))))
def gm:Fn:=fnOf 2 MC
abbrev tf:bD:=(av (mIsN (mCall bn (a5 (a4 0) mNil))))
def d9:Fn:=fnOf 0 tf
abbrev JH:bD:=(ag (mSet 2 (a6 gIdx (mLst (a5 (mC (.int 0)) (a5 (mC (.int 1)) (a5 (mC (.int 3)) (a5 (mC (.int 20)) (a5 (mC (.int 34)) (a5 (mC (.int 60)) mNil))))))) (a6 bL (mCall di (a5 (a4 0) (a5 (a4 1) mNil))) (mC (.int 6)))))
  (av (b7 1 [0,1] (gN 0) (mRange1 (a4 2)) fh (a6 bL (a6 dq (mCall di (a5 (a4 1) (a5 (a6 bi (a6 bi (a4 2) (mC (.int 1))) (a6 bL (a4 0) (mC (.int 40)))) mNil))) (a6 bi (mC (.int 1)) (a4 0))) (mC (.int 256))))))
def mB:Fn:=fnOf 1 JH
abbrev kS:bD:=(ag (mSetA aq "hand" (a4 0) (mC (.int 0)))
  (ag (mSetA aq "other" (a4 0) (mC (.int 0)))
  (ag (mSetA aq "slots" (a4 0) mDic0)
  (ag (mSetA aq "place" (a4 0) (mC (.int 0)))
  (ag (mSetA aq "done" (a4 0) (mC (.int 0)))
  (mSetA aq "told" (a4 0) (mC .non)))))))
def c6:Fn:=fnOf 0 kS
abbrev wC:bD:=(mIte (a9 (a6 bB (a6 gIdx (a4 1) (mC (.int 0))) (mC (.str du))))
  (mSetA aq "other" (a4 0) (a6 gIdx (a4 1) (mC (.int 1))))
  (mIte (a9 (a6 bB (a6 gIdx (a4 1) (mC (.int 0))) (mC (.str fH))))
  (mSetA aq "other" (a4 0) (mAttr aq "hand" (a4 0)))
  (mPut (mAttr aq "slots" (a4 0)) (a6 gIdx (a4 1) (mC (.int 1))) (mAttr aq "hand" (a4 0)))))
def gk:Fn:=fnOf 0 wC
abbrev oa:bD:=(mIte (a9 (mIsN (a4 1)))
  (mSetA aq "told" (a4 0) (mC (.int 0)))
  (mSetA aq "hand" (a4 0) (a4 1)))
def bG:Fn:=fnOf 0 oa
abbrev gf:bD:=(mSet 3 (a6 bi (a6 eM (a4 3) (mC (.int 256))) (a4 4)))
abbrev Bj:bD:=(ag (mIte (mOr (a9 (a6 t6 (a4 2) (mC (.int 0)))) (a9 (a6 yP (a6 bi (a4 2) (a4 1)) (mCallB bM (a5 (a4 0) mNil)))))
  (av (mC .non))
  mSkip)
  (ag (mSet 3 (mC (.int 0)))
  (ag (mFor (gN 4) (mOverL (mSl (a4 0) (mPart (a4 2)) (mPart (a6 bi (a4 2) (a4 1))))) gf)
  (av (a4 3)))))
def j7:Fn:=fnOf 2 Bj
abbrev oJ:bD:=(ag (mIte (a9 (a6 t7 (a4 2) (mC c_WIDTH)))
  (av (mC (.int 0)))
  mSkip)
  (ag (mSet 3 (mCallB t5 (a5 (a4 2) (a5 (mC (.int 0)) mNil))))
  (av (mIf (a9 (a6 bB (a4 0) (mC (.str aH)))) (a6 Ja (a4 1) (a4 3)) (a6 J9 (a4 1) (a4 3))))))
def dD:Fn:=fnOf 1 oJ
abbrev bR:bD:=(ag (mIte (a9 (a6 bB (a4 0) (mC (.str bW))))
  (av (a6 bi (a4 1) (a4 2)))
  mSkip)
  (ag (mIte (a9 (a6 bB (a4 0) (mC (.str bo))))
  (av (a6 dn (a4 1) (a4 2)))
  mSkip)
  (ag (mIte (a9 (a6 bB (a4 0) (mC (.str aZ))))
  (av (a6 eM (a4 1) (a4 2)))
  mSkip)
  (ag (mIte (a9 (a6 bB (a4 0) (mC (.str aI))))
  (av (a6 dq (a4 1) (a4 2)))
  mSkip)
  (ag (mIte (a9 (a6 bB (a4 0) (mC (.str aM))))
  (av (a6 bL (a4 1) (a4 2)))
  mSkip)
  (ag (mIte (a9 (a6 bB (a4 0) (mC (.str bx))))
  (av (a6 EW (a4 1) (a4 2)))
  mSkip)
  (ag (mIte (a9 (a6 bB (a4 0) (mC (.str dv))))
  (av (a6 M9 (a4 1) (a4 2)))
  mSkip)
  (ag (mIte (a9 (a6 bB (a4 0) (mC (.str cg))))
  (av (a6 M8 (a4 1) (a4 2)))
  mSkip)
  (av (mCall dD (a5 (a4 0) (a5 (a4 1) (a5 (a4 2) mNil)))))))))))))
def aB:Fn:=fnOf 0 bR
abbrev ff:bD:=(ag (mIte (mAnd (a9 (a6 ek (a4 0) (mC c_DIVIDING))) (a9 (a6 bB (a4 2) (mC (.int 0)))))
  (av (mC .non))
  mSkip)
  (av (a6 bL (mCall aB (a5 (a4 0) (a5 (a4 1) (a5 (a4 2) mNil)))) (mC c_ROUND))))
def ay:Fn:=fnOf 0 ff
abbrev zq:bD:=(ag (mIte (a9 (a6 (gi true) (a4 1) (mAttr aq "slots" (a4 0))))
  mBad
  mSkip)
  (av (a6 gDGet (mAttr aq "slots" (a4 0)) (a4 1))))
def hV:Fn:=fnOf 0 zq
abbrev wB:bD:=(ag (mIte (a9 (a6 bB (a6 gIdx (a4 1) (mC (.int 0))) (mC (.str eP))))
  (ag (mSet 3 (mIf (a9 (a6 bB (a6 gIdx (a4 1) (mC (.int 2))) (mC (.str FD)))) (mAttr aq "other" (a4 0)) (mC (.int 0))))
  (av (mCall j7 (a5 (a4 2) (a5 (a6 gIdx (a4 1) (mC (.int 1))) (a5 (a6 bi (a4 3) (a6 gIdx (a4 1) (mC (.int 3)))) mNil))))))
  mSkip)
  (ag (mIte (a9 (a6 bB (a6 gIdx (a4 1) (mC (.int 0))) (mC (.str dX))))
  (av (mCallB bM (a5 (a4 2) mNil)))
  mSkip)
  (ag (mIte (a9 (a6 bB (a6 gIdx (a4 1) (mC (.int 0))) (mC (.str eI))))
  (av (a6 gIdx (a4 1) (mC (.int 1))))
  mSkip)
  (ag (mIte (a9 (a6 bB (a6 gIdx (a4 1) (mC (.int 0))) (mC (.str dW))))
  (av (mAttr aq "other" (a4 0)))
  mSkip)
  (ag (mIte (a9 (a6 bB (a6 gIdx (a4 1) (mC (.int 0))) (mC (.str lL))))
  (av (mCall ay (a5 (a6 gIdx (a4 1) (mC (.int 1))) (a5 (mAttr aq "hand" (a4 0)) (a5 (a6 gIdx (a4 1) (mC (.int 2))) mNil)))))
  mSkip)
  (ag (mIte (a9 (a6 bB (a6 gIdx (a4 1) (mC (.int 0))) (mC (.str jg))))
  (av (mCall ay (a5 (a6 gIdx (a4 1) (mC (.int 1))) (a5 (mAttr aq "hand" (a4 0)) (a5 (mAttr aq "other" (a4 0)) mNil)))))
  mSkip)
  (av (mCall hV (a5 (a4 0) (a5 (a6 gIdx (a4 1) (mC (.int 1))) mNil))))))))))
def dJ:Fn:=fnOf 1 wB
abbrev Fx:bD:=(ag (mIte (a9 (a6 bB (a4 0) (mC (.str eR))))
  (av (a6 bB (a4 1) (a4 2)))
  mSkip)
  (ag (mIte (a9 (a6 bB (a4 0) (mC (.str eS))))
  (av (a6 yP (a4 1) (a4 2)))
  mSkip)
  (ag (mIte (a9 (a6 bB (a4 0) (mC (.str eQ))))
  (av (a6 t7 (a4 1) (a4 2)))
  mSkip)
  (av (a6 kQ (a6 EW (a4 1) (a4 2)) (mC (.int 0)))))))
def iK:Fn:=fnOf 0 Fx
abbrev wF:bD:=(ag (mIte (a9 (a6 bB (a6 gIdx (a4 1) (mC (.int 0))) (mC (.str bA))))
  (av (a6 gIdx (a4 1) (mC (.int 1))))
  mSkip)
  (ag (mIte (a9 (a6 bB (a6 gIdx (a4 1) (mC (.int 0))) (mC (.str fR))))
  (av (mIf (mTru (mCall iK (a5 (a6 gIdx (a4 1) (mC (.int 1))) (a5 (mAttr aq "hand" (a4 0)) (a5 (a6 gIdx (a4 1) (mC (.int 2))) mNil))))) (a6 gIdx (a4 1) (mC (.int 3))) (a6 gIdx (a4 1) (mC (.int 4)))))
  mSkip)
  (ag (mIte (a9 (a6 bB (a6 gIdx (a4 1) (mC (.int 0))) (mC (.str dw))))
  (av (mIf (mTru (mCall iK (a5 (a6 gIdx (a4 1) (mC (.int 1))) (a5 (mAttr aq "hand" (a4 0)) (a5 (mAttr aq "other" (a4 0)) mNil))))) (a6 gIdx (a4 1) (mC (.int 2))) (a6 gIdx (a4 1) (mC (.int 3)))))
  mSkip)
  (av (mC (.int 0))))))
def f9:Fn:=fnOf 0 wF
abbrev zt:bD:=(ag (mIte (a9 (a6 bB (a6 gIdx (a4 1) (mC (.int 0))) (mC (.str bE))))
  (mSetA aq "told" (a4 0) (a6 gIdx (a4 1) (mC (.int 1))))
  (mIte (a9 (a6 bB (a6 gIdx (a4 1) (mC (.int 0))) (mC (.str be))))
  (mSetA aq "told" (a4 0) (mAttr aq "hand" (a4 0)))
  (mIte (a9 (a6 ek (a6 gIdx (a4 1) (mC (.int 0))) (mTup (a5 (mC (.str du)) (a5 (mC (.str fH)) (a5 (mC (.str ba)) mNil))))))
  (mDrop (mCall gk (a5 (a4 0) (a5 (a4 1) mNil))))
  (mIte (a9 (a6 fy (a6 gIdx (a4 1) (mC (.int 0))) (mTup (a5 (mC (.str bA)) (a5 (mC (.str fR)) (a5 (mC (.str dw)) mNil))))))
  (mDrop (mCall bG (a5 (a4 0) (a5 (mCall dJ (a5 (a4 0) (a5 (a4 1) (a5 (a4 2) mNil)))) mNil))))
  mSkip))))
  (ag (mAugA aq "done" (a4 0) (mC (.int 1)))
  (mAugA aq "place" (a4 0) (a6 bi (mC (.int 1)) (mCall f9 (a5 (a4 0) (a5 (a4 1) mNil)))))))
def cE:Fn:=fnOf 0 zt
abbrev jV:bD:=(ag (mIte (a9 (a6 t7 (mAttr aq "place" (a4 2)) (mCallB bM (a5 (a4 0) mNil))))
  mBad
  mSkip)
  (mDrop (mCall cE (a5 (a4 2) (a5 (a6 gIdx (a4 0) (mAttr aq "place" (a4 2))) (a5 (a4 1) mNil))))))
abbrev Fy:bD:=(ag (mSet 2 (mNew "Machine" c6 mNil))
  (ag (mWhile 100 (a9 (mIsN (mAttr aq "told" (a4 2)))) jV)
  (av (a4 2))))
def kE:Fn:=fnOf 1 Fy
abbrev Mx:bD:=(av (mAttr aq "told" (mCall kE (a5 (a4 0) (a5 (a4 1) mNil)))))
def pC:Fn:=fnOf 0 Mx
abbrev c7:bD:=(mSet 1 (mIf (a9 (a6 bB (a4 0) (mC (.str aH)))) (a6 eM (a4 1) (mC (.int 2))) (a6 dq (a4 1) (mC (.int 2)))))
abbrev f8:bD:=(ag (mSet 6 (mTup (a5 (a6 bL (a6 dq (a4 1) (a4 5)) (mC (.int 2))) (a5 (a6 bL (a6 dq (a4 2) (a4 5)) (mC (.int 2))) mNil))))
  (ag (mSet 4 (a6 bi (a4 4) (a6 eM (a4 5) (mCallB kc (a5 (a6 gDGet (mDic [.inr bx,.inr dv,.inr cg] (a5 (a6 bB (a4 6) (mTup (a5 (mC (.int 1)) (a5 (mC (.int 1)) mNil)))) (a5 (a6 kQ (a4 6) (mTup (a5 (mC (.int 0)) (a5 (mC (.int 0)) mNil)))) (a5 (a6 kQ (a6 gIdx (a4 6) (mC (.int 0))) (a6 gIdx (a4 6) (mC (.int 1)))) mNil)))) (a4 0)) mNil)))))
  (mSet 5 (a6 eM (a4 5) (mC (.int 2))))))
abbrev dH:bD:=(ag (mIte (a9 (a6 ek (a4 0) (mTup (a5 (mC (.str aI)) (a5 (mC (.str aM)) mNil)))))
  (ag (mIte (a9 (a6 bB (a4 2) (mC (.int 0))))
  (av (mC .non))
  mSkip)
  (av (mIf (a9 (a6 bB (a4 0) (mC (.str aI)))) (a6 dq (a4 1) (a4 2)) (a6 dn (a4 1) (a6 eM (a6 dq (a4 1) (a4 2)) (a4 2))))))
  mSkip)
  (ag (mIte (a9 (a6 ek (a4 0) (mTup (a5 (mC (.str aH)) (a5 (mC (.str aD)) mNil)))))
  (ag (mFor (gN 3) (mRange1 (mCallB B4 (a5 (a4 2) (a5 (mC (.int 33)) mNil)))) c7)
  (av (a6 bL (a4 1) (mC (.int 4294967296)))))
  mSkip)
  (ag (mIte (a9 (a6 ek (a4 0) (mTup (a5 (mC (.str bx)) (a5 (mC (.str dv)) (a5 (mC (.str cg)) mNil))))))
  (ag (mSet 4 (mC (.int 0)))
  (ag (mSet 5 (mC (.int 1)))
  (ag (mFor (gN 3) (mRange1 (mC (.int 32))) f8)
  (av (a4 4)))))
  mSkip)
  (av (a6 bL (a6 gDGet (mDic [.inr bW,.inr bo,.inr aZ] (a5 (a6 bi (a4 1) (a4 2)) (a5 (a6 dn (a4 1) (a4 2)) (a5 (a6 eM (a4 1) (a4 2)) mNil)))) (a4 0)) (mC (.int 4294967296)))))))
def aJ:Fn:=fnOf 4 dH
abbrev My:bD:=(ag (mIte (a9 (a6 bB (a4 0) (mC (.str lM))))
  (av (a6 yP (mCall aJ (a5 (mC (.str bx)) (a5 (a4 1) (a5 (a4 2) mNil)))) (mC (.int 0))))
  mSkip)
  (av (a6 gDGet (mDic [.inr eR,.inr eS,.inr eQ] (a5 (a6 bB (a4 1) (a4 2)) (a5 (a6 yP (a4 1) (a4 2)) (a5 (a6 t7 (a4 1) (a4 2)) mNil)))) (a4 0))))
def mE:Fn:=fnOf 0 My
abbrev MD:bD:=(ag (mIte (a9 (a6 yP (a6 bi (a4 1) (a4 2)) (mCallB bM (a5 (a4 0) mNil))))
  (av (mC .non))
  mSkip)
  (av (mCallB Qq (a5 (b7 1 [0,1,2] (gN 0) (mRange1 (a4 2)) fh (a6 eM (a6 gIdx (a4 1) (a6 bi (a4 2) (a4 0))) (a6 gIdx (mLst (a5 (mC (.int 1)) (a5 (mC (.int 256)) (a5 (mC (.int 65536)) (a5 (mC (.int 16777216)) mNil))))) (a6 dn (a6 dn (a4 3) (mC (.int 1))) (a4 0))))) mNil))))
def mF:Fn:=fnOf 0 MD
abbrev QM:bD:=(ag (mSet 3 (a6 gIdx (a4 1) (mC (.int 0))))
  (ag (mSet 4 (a6 gIdx (a4 1) (mC (.int 1))))
  (ag (mIte (a9 (a6 bB (a6 gIdx (a4 0) (mC (.int 0))) (mC (.str eP))))
  (av (mTup (a5 (mCall mF (a5 (a4 2) (a5 (a6 bi (a6 gIdx (a4 0) (mC (.int 3))) (a6 eM (a4 4) (mCallB kc (a5 (a6 bB (a6 gIdx (a4 0) (mC (.int 2))) (mC (.str FD))) mNil)))) (a5 (a6 gIdx (a4 0) (mC (.int 1))) mNil)))) (a5 (a4 4) mNil))))
  mSkip)
  (ag (mIte (a9 (a6 ek (a6 gIdx (a4 0) (mC (.int 0))) (mTup (a5 (mC (.str lL)) (a5 (mC (.str jg)) mNil)))))
  (av (mTup (a5 (mCall aJ (a5 (a6 gIdx (a4 0) (mC (.int 1))) (a5 (a4 3) (a5 (mIf (a9 (a6 bB (a6 gIdx (a4 0) (mC (.int 0))) (mC (.str lL)))) (a6 gIdx (a4 0) (mC (.int 2))) (a4 4)) mNil)))) (a5 (a4 4) mNil))))
  mSkip)
  (ag (mIte (a9 (a6 ek (a6 gIdx (a4 0) (mC (.int 0))) (mTup (a5 (mC (.str dX)) (a5 (mC (.str eI)) (a5 (mC (.str dW)) mNil))))))
  (av (mTup (a5 (a6 gDGet (mDic [.inr dX,.inr eI,.inr dW] (a5 (mCallB bM (a5 (a4 2) mNil)) (a5 (a6 gIdx (a4 0) (mNeg (mC (.int 1)))) (a5 (a4 4) mNil)))) (a6 gIdx (a4 0) (mC (.int 0)))) (a5 (a4 4) mNil))))
  mSkip)
  (ag (mIte (a9 (a6 ek (a6 gIdx (a4 0) (mC (.int 0))) (mTup (a5 (mC (.str du)) (a5 (mC (.str fH)) mNil)))))
  (av (mTup (a5 (a4 3) (a5 (mIf (a9 (a6 bB (a6 gIdx (a4 0) (mC (.int 0))) (mC (.str du)))) (a6 gIdx (a4 0) (mNeg (mC (.int 1)))) (a4 3)) mNil))))
  mSkip)
  (av (mTup (a5 (a4 3) (a5 (a4 4) mNil))))))))))
def lB:Fn:=fnOf 2 QM
abbrev kC:bD:=(ag (mIte (mOr (a9 (a6 t7 (a4 4) (mCallB bM (a5 (a4 0) mNil)))) (mAnd (a9 (a6 bB (a6 gIdx (a6 gIdx (a4 0) (a4 4)) (mC (.int 0))) (mC (.str bf)))) (a9 (a6 (gi true) (a6 gIdx (a6 gIdx (a4 0) (a4 4)) (mC (.int 1))) (a4 3)))))
  (av (mTup (a5 (mC (.str Bt)) (a5 (a4 4) mNil))))
  mSkip)
  (ag (mSet 6 (a6 gIdx (a4 0) (a4 4)))
  (ag (mIte (a9 (a6 ek (a6 gIdx (a4 6) (mC (.int 0))) (mTup (a5 (mC (.str bE)) (a5 (mC (.str be)) mNil)))))
  (av (mTup (a5 (mIf (a9 (a6 bB (a6 gIdx (a4 6) (mC (.int 0))) (mC (.str bE)))) (a6 gIdx (a4 6) (mC (.int 1))) (a6 gIdx (a4 2) (mC (.int 0)))) (a5 (a4 5) mNil))))
  mSkip)
  (ag (mSet 7 (mCall dm (a5 (a4 6) (a5 (a4 4) mNil))))
  (ag (mIte (a9 (a6 ek (a6 gIdx (a4 6) (mC (.int 0))) (mTup (a5 (mC (.str fR)) (a5 (mC (.str dw)) mNil)))))
  (ag (mSet 8 (mCall mE (a5 (a6 gIdx (a4 6) (mC (.int 1))) (a5 (a6 gIdx (a4 2) (mC (.int 0))) (a5 (mIf (a9 (a6 bB (a6 gIdx (a4 6) (mC (.int 0))) (mC (.str fR)))) (a6 gIdx (a4 6) (mC (.int 2))) (a6 gIdx (a4 2) (mC (.int 1)))) mNil)))))
  (mSet 7 (mLst (a5 (a6 gIdx (a4 7) (mCallB kc (a5 (mNotV (a4 8)) mNil))) mNil))))
  mSkip)
  (ag (mIte (a9 (a6 bB (a6 gIdx (a4 6) (mC (.int 0))) (mC (.str ba))))
  (mPut (a4 3) (a6 gIdx (a4 6) (mC (.int 1))) (a6 gIdx (a4 2) (mC (.int 0))))
  mSkip)
  (ag (mSet 2 (mCall lB (a5 (a4 6) (a5 (a4 2) (a5 (a4 1) mNil)))))
  (ag (mIte (a9 (a6 bB (a6 gIdx (a4 6) (mC (.int 0))) (mC (.str bf))))
  (mSet 2 (mTup (a5 (a6 gDGet (a4 3) (a6 gIdx (a4 6) (mC (.int 1)))) (a5 (a6 gIdx (a4 2) (mC (.int 1))) mNil))))
  mSkip)
  (ag (mIte (a9 (mIsN (a6 gIdx (a4 2) (mC (.int 0)))))
  (av (mTup (a5 (mC (.int 0)) (a5 (a4 5) mNil))))
  mSkip)
  (mSet 4 (a6 gIdx (a4 7) (mC (.int 0)))))))))))))
abbrev Tj:bD:=(ag (mSet 2 (mTup (a5 (mC (.int 0)) (a5 (mC (.int 0)) mNil))))
  (ag (mSet 3 mDic0)
  (ag (mSet 4 (mC (.int 0)))
  (ag (mFor (gN 5) (mRange2 (a5 (mC (.int 1)) (a5 (a6 bi (mCallB bM (a5 (a4 0) mNil)) (mC (.int 2))) mNil))) kC)
  (av (mTup (a5 (mC (.str Bt)) (a5 (mNeg (mC (.int 1))) mNil))))))))
def CO:Fn:=fnOf 7 Tj
abbrev pq:bD:=(mIte (a9 (a6 bB (a6 bL (mCall di (a5 (a4 0) (a5 (a6 bi (mC (.int 40)) (a4 2)) mNil))) (mC (.int 3))) (mC (.int 0))))
  (mStore (a4 1) (a4 2) (mTup (a5 (mC (.str bA)) (a5 (a6 bL (mCall di (a5 (a4 0) (a5 (a6 bi (mC (.int 30)) (a4 2)) mNil))) (mCallB B4 (a5 (mC (.int 3)) (a5 (a6 dn (a6 dn (mCallB bM (a5 (a4 1) mNil)) (a4 2)) (mC (.int 1))) mNil)))) mNil))))
  mSkip)
abbrev pj:bD:=(ag (mSet 6 (mCall mB (a5 (a4 0) (a5 (a6 bi (mC (.int 20)) (a6 eM (mC (.int 11)) (a4 2))) mNil))))
  (mIte (a9 (a6 kQ (mCall pC (a5 (a4 4) (a5 (a4 6) mNil))) (a6 gIdx (mCall CO (a5 (a4 1) (a5 (a4 6) mNil))) (mC (.int 0)))))
  (av (mC (.bl false)))
  mSkip))
abbrev To:bD:=(ag (mSet 1 (mCall rW (a5 (a4 0) (a5 (mC (.int 0)) (a5 (a6 bL (mCall di (a5 (a4 0) (a5 (mC (.int 60)) mNil))) (mC (.int 13))) mNil)))))
  (ag (mIte (a9 (a6 bB (a6 bL (mCall di (a5 (a4 0) (a5 (mC (.int 61)) mNil))) (mC (.int 2))) (mC (.int 0))))
  (mFor (gN 2) (mRange1 (a6 dn (mCallB bM (a5 (a4 1) mNil)) (mC (.int 1)))) pq)
  mSkip)
  (ag (mFrz 1 (mSet 3 (mCallB vO (a5 (a4 1) mNil))))
  (ag (mSet 4 (mCall ke (a5 (a4 3) mNil)))
  (ag (mSet 5 (mCall gm (a5 (a4 1) mNil)))
  (ag (mIte (a9 (a6 t7 (a4 5) (mC (.int 0))))
  (av (a6 bB (a4 4) (mTup (a5 (mC (.str wX)) (a5 (a4 5) mNil)))))
  mSkip)
  (ag (mIte (mOr (mNot (mTru (mIsI .list (a4 4)))) (mOr (a9 (a6 kQ (a4 3) (a4 1))) (mOr (a9 (a6 yP (mCallB bM (a5 (a4 4) mNil)) (mCallB bM (a5 (a4 1) mNil)))) (mNot (mTru (mCall d9 (a5 (a4 4) mNil)))))))
  (av (mC (.bl false)))
  mSkip)
  (ag (mIte (a9 (a6 t7 (mCall gm (a5 (a4 4) mNil)) (mC (.int 0))))
  (av (mC (.bl false)))
  mSkip)
  (ag (mFor (gN 2) (mRange1 (mC (.int 3))) pj)
  (av (mC (.bl true))))))))))))
def CP:Fn:=fnOf 6 To
structure Tx (w:World) (K:Zl) (mg:Zn):Prop where
 hJ:mg "range"=none
 qP:mg "len"=none
 ye:mg "max"=none
 yd:mg "min"=none
 nz:mg "list"=none
 fN:mg "enumerate"=none
 bK:mg "isinstance"=none
 ky:mg "tuple"=none
 yc:mg "str"=none
 tP:mg "zip"=none
 tQ:mg "int"=none
 qR:mg "bool"=none
 tR:mg "all"=none
 yf:mg "any"=none
 qQ:mg "dict"=none
 yb:mg "sum"=none
 c_MOST_STEPS:cI K mg "MOST_STEPS" c_MOST_STEPS
 c_SLOTS:cI K mg "SLOTS" c_SLOTS
 Dg:wT w K mg "PARTS" rm sA
 c_ROUND:cI K mg "ROUND" c_ROUND
 c_SIZES:cI K mg "SIZES" c_SIZES
 c_FARTHEST:cI K mg "FARTHEST" c_FARTHEST
 c_BASES:cI K mg "BASES" c_BASES
 c_OPS:cI K mg "OPS" c_OPS
 c_TESTS:cI K mg "TESTS" c_TESTS
 c_DIVIDING:cI K mg "DIVIDING" c_DIVIDING
 c_SHIFTING:cI K mg "SHIFTING" c_SHIFTING
 c_WIDTH:cI K mg "WIDTH" c_WIDTH
 c_LEADING:cI K mg "LEADING" c_LEADING
 c_TELLING:cI K mg "TELLING" c_TELLING
 vi:K0 K mg "SieveError"
 AX:K0 K mg "NotLetIn"
 R0:K0 K mg "Machine"
 zI:V3 K mg "NotLetIn" "at" "NotLetIn.__init__" "self" "at" fK
 uJ:UV K (cA K "SieveError")
 vH:NX K mg "SieveError"
 bC:PySem.W.subIn K (.ref (cA K "NotLetIn")) (.ref (cA K "SieveError"))=some true
 rQ:Bo K (cA K "NotLetIn")
 bJ:PySem.W.findIn K (.ref (cA K "NotLetIn")) "at"=some none
 bZ:PySem.W.kitOne K (.ref (cA K "NotLetIn")) (.ref (cA K "NotLetIn"))=some true
 c9:K4 K (cA K "Machine")
 cy:fg K (cA K "Machine") "hand"
 cf:fg K (cA K "Machine") "other"
 cb:fg K (cA K "Machine") "slots"
 bF:fg K (cA K "Machine") "place"
 cz:fg K (cA K "Machine") "done"
 cx:fg K (cA K "Machine") "told"
 kR:Vh K mg "Machine" "Machine.__init__" aY ["self"]
 wx:aR K mg "_law_cell" GI ["_law_script","_law_k_here"]
 Dc:aR K mg "_law_mix" N7 ["_law_script","_law_k_here"]
 d_k:aR K mg "_law_k" V7 ["_law_number"]
 Mm:aR K mg "_law_op" RP ["_law_number"]
 wu:aR K mg "_law_step" GD ["_law_script","_law_base","_law_left"]
 ww:aR K mg "_law_code" Ar ["_law_script","_law_base","_law_many"]
 gr:aR K mg "no_slots" lX []
 gw:aR K mg "is_whole" lY ["thing"]
 fF:aR K mg "is_number" kY ["thing"]
 i6:aR K mg "is_part" ow ["kind","part"]
 cW:aR K mg "can_be_done_by" gH ["op","k"]
 i5:aR K mg "is_step" jE ["thing"]
 cV:aR K mg "lacks_its_slot" gG ["step","slots"]
 fe:aR K mg "goals_from" jG ["place","step"]
 i7:aR K mg "hand_on" jF ["kept","goals","slots"]
 eE:aR K mg "kept_behind" fS ["step","slots"]
 cw:aR K mg "first_wrong_place" db ["code"]
 mQ:aR K mg "look" eV ["code"]
 fE:aR K mg "led_goals" ii ["code","ends","place"]
 i9:aR K mg "ends_of" oz ["code"]
 fc:aR K mg "own_places" gF ["ends","count"]
 mR:aR K mg "lead" xz ["led_to","goals"]
 dS:aR K mg "bridge_goals" iE ["code","end"]
 eD:aR K mg "places_left" ji ["code","ends"]
 gu:aR K mg "new_step" iW ["code","ends","place","new_places"]
 j9:aR K mg "shrunk" cm ["code"]
 mO:aR K mg "_law_shrunk" qu ["_law_code_here"]
 pV:aR K mg "_law_goals" BJ ["_law_step_here","_law_at"]
 pS:aR K mg "_law_there" BF ["_law_code_here"]
 pR:aR K mg "_law_unset" BE ["_law_code_here","_law_slot"]
 pW:aR K mg "_law_fault" uN ["_law_code_here"]
 fG:aR K mg "is_let_in" kZ ["code"]
 mP:aR K mg "_law_packet" qw ["_law_script","_law_base"]
 gq:aR K mg "put_away" lW ["machine","step"]
 dR:aR K mg "take_in_hand" iD ["machine","value"]
 ja:aR K mg "loaded" qx ["packet","size","start"]
 i4:aR K mg "shifted" ou ["op","one","often"]
 cF:aR K mg "plainly_reckoned" fM ["op","one","other"]
 gp:aR K mg "reckoned" lU ["op","one","other"]
 i8:aR K mg "fetched" oy ["machine","slot"]
 gn:aR K mg "value_of" lT ["machine","step","packet"]
 kK:aR K mg "holds" tD ["test","one","other"]
 gx:aR K mg "distance" lZ ["machine","step"]
 ia:aR K mg "do_step" oA ["machine","step","packet"]
 kM:aR K mg "ended" tE ["code","packet"]
 pT:aR K mg "run" BG ["code","packet"]
 j8:aR K mg "_law_reckoned" qv ["_law_op_here","_law_one","_law_other"]
 pU:aR K mg "_law_holds" BI ["_law_test","_law_one","_law_other"]
 pX:aR K mg "_law_bytes" uO ["_law_packet_here","_law_at","_law_size"]
 wv:aR K mg "_law_done" GG ["_law_step_here","_law_state","_law_packet_here"]
 Db:aR K mg "_law_run" N6 ["_law_code_here","_law_packet_here"]
 Dd:aR K mg "law" BH ["_law_script"]
section
variable {P:Program}{w:World}{K:Zl}{mg:Zn}{base:Heap}
theorem xB (T:Tx w K mg):Tt P w K mg base "NotLetIn" "at" 1:=by
 obtain⟨fi,fd,h1,c,F,hb⟩:=T.zI;exact⟨fi,fd,_,_,h1,c,hb,M0 F ⟨rfl,rfl,rfl,by decide +kernel,rfl,by decide +kernel,by decide +kernel⟩ c T.uJ T.vi (by decide +kernel) rfl (by decide +kernel) (.inl (by decide +kernel)) (.inl (by decide +kernel)) (fun _=>⟨_,rfl⟩) (fun _=>rfl) (fun _=>rfl)⟩
abbrev Kk1 {X EX e} m:=ME X EX e m
abbrev Kk2 {X EX e m} f:=ME X EX e (mCall f m)
abbrev Kk3 {X EX e} m:=MS X EX e m
abbrev Kk4 {X EX e} m:=MT X EX e m
local macro_rules | `(tactic| walk_at "g")=> `(tactic| first|exact Ct.g ‹_› 0 rfl|exact Ct.g ‹_› 1 rfl|exact Ct.g ‹_› 2 rfl|exact Ct.g ‹_› 3 rfl|exact Ct.g ‹_› 4 rfl|exact Ct.g ‹_› 5 rfl|exact Ct.g ‹_› 6 rfl|exact Ct.g ‹_› 7 rfl|exact Ct.g ‹_› 8 rfl|exact Ct.g ‹_› 9 rfl|exact Ct.g ‹_› 10 rfl|exact Ct.g ‹_› 11 rfl|exact Ct.g ‹_› 12 rfl|exact Ct.g ‹_› 13 rfl)
local macro_rules | `(tactic| walk_at "e")=> `(tactic| first
 |((with_reducible show Kk1 (a4 _));exact sv ‹_› _ rfl)
 |((with_reducible show MA _ _ _ (a5 _ _));(refine aS ?_ ?_ rfl<;>walk_at "e"))
 |((with_reducible show Kk1 (mC _));first|((with_reducible show Kk1 (mC (.int _)));exact fq)|((with_reducible show Kk1 (mC (.str _)));exact AS (by decide +kernel))|((with_reducible show Kk1 (mC (.bl _)));exact Sx)|((with_reducible show Kk1 (mC .non));exact Q1)|(exact cK (Tx.c_LEADING ‹_›) (by walk_at "g"))|(exact cK (Tx.c_TELLING ‹_›) (by walk_at "g"))|(exact cK (Tx.c_SLOTS ‹_›) (by walk_at "g"))|(exact cK (Tx.c_ROUND ‹_›) (by walk_at "g"))|(exact cK (Tx.c_DIVIDING ‹_›) (by walk_at "g"))|(exact cK (Tx.c_WIDTH ‹_›) (by walk_at "g"))|(exact cK (Tx.c_SIZES ‹_›) (by walk_at "g"))|(exact cK (Tx.c_FARTHEST ‹_›) (by walk_at "g"))|(exact cK (Tx.c_BASES ‹_›) (by walk_at "g"))|(exact cK (Tx.c_OPS ‹_›) (by walk_at "g"))|(exact cK (Tx.c_TESTS ‹_›) (by walk_at "g"))|(exact cK (Tx.c_SHIFTING ‹_›) (by walk_at "g"))|(exact cK (Tx.c_MOST_STEPS ‹_›) (by walk_at "g")))
 |((with_reducible show MA _ _ _ mNil);exact f7)
 |((with_reducible show Kk1 (a6 _ _ _));first|((with_reducible show Kk1 (a6 gIdx _ _));(refine vh ?_ ?_ (fun _ _=>rfl)<;>walk_at "e"))|((with_reducible show Kk1 (a6 bi _ _));(refine bX ll ?_ ?_<;>walk_at "e"))|((with_reducible show Kk1 (a6 bL _ _));(refine bX AA ?_ ?_<;>walk_at "e"))|((with_reducible show Kk1 (a6 dq _ _));(refine bX Hy ?_ ?_<;>walk_at "e"))|((with_reducible show Kk1 (a6 eM _ _));(refine bX Az ?_ ?_<;>walk_at "e"))|((with_reducible show Kk1 (a6 gDGet _ _));(refine p9 (Ct.un ‹_›) ?_ ?_ (fun _ _=>rfl)<;>walk_at "e"))|((with_reducible show Kk1 (a6 dn _ _));(refine bX qJ ?_ ?_<;>walk_at "e"))|((with_reducible show Kk1 (a6 bB _ _));(refine j2 (Ca (Ct.un ‹_›)) ?_ ?_ (eY _)<;>walk_at "e"))|((with_reducible show Kk1 (a6 kQ _ _));(refine j2 (Nh (Ct.un ‹_›)) ?_ ?_ (eY _)<;>walk_at "e"))|((with_reducible show Kk1 (a6 ek _ _));(refine j2 (Ni (Ct.un ‹_›)) ?_ ?_ rfl<;>walk_at "e"))|((with_reducible show Kk1 (a6 yP _ _));(refine j2 Nj ?_ ?_ (eY _)<;>walk_at "e"))|((with_reducible show Kk1 (a6 EW _ _));(refine bX Lc ?_ ?_<;>walk_at "e"))|((with_reducible show Kk1 (a6 t7 _ _));(refine j2 Hx ?_ ?_ (eY _)<;>walk_at "e"))|((with_reducible show Kk1 (a6 t6 _ _));(refine j2 C9 ?_ ?_ (eY _)<;>walk_at "e"))|((with_reducible show Kk1 (a6 gDGet (mC (.dic _ _)) _));(refine Io (Tx.Dg ‹_›) (by walk_at "g") ?_ (fun _ _=>rfl);walk_at "e"))|((with_reducible show Kk1 (a6 Ja _ _));(refine bX PD ?_ ?_<;>walk_at "e"))|((with_reducible show Kk1 (a6 J9 _ _));(refine bX PB ?_ ?_<;>walk_at "e"))|((with_reducible show Kk1 (a6 M9 _ _));(refine bX PF ?_ ?_<;>walk_at "e"))|((with_reducible show Kk1 (a6 M8 _ _));(refine bX Lb ?_ ?_<;>walk_at "e")))
 |((with_reducible show MSs _ _ _ (ag _ _));(refine aE ?_ ?_<;>walk_at "e"))
 |((with_reducible show Kk3 (av _));(refine jP ?_;walk_at "e"))
 |((with_reducible show Kk3 (mIte _ _ _));(refine tU ?_ ?_ ?_<;>walk_at "e"))
 |((with_reducible show MSs _ _ _ mSkip);exact Lr)
 |((with_reducible show Kk3 (mSet _ _));(refine sa ‹_› _ rfl ?_;walk_at "e"))
 |((with_reducible show Kk4 (a9 _));first|((with_reducible show Kk4 (a9 (a6 bB _ _)));(refine jO (Ca (Ct.un ‹_›)) ?_ ?_ (eY _)<;>walk_at "e"))|((with_reducible show Kk4 (a9 (a6 ek _ _)));(refine jO (Ni (Ct.un ‹_›)) ?_ ?_ rfl<;>walk_at "e"))|((with_reducible show Kk4 (a9 (a6 t6 _ _)));(refine jO C9 ?_ ?_ (eY _)<;>walk_at "e"))|((with_reducible show Kk4 (a9 (a6 kQ _ _)));(refine jO (Nh (Ct.un ‹_›)) ?_ ?_ (eY _)<;>walk_at "e"))|((with_reducible show Kk4 (a9 (a6 t7 _ _)));(refine jO Hx ?_ ?_ (eY _)<;>walk_at "e"))|((with_reducible show Kk4 (a9 (a6 yP _ _)));(refine jO Nj ?_ ?_ (eY _)<;>walk_at "e"))|((with_reducible show Kk4 (a9 (a6 fy _ _)));(refine jO (Hw (Ct.un ‹_›)) ?_ ?_ rfl<;>walk_at "e"))|((with_reducible show Kk4 (a9 (a6 (gi _) _ _)));(refine Ez (Ct.un ‹_›) ?_ ?_ rfl<;>walk_at "e"))|((with_reducible show Kk4 (a9 (mIsN _)));(refine PN ?_;walk_at "e"))|((with_reducible show Kk4 (a9 (a6 (gi _) _ _)));(refine PQ (Ct.un ‹_›) ?_ ?_ rfl<;>walk_at "e"))|((with_reducible show Kk4 (a9 (mNotN _)));(refine Lq ?_;walk_at "e"))|((with_reducible show Kk4 (a9 (a6 (gi _) _ (mC (.dic _ _)))));(refine AO (Tx.Dg ‹_›) (by walk_at "g") ?_;walk_at "e"))|((with_reducible show Kk4 (a9 (mChain _ _ _ _ _)));(refine HW xS xS ?_ ?_ ?_ rfl<;>walk_at "e")))
 |((with_reducible show Kk1 (mTup _));(refine vg ?_;walk_at "e"))
 |((with_reducible show Kk1 (mLst _));(refine Ij ?_;walk_at "e"))
 |((with_reducible show Kk1 (mCallB _ _));first|((with_reducible show Kk1 (mCallB bM _));(refine f6 Bd (by walk_at "g") (Tx.qP ‹_›) PySem.boot_len ?_;walk_at "e"))|((with_reducible show Kk1 (mCallB t5 _));(refine f6 (QF (Ct.calm ‹_›)) (by walk_at "g") (Tx.ye ‹_›) PyProof.Rows.boot_max ?_;walk_at "e"))|((with_reducible show Kk1 (mCallB kc _));(refine kA QG (by walk_at "g") (Tx.tQ ‹_›) Zi ?_;walk_at "e"))|((with_reducible show Kk1 (mCallB B4 _));(refine f6 (QE (Ct.calm ‹_›)) (by walk_at "g") (Tx.yd ‹_›) PyProof.Rows.boot_min ?_;walk_at "e"))|((with_reducible show Kk1 (mCallB vO _));(refine kA Mq (by walk_at "g") (Tx.nz ‹_›) M.uz ?_;walk_at "e")))
 |((with_reducible show Kk1 (mIf _ _ _));(refine Nn ?_ ?_ ?_<;>walk_at "e"))
 |((with_reducible show MTg _ _ (gN _));exact st ‹_› _ rfl)
 |((with_reducible show Kk4 (mTru _));(refine jN ?_ (fun _=>rfl);walk_at "e"))
 |((with_reducible show Kk3 (mFor _ _ _));(refine vf XU (Ct.calm ‹_›) ?_ ?_ ?_<;>walk_at "e"))
 |((with_reducible show Kk1 (mNeg _));(refine Q2 ?_;walk_at "e"))
 |((with_reducible show MI _ _ _ _ (mOverL _));(refine LA ?_;walk_at "e"))
 |((with_reducible show Kk3 (mDrop _));(refine Ci ?_;walk_at "e"))
 |((with_reducible show MI _ _ _ _ (mRange1 _));(refine tV (by walk_at "g") (Tx.hJ ‹_›) ?_;walk_at "e"))
 |((with_reducible show Kk1 (mAndV _ _));(refine Iu ?_ ?_<;>walk_at "e"))
 |((with_reducible show Kk4 (mNot _));(refine AN ?_;walk_at "e"))
 |((with_reducible show MT _ _ _ _);(refine(HV ?_ ?_).t<;>walk_at "e"))
 |((with_reducible show Kk1 (mAttr _ _ _));first|((refine mj (eX (by simp only[W2,VR,We,Wn,WI];exact⟨(Tx.c9 ‹_›),(Tx.cy ‹_›)⟩)) ?_;walk_at "e"))|((refine mj (eX (by simp only[W2,VR,We,Wn,WI];exact⟨(Tx.c9 ‹_›),(Tx.cf ‹_›)⟩)) ?_;walk_at "e"))|((refine mj (eX (by simp only[W2,VR,We,Wn,WI];exact⟨(Tx.c9 ‹_›),(Tx.cb ‹_›)⟩)) ?_;walk_at "e"))|((refine mj (eX (by simp only[W2,VR,We,Wn,WI];exact⟨(Tx.c9 ‹_›),(Tx.cx ‹_›)⟩)) ?_;walk_at "e"))|((refine mj (eX (by simp only[W2,VR,We,Wn,WI];exact⟨(Tx.c9 ‹_›),(Tx.bF ‹_›)⟩)) ?_;walk_at "e")))
 |((with_reducible show MT _ _ _ _);(refine(Nl ?_ ?_).t<;>walk_at "e"))
 |((with_reducible show MPs _ _ _ _ _ _ mNil);exact Lw)
 |((with_reducible show MPt _ _ _ (mPart _));(refine Lx ?_;walk_at "e"))
 |((with_reducible show Kk1 mDic0);exact LJ)
 |((with_reducible show Kk3 (mPut _ _ _));(refine Ia (Ct.un ‹_›) ?_ ?_ ?_<;>walk_at "e"))
 |((with_reducible show Kk1 (mAppend _ _));(refine EE ?_ (aS ?_ f7 rfl) (fun _ _=>rfl)<;>walk_at "e"))
 |((with_reducible show Kk3 (mSetA _ _ _ _));first|((refine kz (eX (by simp only[W2,VR,We,Wn,WI];exact⟨(Tx.c9 ‹_›),(Tx.cx ‹_›)⟩)) ?_ ?_<;>walk_at "e"))|((refine kz (eX (by simp only[W2,VR,We,Wn,WI];exact⟨(Tx.c9 ‹_›),(Tx.cf ‹_›)⟩)) ?_ ?_<;>walk_at "e"))|((refine kz (eX (by simp only[W2,VR,We,Wn,WI];exact⟨(Tx.c9 ‹_›),(Tx.cy ‹_›)⟩)) ?_ ?_<;>walk_at "e"))|((refine kz (eX (by simp only[W2,VR,We,Wn,WI];exact⟨(Tx.c9 ‹_›),(Tx.cb ‹_›)⟩)) ?_ ?_<;>walk_at "e"))|((refine kz (eX (by simp only[W2,VR,We,Wn,WI];exact⟨(Tx.c9 ‹_›),(Tx.bF ‹_›)⟩)) ?_ ?_<;>walk_at "e"))|((refine kz (eX (by simp only[W2,VR,We,Wn,WI];exact⟨(Tx.c9 ‹_›),(Tx.cz ‹_›)⟩)) ?_ ?_<;>walk_at "e")))
 |((with_reducible show Kk1 (mDic _ _));(refine Q6 ?_ (by decide) rfl rfl (by intro h;cases h) (by decide);walk_at "e"))
 |((with_reducible show Kk1 (mNotV _));(refine Q0 ?_;walk_at "e"))
 |((with_reducible show Kk1 (mSl _ _ _));(refine Ii ?_ ?_ ?_<;>walk_at "e"))
 |((with_reducible show MI _ _ _ _ (mEnum _));(refine LB (by walk_at "g") (Tx.fN ‹_›) ?_;walk_at "e"))
 |((with_reducible show Kk1 (mLstC _));(refine LH ?_;walk_at "e"))
 |((with_reducible show Kk1 (mChain _ _ _ _ _));first|((refine yj xS C9 ?_ ?_ ?_ rfl<;>walk_at "e"))|((refine yj xS xS ?_ ?_ ?_ rfl<;>walk_at "e")))
 |((with_reducible show MPt _ _ _ mNoP);exact Ly)
 |((with_reducible show Kk3 (mFrz _ _));first|((refine Ic 1 ?_;walk_at "e"))|((refine Ic 2 ?_;walk_at "e")))
 |((with_reducible show Kk3 mBad);exact PU)
 |((with_reducible show MW _ _ _ (mOr _ _));(refine Nl ?_ ?_<;>walk_at "e"))
 |((with_reducible show Kk1 (mCatC _ _));(refine LK ?_ ?_<;>walk_at "e"))
 |((with_reducible show Kk1 (mRep _ _));(refine PZ ?_ ?_<;>walk_at "e"))
 |((with_reducible show Kk1 (mIsI _ _));first|((refine qT .int Zi (by walk_at "g") (Tx.bK ‹_›) (by walk_at "g") (Tx.tQ ‹_›) ?_;walk_at "e"))|((refine qT .bool M.Fu (by walk_at "g") (Tx.bK ‹_›) (by walk_at "g") (Tx.qR ‹_›) ?_;walk_at "e"))|((refine qT .tuple M.sH (by walk_at "g") (Tx.bK ‹_›) (by walk_at "g") (Tx.ky ‹_›) ?_;walk_at "e"))|((refine qT .str M.JB (by walk_at "g") (Tx.bK ‹_›) (by walk_at "g") (Tx.yc ‹_›) ?_;walk_at "e"))|((refine qT .list M.uz (by walk_at "g") (Tx.bK ‹_›) (by walk_at "g") (Tx.nz ‹_›) ?_;walk_at "e")))
 |((with_reducible show MI _ _ _ _ (mZip _ _ _ _));first|((refine Ig true true (by walk_at "g") (Tx.tP ‹_›) ?_ ?_<;>walk_at "e"))|((refine Ig false false (by walk_at "g") (Tx.tP ‹_›) ?_ ?_<;>walk_at "e")))
 |((with_reducible show Kk1 (mOrV _ _));(refine Nm ?_ ?_<;>walk_at "e"))
 |((with_reducible show Kk1 (mDGet2 _ _ _));(refine Il (Ct.un ‹_›) ?_ ?_ ?_ ⟨rfl,rfl,rfl,rfl⟩<;>walk_at "e"))
 |((with_reducible show MPs _ _ _ _ _ _ (a5 _ _));first|((refine EB ?_ ?_<;>walk_at "e"))|((refine cZ FW ?_ ?_<;>walk_at "e"))|((refine cZ Kb ?_ ?_<;>walk_at "e"))|((refine cZ G0 ?_ ?_<;>walk_at "e"))|((refine cZ zK ?_ ?_<;>walk_at "e"))|((refine cZ zM ?_ ?_<;>walk_at "e"))|((refine cZ DG ?_ ?_<;>walk_at "e"))|((refine cZ zN ?_ ?_<;>walk_at "e"))|((refine cZ zP ?_ ?_<;>walk_at "e"))|((refine cZ zO ?_ ?_<;>walk_at "e"))|((refine cZ FX ?_ ?_<;>walk_at "e"))|((refine cZ FY ?_ ?_<;>walk_at "e"))|((refine cZ FZ ?_ ?_<;>walk_at "e")))
 |((with_reducible show Kk1 (mDicC _ _));(refine LI ?_ (by decide) rfl rfl (by intro h;cases h) (by decide);walk_at "e"))
 |((with_reducible show MTgs _ _ _ gsNil);exact mf)
 |((with_reducible show MTg _ _ (gTupT _));(refine qS (Ct.calm ‹_›) ?_;walk_at "e"))
 |((with_reducible show MI _ _ _ _ (mRange3 _));(refine LC (by walk_at "g") (Tx.hJ ‹_›) ?_;walk_at "e"))
 |((with_reducible show Kk1 (mNotN _));(refine LF ?_;walk_at "e"))
 |((with_reducible show Kk3 mCont);exact Lv)
 |((with_reducible show MW _ _ _ (mAnd _ _));(refine HV ?_ ?_<;>walk_at "e"))
 |((with_reducible show Kk1 (mIsN _));(refine Q4 ?_;walk_at "e"))
 |((with_reducible show Kk3 (mAugA _ _ _ _));first|((refine Cj (eX (by simp only[W2,VR,We,Wn,WI];exact⟨(Tx.c9 ‹_›),(Tx.cz ‹_›)⟩)) (by intro c c' h h';simp only[XY,List.contains_nil,Ym,Xz] at h h';rw[h,h']) ?_ ?_<;>walk_at "e"))|((refine Cj (eX (by simp only[W2,VR,We,Wn,WI];exact⟨(Tx.c9 ‹_›),(Tx.bF ‹_›)⟩)) (by intro c c' h h';simp only[XY,List.contains_nil,Ym,Xz] at h h';rw[h,h']) ?_ ?_<;>walk_at "e")))
 |((with_reducible show Kk3 (mWhile _ _ _));(refine HX 100 XU ?_ ?_<;>walk_at "e"))
 |((with_reducible show MI _ _ _ _ (mRange2 _));(refine EC (by walk_at "g") (Tx.hJ ‹_›) ?_;walk_at "e"))
 |((with_reducible show Kk3 (mStore _ _ _));(refine HZ ?_ ?_ ?_<;>walk_at "e"))
 |walk_at "c"
 |(refine df ?_;walk_at "e")
 |(refine AT ?_;walk_at "e")
 |(refine Lp ?_;walk_at "e")
 |(refine PM ?_;walk_at "e")
 | (refine eZ ?_ ?_<;>walk_at "e"))
theorem Ll (T:Tx w K mg):bS P w K mg base "_law_cell" 1 2 vR:=gj T.wx ["_law_script","_law_k_here"] ["len"] (by decide +kernel) rfl rfl (by intros;walk_at "e")
local macro_rules | `(tactic| walk_at "c")=> `(tactic| ((with_reducible show Kk2 vR);exact Kk5 (Ll ‹_›) ‹_›))
theorem HD (T:Tx w K mg):bS P w K mg base "_law_mix" 2 2 di:=gj T.Dc ["_law_script","_law_k_here","_law_number"] ["_law_cell"] (by decide +kernel) rfl rfl (by intros;walk_at "e")
local macro_rules | `(tactic| walk_at "c")=> `(tactic| ((with_reducible show Kk2 di);exact Kk5 (HD ‹_›) ‹_›))
theorem UH (T:Tx w K mg):bS P w K mg base "_law_k" 1 1 f_k:=gj T.d_k ["_law_number","_law_some"] [] (by decide +kernel) rfl rfl (by intros;walk_at "e")
local macro_rules | `(tactic| walk_at "c")=> `(tactic| ((with_reducible show Kk2 f_k);exact Kk5 (UH ‹_›) ‹_›))
theorem Sv (T:Tx w K mg):bS P w K mg base "_law_op" 1 1 Ji:=gj T.Mm ["_law_number"] [] (by decide +kernel) rfl rfl (by intros;walk_at "e")
local macro_rules | `(tactic| walk_at "c")=> `(tactic| ((with_reducible show Kk2 Ji);exact Kk5 (Sv ‹_›) ‹_›))
theorem Li (T:Tx w K mg):bS P w K mg base "_law_step" 3 3 vQ:=gj T.wu ["_law_script","_law_base","_law_left","_law_number","_law_k_here","_law_way","_law_small","_law_one","_law_other","_law_op_here","_law_test"] ["_law_mix","_law_k","max","_law_op"] (by decide +kernel) rfl rfl (by intros;walk_at "e")
theorem Lk (T:Tx w K mg):bS P w K mg base "_law_code" 4 3 rW:=gj T.ww ["_law_script","_law_base","_law_many","_law_found"] ["range","_law_mix"] (by decide +kernel) rfl rfl fun _ _ _ _ _ _ _ hr C=>(aE (Vt C 3 rfl (T:=["_law_k_here"]) (caps:=["_law_script","_law_base","_law_many"]) (ix:=[0,1,2]) (b9 (show gO _ (af Ar)=true by decide +kernel)) (dU C.hN (by decide +kernel)) C.calm (tV (C.g 0 rfl) T.hJ (sv C 2 rfl)) (fun C2 s2 H2 ex2=>have B:kr _ ["_law_k_here"] ["_law_script","_law_base","_law_many"] ["_law_step"]=true:=(by decide +kernel);have C:=iT (C:=C2) (s:=s2) (H:=H2) (ex:=ex2) C.calm C.un (by decide +kernel) B;And.intro (stb C 0 rfl (cG B (j:=0) rfl)) (And.intro d6 (b4 (Li T) (hr.mono (by decide)) (C.g 0 rfl) (aS (svb C 1 rfl) (aS (bX ll (svb C 2 rfl) (bX Az fq (svb C 0 rfl))) (aS (bX qJ (svb C 3 rfl) (svb C 0 rfl)) f7 rfl) rfl) rfl) rfl)))) (by walk_at "e"))
local macro_rules | `(tactic| walk_at "c")=> `(tactic| ((with_reducible show Kk2 rW);exact Kk5 (Lk ‹_›) ‹_›))
theorem sW (T:Tx w K mg):bS P w K mg base "no_slots" 1 0 j6:=gj T.gr [] ["SLOTS"] (by decide +kernel) rfl rfl (by intros;walk_at "e")
local macro_rules | `(tactic| walk_at "c")=> `(tactic| ((with_reducible show ME _ _ _ (mCall j6 mNil));exact Q5 (sW ‹_›) (aQ.mono ‹_› (by decide)) (by walk_at "g")))
theorem sY (T:Tx w K mg):bS P w K mg base "is_whole" 1 1 dQ:=gj T.gw ["thing"] ["isinstance","int","bool"] (by decide +kernel) rfl rfl (by intros;walk_at "e")
local macro_rules | `(tactic| walk_at "c")=> `(tactic| ((with_reducible show Kk2 dQ);exact Kk5 (sY ‹_›) ‹_›))
theorem qL (T:Tx w K mg):bS P w K mg base "is_number" 2 1 iu:=gj T.fF ["thing"] ["is_whole","ROUND"] (by decide +kernel) rfl rfl (by intros;walk_at "e")
local macro_rules | `(tactic| walk_at "c")=> `(tactic| ((with_reducible show Kk2 iu);exact Kk5 (qL ‹_›) ‹_›))
theorem v5 (T:Tx w K mg):bS P w K mg base "is_part" 3 2 dF:=gj T.i6 ["kind","part"] ["is_number","is_whole","SIZES","SLOTS","FARTHEST","BASES","OPS","TESTS"] (by decide +kernel) rfl rfl (by intros;walk_at "e")
theorem kO (T:Tx w K mg):bS P w K mg base "can_be_done_by" 1 2 bH:=gj T.cW ["op","k"] ["DIVIDING","SHIFTING","WIDTH"] (by decide +kernel) rfl rfl (by intros;walk_at "e")
local macro_rules | `(tactic| walk_at "c")=> `(tactic| ((with_reducible show Kk2 bH);exact Kk5 (kO ‹_›) ‹_›))
theorem uZ (T:Tx w K mg):bS P w K mg base "is_step" 4 1 aK:=gj T.i5 ["thing","kinds"] ["isinstance","tuple","len","str","PARTS","zip","all","can_be_done_by"] (by decide +kernel) rfl rfl fun _ _ _ _ _ _ _ hr C=>(aE (by walk_at "e") (aE (by walk_at "e") (aE (by walk_at "e") (aE (by walk_at "e") (aE (tU (AN (jN (f6 (Jv C.calm) (C.g 6 rfl) T.tR Zj (aS (eB (T:=["kind","part"]) (caps:=[]) (ix:=[]) (b9 (show gO _ (af jE)=true by decide +kernel)) (dU C.hN (by decide +kernel)) C.calm (by walk_at "e") (fun C2 s2 H2 ex2=>have B:kr _ ["kind","part"] [] ["is_part"]=true:=(by decide +kernel);have C:=iT (C:=C2) (s:=s2) (H:=H2) (ex:=ex2) C.calm C.un (by decide +kernel) B;And.intro (qS C.calm (eZ (stb C 0 rfl (cG B (j:=0) rfl)) (eZ (stb C 1 rfl (cG B (j:=1) rfl)) mf))) (And.intro d6 (b4 (v5 T) (hr.mono (by decide)) (C.g 0 rfl) (aS (svb C 0 rfl) (aS (svb C 1 rfl) f7 rfl) rfl) rfl)))) (by walk_at "e") rfl)) (fun _=>rfl))) (by walk_at "e") (by walk_at "e")) (by walk_at "e"))))))
local macro_rules | `(tactic| walk_at "c")=> `(tactic| ((with_reducible show Kk2 aK);exact Kk5 (uZ ‹_›) ‹_›))
theorem kN (T:Tx w K mg):bS P w K mg base "lacks_its_slot" 1 2 cu:=gj T.cV ["step","slots"] [] (by decide +kernel) rfl rfl (by intros;walk_at "e")
local macro_rules | `(tactic| walk_at "c")=> `(tactic| ((with_reducible show Kk2 cu);exact Kk5 (kN ‹_›) ‹_›))
theorem oP (T:Tx w K mg):bS P w K mg base "goals_from" 1 2 bQ:=gj T.fe ["place","step","after"] [] (by decide +kernel) rfl rfl (by intros;walk_at "e")
local macro_rules | `(tactic| walk_at "c")=> `(tactic| ((with_reducible show Kk2 bQ);exact Kk5 (oP ‹_›) ‹_›))
theorem v7 (T:Tx w K mg):bS P w K mg base "hand_on" 1 3 fO:=gj T.i7 ["kept","goals","slots","goal","before"] ["zip"] (by decide +kernel) rfl rfl fun _ _ _ _ _ _ _ hr C=>(df (vf XU C.calm (by walk_at "e") (by walk_at "e") (aE (by walk_at "e") (df (Ia C.un (by walk_at "e") (by walk_at "e") (eB (T:=["one","other"]) (caps:=[]) (ix:=[]) (b9 (show gO _ (af jF)=true by decide +kernel)) (dU C.hN (by decide +kernel)) C.calm (by walk_at "e") (fun C2 s2 H2 ex2=>have B:kr _ ["one","other"] [] []=true:=(by decide +kernel);have C:=iT (C:=C2) (s:=s2) (H:=H2) (ex:=ex2) C.calm C.un (by decide +kernel) B;And.intro (qS C.calm (eZ (stb C 0 rfl (cG B (j:=0) rfl)) (eZ (stb C 1 rfl (cG B (j:=1) rfl)) mf))) (And.intro d6 (Iu (svb C 0 rfl) (AT (svb C 1 rfl)))))))))))
local macro_rules | `(tactic| walk_at "c")=> `(tactic| ((with_reducible show Kk2 fO);exact Kk5 (v7 ‹_›) ‹_›))
theorem nu (T:Tx w K mg):bS P w K mg base "kept_behind" 1 2 d7:=gj T.eE ["step","slots"] ["enumerate"] (by decide +kernel) rfl rfl fun _ _ _ _ _ _ _ hr C=>(aE (by walk_at "e") (df (jP (eB (T:=["slot","kept"]) (caps:=["step"]) (ix:=[0]) (b9 (show gO _ (af fS)=true by decide +kernel)) (dU C.hN (by decide +kernel)) C.calm (by walk_at "e") (fun C2 s2 H2 ex2=>have B:kr _ ["slot","kept"] ["step"] []=true:=(by decide +kernel);have C:=iT (C:=C2) (s:=s2) (H:=H2) (ex:=ex2) C.calm C.un (by decide +kernel) B;And.intro (qS C.calm (eZ (stb C 0 rfl (cG B (j:=0) rfl)) (eZ (stb C 1 rfl (cG B (j:=1) rfl)) mf))) (And.intro d6 (Nm (svb C 1 rfl) (AT (j2 (Ca C.un) (svb C 0 rfl) (vh (svb C 2 rfl) fq (fun _ _=>rfl)) (eY _))))))))))
local macro_rules | `(tactic| walk_at "c")=> `(tactic| ((with_reducible show Kk2 d7);exact Kk5 (nu ‹_›) ‹_›))
theorem iY (T:Tx w K mg):bS P w K mg base "first_wrong_place" 5 1 bn:=gj T.cw ["code","kept","place","step","goals"] ["len","MOST_STEPS","no_slots","enumerate","is_step","lacks_its_slot","goals_from","any","kept_behind","hand_on"] (by decide +kernel) rfl rfl fun _ _ _ _ _ _ _ hr C=>(aE (by walk_at "e") (aE (by walk_at "e") (aE (vf XU C.calm (by walk_at "e") (by walk_at "e") (aE (by walk_at "e") (aE (by walk_at "e") (aE (by walk_at "e") (aE (tU (jN (f6 (QH C.calm) (C.g 7 rfl) T.yf PyProof.Rows.boot_any (aS (eB (T:=["goal"]) (caps:=["code"]) (ix:=[0]) (b9 (show gO _ (af db)=true by decide +kernel)) (dU C.hN (by decide +kernel)) C.calm (by walk_at "e") (fun C2 s2 H2 ex2=>have B:kr _ ["goal"] ["code"] ["len"]=true:=(by decide +kernel);have C:=iT (C:=C2) (s:=s2) (H:=H2) (ex:=ex2) C.calm C.un (by decide +kernel) B;And.intro (stb C 0 rfl (cG B (j:=0) rfl)) (And.intro d6 (j2 Hx (svb C 0 rfl) (f6 Bd (C.g 0 rfl) T.qP PySem.boot_len (aS (svb C 1 rfl) f7 rfl)) (eY _))))) (by walk_at "e") rfl)) (fun _=>rfl)) (by walk_at "e") (by walk_at "e")) (by walk_at "e")))))) (by walk_at "e"))))
local macro_rules | `(tactic| walk_at "c")=> `(tactic| ((with_reducible show Kk2 bn);exact Kk5 (iY ‹_›) ‹_›))
theorem tz:cX ["code","place"] ["code"] (af eV):=⟨rfl,rfl,rfl,by decide +kernel,rfl,by decide +kernel,by decide +kernel⟩
theorem EI:IA (af eV) ["code","place"]=true:=by decide +kernel
theorem ET:Ra (af eV) ["first_wrong_place","NotLetIn"]=true:=by decide +kernel
theorem AB (T:Tx w K mg) {f:Addr}{fd:FuncData}(F:wS K "look" "look" eV f fd):ei P w K mg base (mY P w) 6 f fd ["code"] (N3 K xc 1 mD):=by
 refine yR F tz rfl rfl fun cdv A outer s H E hr=>?_
 have C0:=Js (CX:=mY P w) (P:=P) (w:=w) (K:=K) (mg:=mg) (base:=base) (outer:=outer) (H:=H) (E:=E) tz.nd (qX EI) (yL ET) hr;have C:=Jr (pn:=[]) (xe:=Rz (fP (mY P w) P w K mg base ["code","place"] "look" (af eV) f cdv A outer s H E) E) C0;have hx:=Hn (X:=(fP (mY P w) P w K mg base ["code","place"] "look" (af eV) f cdv A outer s H E)) (E:=E);have ho:=Hs (X:=(fP (mY P w) P w K mg base ["code","place"] "look" (af eV) f cdv A outer s H E)) (E:=E) rfl rfl;exact(aE (by walk_at "e") (df (tU (by walk_at "e") (df (PR (xB T) rfl (hr.mono (by decide)) (C0.g 1 rfl) (by walk_at "e"))) (by walk_at "e"))))
theorem Ei (T:Tx w K mg):Dt P w K mg base xc "look" 6 1 mD:=yS T.mQ rfl fun f fd F=>AB T F
theorem qK (T:Tx w K mg):bS P w K mg base "led_goals" 2 3 bN:=gj T.fE ["code","ends","place"] ["LEADING","goals_from"] (by decide +kernel) rfl rfl fun _ _ _ _ _ _ _ hr C=>(aE (by walk_at "e") (df (jP (eB (T:=["goal"]) (caps:=["ends"]) (ix:=[1]) (b9 (show gO _ (af ii)=true by decide +kernel)) (dU C.hN (by decide +kernel)) C.calm (by walk_at "e") (fun C2 s2 H2 ex2=>have B:kr _ ["goal"] ["ends"] []=true:=(by decide +kernel);have C:=iT (C:=C2) (s:=s2) (H:=H2) (ex:=ex2) C.calm C.un (by decide +kernel) B;And.intro (stb C 0 rfl (cG B (j:=0) rfl)) (And.intro d6 (p9 C.un (svb C 1 rfl) (svb C 0 rfl) (fun _ _=>rfl))))))))
local macro_rules | `(tactic| walk_at "c")=> `(tactic| ((with_reducible show Kk2 bN);exact Kk5 (qK ‹_›) ‹_›))
theorem v9 (T:Tx w K mg):bS P w K mg base "ends_of" 3 1 hW:=gj T.i9 ["code","ends","place","goals","only_leads_on"] ["len","range","led_goals"] (by decide +kernel) rfl rfl (by intros;walk_at "e")
local macro_rules | `(tactic| walk_at "c")=> `(tactic| ((with_reducible show Kk2 hW);exact Kk5 (v9 ‹_›) ‹_›))
theorem oO (T:Tx w K mg):bS P w K mg base "own_places" 1 2 dE:=gj T.fc ["ends","count"] ["range"] (by decide +kernel) rfl rfl fun _ _ _ _ _ _ _ hr C=>(df (jP (eB (T:=["place"]) (caps:=["ends"]) (ix:=[0]) (b9 (show gO _ (af gF)=true by decide +kernel)) (dU C.hN (by decide +kernel)) C.calm (by walk_at "e") (fun C2 s2 H2 ex2=>have B:kr _ ["place"] ["ends"] []=true:=(by decide +kernel);have C:=iT (C:=C2) (s:=s2) (H:=H2) (ex:=ex2) C.calm C.un (by decide +kernel) B;And.intro (stb C 0 rfl (cG B (j:=0) rfl)) (And.intro (Ie (jO (Ca C.un) (p9 C.un (svb C 1 rfl) (svb C 0 rfl) (fun _ _=>rfl)) (svb C 0 rfl) (eY _))) (svb C 0 rfl))))))
local macro_rules | `(tactic| walk_at "c")=> `(tactic| ((with_reducible show Kk2 dE);exact Kk5 (oO ‹_›) ‹_›))
theorem Ej (T:Tx w K mg):bS P w K mg base "lead" 1 2 gL:=gj T.mR ["led_to","goals","goal"] [] (by decide +kernel) rfl rfl (by intros;walk_at "e")
local macro_rules | `(tactic| walk_at "c")=> `(tactic| ((with_reducible show Kk2 gL);exact Kk5 (Ej ‹_›) ‹_›))
theorem m8 (T:Tx w K mg):bS P w K mg base "bridge_goals" 1 2 cM:=gj T.dS ["code","end"] ["TELLING"] (by decide +kernel) rfl rfl (by intros;walk_at "e")
local macro_rules | `(tactic| walk_at "c")=> `(tactic| ((with_reducible show Kk2 cM);exact Kk5 (m8 ‹_›) ‹_›))
theorem nn (T:Tx w K mg):bS P w K mg base "places_left" 3 2 eC:=gj T.eD ["code","ends","left","led_to","onward","place","goes_on_here"] ["len","own_places","bridge_goals","lead","led_goals","LEADING","TELLING"] (by decide +kernel) rfl rfl (by intros;walk_at "e")
local macro_rules | `(tactic| walk_at "c")=> `(tactic| ((with_reducible show Kk2 eC);exact Kk5 (nn ‹_›) ‹_›))
theorem sX (T:Tx w K mg):bS P w K mg base "new_step" 3 4 dL:=gj T.gu ["code","ends","place","new_places","step","end","after"] ["TELLING","LEADING","led_goals","tuple"] (by decide +kernel) rfl rfl fun _ _ _ _ _ _ _ hr C=>(aE (by walk_at "e") (aE (by walk_at "e") (aE (by walk_at "e") (aE (by walk_at "e") (aE (by walk_at "e") (aE (tU (by walk_at "e") (df (jP (bX ll (by walk_at "e") (kA QC (C.g 3 rfl) T.ky M.sH (aS (eB (T:=["goal"]) (caps:=["after","new_places"]) (ix:=[6,3]) (b9 (show gO _ (af iW)=true by decide +kernel)) (dU C.hN (by decide +kernel)) C.calm (by walk_at "e") (fun C2 s2 H2 ex2=>have B:kr _ ["goal"] ["after","new_places"] []=true:=(by decide +kernel);have C:=iT (C:=C2) (s:=s2) (H:=H2) (ex:=ex2) C.calm C.un (by decide +kernel) B;And.intro (stb C 0 rfl (cG B (j:=0) rfl)) (And.intro d6 (bX qJ (p9 C.un (svb C 2 rfl) (svb C 0 rfl) (fun _ _=>rfl)) (svb C 1 rfl))))) (by walk_at "e") rfl))))) (by walk_at "e")) (by walk_at "e")))))))
theorem oq:cX ["code","ends","left","new_places"] ["code"] (af cm):=⟨rfl,rfl,rfl,by decide +kernel,rfl,by decide +kernel,by decide +kernel⟩
theorem yo:IA (af cm) ["code","ends","left","new_places"]=true:=by decide +kernel
theorem yK:Ra (af cm) ["look","ends_of","places_left","enumerate","dict"]=true:=by decide +kernel
theorem uX (T:Tx w K mg) {f:Addr}{fd:FuncData}(F:wS K "shrunk" "shrunk" cm f fd):ei P w K mg base (mY P w) 7 f fd ["code"] (N3 K xc 1 eF):=by
 refine yR F oq rfl rfl fun cdv A outer s H E hr=>?_
 have C0:=Js (CX:=mY P w) (P:=P) (w:=w) (K:=K) (mg:=mg) (base:=base) (outer:=outer) (H:=H) (E:=E) oq.nd (qX yo) (yL yK) hr;have C:=Jr (pn:=[]) (xe:=Rz (fP (mY P w) P w K mg base ["code","ends","left","new_places"] "shrunk" (af cm) f cdv A outer s H E) E) C0;have hx:=Hn (X:=(fP (mY P w) P w K mg base ["code","ends","left","new_places"] "shrunk" (af cm) f cdv A outer s H E)) (E:=E);have ho:=Hs (X:=(fP (mY P w) P w K mg base ["code","ends","left","new_places"] "shrunk" (af cm) f cdv A outer s H E)) (E:=E) rfl rfl;exact(aE (Ci (Ik (Ei T) hx (hr.mono (by decide)) (C.g 0 rfl) (by walk_at "e") rfl)) (aE (by walk_at "e") (aE (by walk_at "e") (aE (sa C 3 rfl (kA (Mr C.calm) (C.g 4 rfl) T.qQ PyProof.Rows.boot_dict (aS (eB (T:=["new_place","place"]) (caps:=[]) (ix:=[]) (b9 (show gO _ (af cm)=true by decide +kernel)) (dU C.hN (by decide +kernel)) C.calm (by walk_at "e") (fun C2 s2 H2 ex2=>have B:kr _ ["new_place","place"] [] []=true:=(by decide +kernel);have C:=iT (C:=C2) (s:=s2) (H:=H2) (ex:=ex2) C.calm C.un (by decide +kernel) B;And.intro (qS C.calm (eZ (stb C 0 rfl (cG B (j:=0) rfl)) (eZ (stb C 1 rfl (cG B (j:=1) rfl)) mf))) (And.intro d6 (vg (aS (svb C 1 rfl) (aS (svb C 0 rfl) f7 rfl) rfl))))) (by walk_at "e") rfl))) (df (jP (eB (T:=["place"]) (caps:=["code","ends","new_places"]) (ix:=[0,1,3]) (b9 (show gO _ (af cm)=true by decide +kernel)) (dU C.hN (by decide +kernel)) C.calm (by walk_at "e") (fun C2 s2 H2 ex2=>have B:kr _ ["place"] ["code","ends","new_places"] ["new_step"]=true:=(by decide +kernel);have C:=iT (C:=C2) (s:=s2) (H:=H2) (ex:=ex2) C.calm C.un (by decide +kernel) B;And.intro (stb C 0 rfl (cG B (j:=0) rfl)) (And.intro d6 (b4 (sX T) (hr.mono (by decide)) (C.g 0 rfl) (aS (svb C 1 rfl) (aS (svb C 2 rfl) (aS (svb C 0 rfl) (aS (svb C 3 rfl) f7 rfl) rfl) rfl) rfl) rfl))))))))))
theorem xU (T:Tx w K mg):Dt P w K mg base xc "shrunk" 7 1 eF:=yS T.j9 rfl fun f fd F=>uX T F
theorem Eg (T:Tx w K mg):bS P w K mg base "_law_shrunk" 8 1 ke:=gj T.mO ["_law_code_here","_law_found","e"] ["SieveError","shrunk","isinstance","NotLetIn"] (by decide +kernel) rfl rfl fun _ _ _ _ _ _ _ hr C=>(aE (by walk_at "e") (aE (HY C T.vH (C.g 0 rfl) (show JP ["_law_code_here","_law_found","e"] (af qu)=true from(by decide +kernel)) rfl (ie:=2) rfl (by intro k hk;rcases(show k=0 by simpa using hk) with rfl<;>first|exact T.bC) (fun pn xe f E hx C=>(Ik (xU T) hx (hr.mono (by decide)) (C.g 1 rfl) (by walk_at "e") rfl)) (fun a pn C=>(df (Vs C 1 rfl (Nn (jN (Q3 (C.g 3 rfl) T.AX (Lm (by simp only[W2,VR,We,Wn,WI];exact⟨T.rQ,T.bZ⟩)) (C.g 2 rfl) T.bK (V6 C 2 rfl)) (fun _=>rfl)) (vg (aS (AS Kc) (aS (PY (eX (by simp only[W2,VR,We,Wn,WI];exact⟨T.rQ,T.bJ⟩)) (V6 C 2 rfl)) f7 rfl) rfl)) (vg (aS (AS zL) (aS fq f7 rfl) rfl))))))) (by walk_at "e")))
local macro_rules | `(tactic| walk_at "c")=> `(tactic| ((with_reducible show Kk2 ke);exact Kk5 (Eg ‹_›) ‹_›))
theorem HF (T:Tx w K mg):bS P w K mg base "_law_goals" 1 2 dm:=gj T.pV ["_law_step_here","_law_at"] [] (by decide +kernel) rfl rfl (by intros;walk_at "e")
local macro_rules | `(tactic| walk_at "c")=> `(tactic| ((with_reducible show Kk2 dm);exact Kk5 (HF ‹_›) ‹_›))
theorem HB (T:Tx w K mg):bS P w K mg base "_law_there" 2 1 pB:=gj T.pS ["_law_code_here","_law_found","_law_at","_law_goal"] ["len","range","_law_goals"] (by decide +kernel) rfl rfl (by intros;walk_at "e")
local macro_rules | `(tactic| walk_at "c")=> `(tactic| ((with_reducible show Kk2 pB);exact Kk5 (HB ‹_›) ‹_›))
theorem HA (T:Tx w K mg):bS P w K mg base "_law_unset" 2 2 mz:=gj T.pR ["_law_code_here","_law_slot","_law_found","_law_at","_law_goal"] ["len","range","_law_goals"] (by decide +kernel) rfl rfl (by intros;walk_at "e")
local macro_rules | `(tactic| walk_at "c")=> `(tactic| ((with_reducible show Kk2 mz);exact Kk5 (HA ‹_›) ‹_›))
theorem HG (T:Tx w K mg):bS P w K mg base "_law_fault" 3 1 gm:=gj T.pW ["_law_code_here","_law_there_here","_law_at"] ["_law_there","len","range","_law_unset","_law_goals","all"] (by decide +kernel) rfl rfl fun _ _ _ _ _ _ _ hr C=>(aE (by walk_at "e") (aE (vf XU C.calm (by walk_at "e") (by walk_at "e") (aE (by walk_at "e") (df (tU (AN (jN (f6 (Jv C.calm) (C.g 5 rfl) T.tR Zj (aS (eB (T:=["_law_goal"]) (caps:=["_law_code_here"]) (ix:=[0]) (b9 (show gO _ (af uN)=true by decide +kernel)) (dU C.hN (by decide +kernel)) C.calm (by walk_at "e") (fun C2 s2 H2 ex2=>have B:kr _ ["_law_goal"] ["_law_code_here"] ["len"]=true:=(by decide +kernel);have C:=iT (C:=C2) (s:=s2) (H:=H2) (ex:=ex2) C.calm C.un (by decide +kernel) B;And.intro (stb C 0 rfl (cG B (j:=0) rfl)) (And.intro d6 (j2 C9 (svb C 0 rfl) (f6 Bd (C.g 0 rfl) T.qP PySem.boot_len (aS (svb C 1 rfl) f7 rfl)) (eY _))))) (by walk_at "e") rfl)) (fun _=>rfl))) (by walk_at "e") (by walk_at "e"))))) (by walk_at "e")))
local macro_rules | `(tactic| walk_at "c")=> `(tactic| ((with_reducible show Kk2 gm);exact Kk5 (HG ‹_›) ‹_›))
theorem qM (T:Tx w K mg):bS P w K mg base "is_let_in" 6 1 d9:=gj T.fG ["code"] ["first_wrong_place"] (by decide +kernel) rfl rfl (by intros;walk_at "e")
local macro_rules | `(tactic| walk_at "c")=> `(tactic| ((with_reducible show Kk2 d9);exact Kk5 (qM ‹_›) ‹_›))
theorem Eh (T:Tx w K mg):bS P w K mg base "_law_packet" 3 2 mB:=gj T.mP ["_law_script","_law_base","_law_size"] ["_law_mix","range"] (by decide +kernel) rfl rfl fun _ _ _ _ _ _ _ hr C=>(aE (by walk_at "e") (df (jP (eB (T:=["_law_k_here"]) (caps:=["_law_script","_law_base"]) (ix:=[0,1]) (b9 (show gO _ (af qw)=true by decide +kernel)) (dU C.hN (by decide +kernel)) C.calm (by walk_at "e") (fun C2 s2 H2 ex2=>have B:kr _ ["_law_k_here"] ["_law_script","_law_base"] ["_law_mix"]=true:=(by decide +kernel);have C:=iT (C:=C2) (s:=s2) (H:=H2) (ex:=ex2) C.calm C.un (by decide +kernel) B;And.intro (stb C 0 rfl (cG B (j:=0) rfl)) (And.intro d6 (bX AA (bX Hy (b4 (HD T) (hr.mono (by decide)) (C.g 0 rfl) (aS (svb C 1 rfl) (aS (bX ll (bX ll (svb C 2 rfl) fq) (bX AA (svb C 0 rfl) fq)) f7 rfl) rfl) rfl) (bX ll fq (svb C 0 rfl))) fq)))))))
local macro_rules | `(tactic| walk_at "c")=> `(tactic| ((with_reducible show Kk2 mB);exact Kk5 (Eh ‹_›) ‹_›))
theorem fL:cX ["self"] ["self"] (af aY):=⟨rfl,rfl,rfl,by decide +kernel,rfl,by decide +kernel,by decide +kernel⟩
theorem jS:IA (af aY) ["self"]=true:=by decide +kernel
theorem k6:Ra (af aY) []=true:=by decide +kernel
theorem jK (T:Tx w K mg):QV P w K mg base "Machine" 1 0 c6:=by
 refine Lz T.kR rfl fun f fd F=>?_
 refine Jg F fL rfl rfl fun cdv A outer s H E hr=>?_
 have C:=Jt (CX:=mZ) (P:=P) (w:=w) (K:=K) (mg:=mg) (base:=base) (outer:=outer) (H:=H) (E:=E) fL.nd (qX jS) (yL k6) hr;exact(by walk_at "e")
local macro_rules | `(tactic| walk_at "c")=> `(tactic| ((with_reducible show ME _ _ _ (mNew _ _ mNil));exact LG (jK ‹_›) (aQ.mono ‹_› (by decide)) (by walk_at "g")))
theorem sV (T:Tx w K mg):bS P w K mg base "put_away" 1 2 gk:=gj T.gq ["machine","step"] [] (by decide +kernel) rfl rfl (by intros;walk_at "e")
local macro_rules | `(tactic| walk_at "c")=> `(tactic| ((with_reducible show Kk2 gk);exact Kk5 (sV ‹_›) ‹_›))
theorem m7 (T:Tx w K mg):bS P w K mg base "take_in_hand" 1 2 bG:=gj T.dR ["machine","value"] [] (by decide +kernel) rfl rfl (by intros;walk_at "e")
local macro_rules | `(tactic| walk_at "c")=> `(tactic| ((with_reducible show Kk2 bG);exact Kk5 (m7 ‹_›) ‹_›))
theorem xV (T:Tx w K mg):bS P w K mg base "loaded" 1 3 j7:=gj T.ja ["packet","size","start","number","byte"] ["len"] (by decide +kernel) rfl rfl (by intros;walk_at "e")
local macro_rules | `(tactic| walk_at "c")=> `(tactic| ((with_reducible show Kk2 j7);exact Kk5 (xV ‹_›) ‹_›))
theorem uY (T:Tx w K mg):bS P w K mg base "shifted" 1 3 dD:=gj T.i4 ["op","one","often","times"] ["WIDTH","max"] (by decide +kernel) rfl rfl (by intros;walk_at "e")
local macro_rules | `(tactic| walk_at "c")=> `(tactic| ((with_reducible show Kk2 dD);exact Kk5 (uY ‹_›) ‹_›))
theorem jr (T:Tx w K mg):bS P w K mg base "plainly_reckoned" 2 3 aB:=gj T.cF ["op","one","other"] ["shifted"] (by decide +kernel) rfl rfl (by intros;walk_at "e")
local macro_rules | `(tactic| walk_at "c")=> `(tactic| ((with_reducible show Kk2 aB);exact Kk5 (jr ‹_›) ‹_›))
theorem sU (T:Tx w K mg):bS P w K mg base "reckoned" 3 3 ay:=gj T.gp ["op","one","other"] ["DIVIDING","plainly_reckoned","ROUND"] (by decide +kernel) rfl rfl (by intros;walk_at "e")
local macro_rules | `(tactic| walk_at "c")=> `(tactic| ((with_reducible show Kk2 ay);exact Kk5 (sU ‹_›) ‹_›))
theorem v8 (T:Tx w K mg):bS P w K mg base "fetched" 1 2 hV:=gj T.i8 ["machine","slot"] [] (by decide +kernel) rfl rfl (by intros;walk_at "e")
local macro_rules | `(tactic| walk_at "c")=> `(tactic| ((with_reducible show Kk2 hV);exact Kk5 (v8 ‹_›) ‹_›))
theorem sT (T:Tx w K mg):bS P w K mg base "value_of" 4 3 dJ:=gj T.gn ["machine","step","packet","ahead"] ["loaded","len","reckoned","fetched"] (by decide +kernel) rfl rfl (by intros;walk_at "e")
local macro_rules | `(tactic| walk_at "c")=> `(tactic| ((with_reducible show Kk2 dJ);exact Kk5 (sT ‹_›) ‹_›))
theorem AC (T:Tx w K mg):bS P w K mg base "holds" 1 3 iK:=gj T.kK ["test","one","other"] [] (by decide +kernel) rfl rfl (by intros;walk_at "e")
local macro_rules | `(tactic| walk_at "c")=> `(tactic| ((with_reducible show Kk2 iK);exact Kk5 (AC ‹_›) ‹_›))
theorem sZ (T:Tx w K mg):bS P w K mg base "distance" 2 2 f9:=gj T.gx ["machine","step"] ["holds"] (by decide +kernel) rfl rfl (by intros;walk_at "e")
local macro_rules | `(tactic| walk_at "c")=> `(tactic| ((with_reducible show Kk2 f9);exact Kk5 (sZ ‹_›) ‹_›))
theorem va (T:Tx w K mg):bS P w K mg base "do_step" 5 3 cE:=gj T.ia ["machine","step","packet"] ["put_away","value_of","take_in_hand","distance"] (by decide +kernel) rfl rfl (by intros;walk_at "e")
local macro_rules | `(tactic| walk_at "c")=> `(tactic| ((with_reducible show Kk2 cE);exact Kk5 (va ‹_›) ‹_›))
theorem AD (T:Tx w K mg):bS P w K mg base "ended" 6 2 kE:=gj T.kM ["code","packet","machine"] ["Machine","len","do_step"] (by decide +kernel) rfl rfl (by intros;walk_at "e")
local macro_rules | `(tactic| walk_at "c")=> `(tactic| ((with_reducible show Kk2 kE);exact Kk5 (AD ‹_›) ‹_›))
theorem HC (T:Tx w K mg):bS P w K mg base "run" 7 2 pC:=gj T.pT ["code","packet"] ["ended"] (by decide +kernel) rfl rfl (by intros;walk_at "e")
local macro_rules | `(tactic| walk_at "c")=> `(tactic| ((with_reducible show Kk2 pC);exact Kk5 (HC ‹_›) ‹_›))
theorem xT (T:Tx w K mg):bS P w K mg base "_law_reckoned" 1 3 aJ:=gj T.j8 ["_law_op_here","_law_one","_law_other","_law_k_here","_law_found","_law_place","_law_two"] ["min","range","int"] (by decide +kernel) rfl rfl (by intros;walk_at "e")
local macro_rules | `(tactic| walk_at "c")=> `(tactic| ((with_reducible show Kk2 aJ);exact Kk5 (xT ‹_›) ‹_›))
theorem HE (T:Tx w K mg):bS P w K mg base "_law_holds" 2 3 mE:=gj T.pU ["_law_test","_law_one","_law_other"] ["_law_reckoned"] (by decide +kernel) rfl rfl (by intros;walk_at "e")
local macro_rules | `(tactic| walk_at "c")=> `(tactic| ((with_reducible show Kk2 mE);exact Kk5 (HE ‹_›) ‹_›))
theorem HH (T:Tx w K mg):bS P w K mg base "_law_bytes" 1 3 mF:=gj T.pX ["_law_packet_here","_law_at","_law_size"] ["len","range","sum"] (by decide +kernel) rfl rfl fun _ _ _ _ _ _ _ hr C=>(aE (by walk_at "e") (df (jP (f6 (QD C.calm) (C.g 2 rfl) T.yb PyProof.Rows.boot_sum (aS (eB (T:=["_law_k_here"]) (caps:=["_law_packet_here","_law_at","_law_size"]) (ix:=[0,1,2]) (b9 (show gO _ (af uO)=true by decide +kernel)) (dU C.hN (by decide +kernel)) C.calm (by walk_at "e") (fun C2 s2 H2 ex2=>have B:kr _ ["_law_k_here"] ["_law_packet_here","_law_at","_law_size"] []=true:=(by decide +kernel);have C:=iT (C:=C2) (s:=s2) (H:=H2) (ex:=ex2) C.calm C.un (by decide +kernel) B;And.intro (stb C 0 rfl (cG B (j:=0) rfl)) (And.intro d6 (bX Az (vh (svb C 1 rfl) (bX ll (svb C 2 rfl) (svb C 0 rfl)) (fun _ _=>rfl)) (vh (Ij (aS fq (aS fq (aS fq (aS fq f7 rfl) rfl) rfl) rfl)) (bX qJ (bX qJ (svb C 3 rfl) fq) (svb C 0 rfl)) (fun _ _=>rfl)))))) (by walk_at "e") rfl)))))
local macro_rules | `(tactic| walk_at "c")=> `(tactic| ((with_reducible show Kk2 mF);exact Kk5 (HH ‹_›) ‹_›))
theorem Lj (T:Tx w K mg):bS P w K mg base "_law_done" 2 3 lB:=gj T.wv ["_law_step_here","_law_state","_law_packet_here","_law_hand","_law_other"] ["int","_law_bytes","_law_reckoned","len"] (by decide +kernel) rfl rfl (by intros;walk_at "e")
local macro_rules | `(tactic| walk_at "c")=> `(tactic| ((with_reducible show Kk2 lB);exact Kk5 (Lj ‹_›) ‹_›))
theorem PH (T:Tx w K mg):bS P w K mg base "_law_run" 3 2 CO:=gj T.Db ["_law_code_here","_law_packet_here","_law_state","_law_slots","_law_at","_law_many","_law_step_here","_law_goals_here","_law_good"] ["len","range","_law_goals","_law_holds","int","_law_done"] (by decide +kernel) rfl rfl (by intros;walk_at "e")
local macro_rules | `(tactic| walk_at "c")=> `(tactic| ((with_reducible show Kk2 CO);exact Kk5 (PH ‹_›) ‹_›))
theorem GC:cX ["_law_script","_law_code_here","_law_k_here","_law_handed","_law_found","_law_due","_law_packet_here"] ["_law_script"] (af BH):=⟨rfl,rfl,rfl,by decide +kernel,rfl,by decide +kernel,by decide +kernel⟩
theorem Lh (T:Tx w K mg) {f:Addr}{fd:FuncData}(F:wS K "law" "law" BH f fd):ei P w K mg base mZ 9 f fd ["_law_script"] (Ag K 1 CP):=by
 refine CN F GC rfl rfl fun cdv A outer s H E hr=>?_
 have C:=Jt (CX:=mZ) (P:=P) (w:=w) (K:=K) (mg:=mg) (base:=base) (outer:=outer) (H:=H) (E:=E) GC.nd (qX (by decide +kernel)) (yL (show Ra _ ["_law_mix","_law_code","len","range","min","list","_law_shrunk","_law_fault","isinstance","is_let_in","_law_packet","run","_law_run"]=true from(by decide +kernel))) hr;exact(by walk_at "e")
theorem finish {fa:Addr}(hmg:mg "law"=some (.ref fa)) (T:Tx w K mg):∃fd:FuncData,fY fd ["_law_script"]/\∀base:Heap,ei P w K mg base mZ 9 fa fd ["_law_script"] (Ag K 1 CP):=by
 obtain⟨f,fd,h1,h2,h3⟩:=T.Dd;have e:=hmg.symm.trans h1;cases e;exact⟨fd,h3,fun base=>Lh T h2⟩
theorem dO {h:Heap}{x:Str}{st:Stmt}{ps:Zv}(X:K.In h) (G:h.Ns mainGlobals mg) (d:aU K x st) (hb:∀(kV doc pm:Value) (an:Zw) (cdv ct:Value),fY (PySem.W.fnOf x x (fb st) (bU st) (af st) .none kV doc pm an cdv ct) ps:=by intro _ _ _ _ _ _ _ _;walk_at "bs"):aR K mg x st ps:=Qy X G d hb
theorem mkT {h:Heap}(KX:K.In h) (G:h.Ns mainGlobals mg)
    (hJ:PySem.W.nsIn K mainGlobals "range"=some none)
    (qP:PySem.W.nsIn K mainGlobals "len"=some none)
    (ye:PySem.W.nsIn K mainGlobals "max"=some none)
    (yd:PySem.W.nsIn K mainGlobals "min"=some none)
    (nz:PySem.W.nsIn K mainGlobals "list"=some none)
    (fN:PySem.W.nsIn K mainGlobals "enumerate"=some none)
    (bK:PySem.W.nsIn K mainGlobals "isinstance"=some none)
    (ky:PySem.W.nsIn K mainGlobals "tuple"=some none)
    (yc:PySem.W.nsIn K mainGlobals "str"=some none)
    (tP:PySem.W.nsIn K mainGlobals "zip"=some none)
    (tQ:PySem.W.nsIn K mainGlobals "int"=some none)
    (qR:PySem.W.nsIn K mainGlobals "bool"=some none)
    (tR:PySem.W.nsIn K mainGlobals "all"=some none)
    (yf:PySem.W.nsIn K mainGlobals "any"=some none)
    (qQ:PySem.W.nsIn K mainGlobals "dict"=some none)
    (yb:PySem.W.nsIn K mainGlobals "sum"=some none)
    {uK:Tok}
    (jd:PySem.W.nsIn K mainGlobals "MOST_STEPS"=some (some (.int 2000 uK)))
    {Kk:Tok}
    (wL:PySem.W.nsIn K mainGlobals "SLOTS"=some (some (.int 8 Kk)))
    {uV:Addr}{Jm:Nat}{yD yC yB yA yz yy yx yw yv yu u9 u8 u7 u6 tZ:Tok}{qk qj qi qh qg qf qe qd qc qb ng n9 n8 n6 n5:Addr}
    (wO:PySem.W.nsIn K mainGlobals "PARTS"=some (some (.ref uV)))
    (vA:K.lookup uV=some ⟨.type "dict",none,.dict #[⟨PyData.keyHash w.params ⟨eP.toArray⟩,.str ⟨eP.toArray⟩ yD,.ref qk⟩,⟨PyData.keyHash w.params ⟨dX.toArray⟩,.str ⟨dX.toArray⟩ yC,.ref qj⟩,⟨PyData.keyHash w.params ⟨eI.toArray⟩,.str ⟨eI.toArray⟩ yB,.ref qi⟩,⟨PyData.keyHash w.params ⟨du.toArray⟩,.str ⟨du.toArray⟩ yA,.ref qh⟩,⟨PyData.keyHash w.params ⟨fH.toArray⟩,.str ⟨fH.toArray⟩ yz,.ref qg⟩,⟨PyData.keyHash w.params ⟨dW.toArray⟩,.str ⟨dW.toArray⟩ yy,.ref qf⟩,⟨PyData.keyHash w.params ⟨ba.toArray⟩,.str ⟨ba.toArray⟩ yx,.ref qe⟩,⟨PyData.keyHash w.params ⟨bf.toArray⟩,.str ⟨bf.toArray⟩ yw,.ref qd⟩,⟨PyData.keyHash w.params ⟨lL.toArray⟩,.str ⟨lL.toArray⟩ yv,.ref qc⟩,⟨PyData.keyHash w.params ⟨jg.toArray⟩,.str ⟨jg.toArray⟩ yu,.ref qb⟩,⟨PyData.keyHash w.params ⟨bA.toArray⟩,.str ⟨bA.toArray⟩ u9,.ref ng⟩,⟨PyData.keyHash w.params ⟨fR.toArray⟩,.str ⟨fR.toArray⟩ u8,.ref n9⟩,⟨PyData.keyHash w.params ⟨dw.toArray⟩,.str ⟨dw.toArray⟩ u7,.ref n8⟩,⟨PyData.keyHash w.params ⟨bE.toArray⟩,.str ⟨bE.toArray⟩ u6,.ref n6⟩,⟨PyData.keyHash w.params ⟨be.toArray⟩,.str ⟨be.toArray⟩ tZ,.ref n5⟩] Jm,#[]⟩)
    (vI:(uV==sysModules)=false)
    {A2 A1 A0:Tok}{Ex:Zw}{FT:Nat}{DW:Zp}
    (rj:K.lookup qk=some ⟨.type "tuple",Ex,.seq #[.str ⟨pZ.toArray⟩ A2,.str ⟨q0.toArray⟩ A1,.str ⟨bq.toArray⟩ A0] FT,DW⟩)
    {Ew:Zw}{FS:Nat}{DV:Zp}
    (rh:K.lookup qj=some ⟨.type "tuple",Ew,.seq #[] FS,DV⟩)
    {zZ:Tok}{Ev:Zw}{FR:Nat}{DU:Zp}
    (rg:K.lookup qi=some ⟨.type "tuple",Ev,.seq #[.str ⟨bq.toArray⟩ zZ] FR,DU⟩)
    {zY:Tok}{Eu:Zw}{FQ:Nat}{DT:Zp}
    (rf:K.lookup qh=some ⟨.type "tuple",Eu,.seq #[.str ⟨bq.toArray⟩ zY] FQ,DT⟩)
    {Et:Zw}{FP:Nat}{DS:Zp}
    (re:K.lookup qg=some ⟨.type "tuple",Et,.seq #[] FP,DS⟩)
    {Es:Zw}{FO:Nat}{DR:Zp}
    (rb:K.lookup qf=some ⟨.type "tuple",Es,.seq #[] FO,DR⟩)
    {zX:Tok}{Er:Zw}{FN:Nat}{DQ:Zp}
    (r9:K.lookup qe=some ⟨.type "tuple",Er,.seq #[.str ⟨jB.toArray⟩ zX] FN,DQ⟩)
    {zW:Tok}{Ep:Zw}{FM:Nat}{DP:Zp}
    (r8:K.lookup qd=some ⟨.type "tuple",Ep,.seq #[.str ⟨jB.toArray⟩ zW] FM,DP⟩)
    {zV zU:Tok}{Eo:Zw}{FL:Nat}{DO:Zp}
    (r6:K.lookup qc=some ⟨.type "tuple",Eo,.seq #[.str ⟨wW.toArray⟩ zV,.str ⟨bq.toArray⟩ zU] FL,DO⟩)
    {zT:Tok}{Em:Zw}{FK:Nat}{DN:Zp}
    (qZ:K.lookup qb=some ⟨.type "tuple",Em,.seq #[.str ⟨wW.toArray⟩ zT] FK,DN⟩)
    {xj:Tok}{AK:Zw}{DB:Nat}{Ao:Zp}
    (nU:K.lookup ng=some ⟨.type "tuple",AK,.seq #[.str ⟨b5.toArray⟩ xj] DB,Ao⟩)
    {xi xg xf xb:Tok}{AJ:Zw}{DA:Nat}{An:Zp}
    (nS:K.lookup n9=some ⟨.type "tuple",AJ,.seq #[.str ⟨l8.toArray⟩ xi,.str ⟨bq.toArray⟩ xg,.str ⟨b5.toArray⟩ xf,.str ⟨b5.toArray⟩ xb] DA,An⟩)
    {xa x9 x0:Tok}{AI:Zw}{Dz:Nat}{Am:Zp}
    (nR:K.lookup n8=some ⟨.type "tuple",AI,.seq #[.str ⟨l8.toArray⟩ xa,.str ⟨b5.toArray⟩ x9,.str ⟨b5.toArray⟩ x0] Dz,Am⟩)
    {wZ:Tok}{AH:Zw}{Dy:Nat}{Al:Zp}
    (nQ:K.lookup n6=some ⟨.type "tuple",AH,.seq #[.str ⟨bq.toArray⟩ wZ] Dy,Al⟩)
    {AG:Zw}{Dx:Nat}{Ak:Zp}
    (nP:K.lookup n5=some ⟨.type "tuple",AG,.seq #[] Dx,Ak⟩)
    {Kl:Tok}
    (wN:PySem.W.nsIn K mainGlobals "ROUND"=some (some (.int 4294967296 Kl)))
    {C4:Addr}{Gr Go Gm:Tok}{HJ:Zw}{K7:Nat}{Gx:Zp}
    (wM:PySem.W.nsIn K mainGlobals "SIZES"=some (some (.ref C4)))
    (vz:K.lookup C4=some ⟨.type "tuple",HJ,.seq #[.int 1 Gr,.int 2 Go,.int 4 Gm] K7,Gx⟩)
    {A6:Tok}
    (lI:PySem.W.nsIn K mainGlobals "FARTHEST"=some (some (.int 2000 A6)))
    {C5:Addr}{Gs Gp:Tok}{HK:Zw}{K8:Nat}{Gy:Zp}
    (wP:PySem.W.nsIn K mainGlobals "BASES"=some (some (.ref C5)))
    (vB:K.lookup C5=some ⟨.type "tuple",HK,.seq #[.str ⟨wY.toArray⟩ Gs,.str ⟨FD.toArray⟩ Gp] K8,Gy⟩)
    {Nc:Addr}{OE OD OC OB OA Oz Oy Ox Ow Ov:Tok}{PJ:Zw}{Rh:Nat}{OG:Zp}
    (JQ:PySem.W.nsIn K mainGlobals "OPS"=some (some (.ref Nc)))
    (IK:K.lookup Nc=some ⟨.type "tuple",PJ,.seq #[.str ⟨bW.toArray⟩ OE,.str ⟨bo.toArray⟩ OD,.str ⟨aZ.toArray⟩ OC,.str ⟨aI.toArray⟩ OB,.str ⟨aM.toArray⟩ OA,.str ⟨bx.toArray⟩ Oz,.str ⟨dv.toArray⟩ Oy,.str ⟨cg.toArray⟩ Ox,.str ⟨aH.toArray⟩ Ow,.str ⟨aD.toArray⟩ Ov] Rh,OG⟩)
    {C3:Addr}{Gq Gn Gk Gj:Tok}{HI:Zw}{K6:Nat}{Gw:Zp}
    (wK:PySem.W.nsIn K mainGlobals "TESTS"=some (some (.ref C3)))
    (vw:K.lookup C3=some ⟨.type "tuple",HI,.seq #[.str ⟨eR.toArray⟩ Gq,.str ⟨eS.toArray⟩ Gn,.str ⟨eQ.toArray⟩ Gk,.str ⟨lM.toArray⟩ Gj] K6,Gw⟩)
    {qH:Addr}{xt xq:Tok}{xY:Zw}{zH:Nat}{xv:Zp}
    (lJ:PySem.W.nsIn K mainGlobals "DIVIDING"=some (some (.ref qH)))
    (lv:K.lookup qH=some ⟨.type "tuple",xY,.seq #[.str ⟨aI.toArray⟩ xt,.str ⟨aM.toArray⟩ xq] zH,xv⟩)
    {qG:Addr}{xr xp:Tok}{xW:Zw}{zG:Nat}{xu:Zp}
    (lH:PySem.W.nsIn K mainGlobals "SHIFTING"=some (some (.ref qG)))
    (ls:K.lookup qG=some ⟨.type "tuple",xW,.seq #[.str ⟨aH.toArray⟩ xr,.str ⟨aD.toArray⟩ xp] zG,xu⟩)
    {Kj:Tok}
    (wJ:PySem.W.nsIn K mainGlobals "WIDTH"=some (some (.int 32 Kj)))
    {tL:Addr}{Ab A9 A7:Tok}{AF:Zw}{Dw:Nat}{Aj:Zp}
    (om:PySem.W.nsIn K mainGlobals "LEADING"=some (some (.ref tL)))
    (nO:K.lookup tL=some ⟨.type "tuple",AF,.seq #[.str ⟨bA.toArray⟩ Ab,.str ⟨fR.toArray⟩ A9,.str ⟨dw.toArray⟩ A7] Dw,Aj⟩)
    {tK:Addr}{Aa A8:Tok}{AE:Zw}{Dv:Nat}{Ai:Zp}
    (oh:PySem.W.nsIn K mainGlobals "TELLING"=some (some (.ref tK)))
    (nN:K.lookup tK=some ⟨.type "tuple",AE,.seq #[.str ⟨bE.toArray⟩ Aa,.str ⟨be.toArray⟩ A8] Dv,Ai⟩)
    {cC:Addr}
    (c8:PySem.W.nsIn K mainGlobals "SieveError"=some (some (.ref cC)))
    {bc:Addr}
    (bJ:PySem.W.nsIn K mainGlobals "NotLetIn"=some (some (.ref bc)))
    {bT:Addr}
    (bV:PySem.W.nsIn K mainGlobals "Machine"=some (some (.ref bT)))
    {eJ:Addr}{xZ yt ze xO oI zi:Value}{xX zy:Zw}{xQ:Zp}
    (rC:PySem.W.findIn K (.ref bc) "__init__"=some (some (.ref eJ)))
    (lu:K.lookup eJ=some ⟨xZ,xX,.func (PySem.W.fnOf "__init__" "NotLetIn.__init__" (fb fK) (bU fK) (af fK) .none yt ze xO zy oI zi),xQ⟩)
    (lD:PySem.W.codeIn K oI "NotLetIn.__init__"=true)
    (lw:PySem.W.keepIn K (.ref eJ)=true)
    (ln:Ee K bc eJ=true)
    (iV:nl K bc=true)
    (jA:PySem.W.findIn K (.ref bc) "__setattr__"=some (some (.builtin "object.__setattr__")))
    (gW:PySem.W.findIn K (.ref bc) "__getattribute__"=some (some (.builtin "BaseException.__getattribute__")))
    (gU:PySem.W.findIn K (.ref bc) "__getattr__"=some none)
    (gT:PySem.W.hasDictIn K bc=true)
    (jz:PySem.W.takerIn K bc "at"=some none)
    (gS:PySem.W.findIn K (.ref bc) "at"=some none)
    (jy:PySem.W.isFn K (.ref eJ)=true)
    (jx:PySem.W.keepIn K (.ref bc)=true)
    (ig:PySem.W.readsIn K cC (.type "type")=true)
    (ic:PySem.W.findCls K (.ref cC) (.type "type") "__init__"=some (.val (.builtin "ValueError.__init__")))
    (ib:PySem.W.specialIn K (.ref cC) "__getattribute__"=some (some (.builtin "type.__getattribute__")))
    (ip:PySem.W.typeIn K (.ref cC)=some (.type "type"))
    (im:(PySem.W.clsIn K cC).isSome=true)
    (il:PySem.W.subIn K (.ref cC) (.type "BaseException")=some true)
    (bC:PySem.W.subIn K (.ref bc) (.ref cC)=some true)
    (jw:PySem.W.findIn K (.ref bc) "__class__"=some (some (.builtin "object.__class__")))
    (jv:PySem.W.specialIn K (.builtin "object.__class__") "__get__"=some (some (.builtin "getset_descriptor.__get__")))
    (ju:PySem.W.takesIn K (.builtin "object.__class__")=some true)
    (jt:PySem.W.mroIn K bc (.type "object")=some true)
    (bZ:PySem.W.kitOne K (.ref bc) (.ref bc)=some true)
    (lj:PySem.W.plainGet K bT Str.empty=true)
    (lh:PySem.W.hasDictIn K bT=true)
    (lf:PySem.W.plainOver K bT=true)
    (lc:PySem.W.findIn K (.ref bT) "__setattr__"=some (some (.builtin "object.__setattr__")))
    (cy:PySem.W.findIn K (.ref bT) "hand"=some none)
    (cf:PySem.W.findIn K (.ref bT) "other"=some none)
    (cb:PySem.W.findIn K (.ref bT) "slots"=some none)
    (bF:PySem.W.findIn K (.ref bT) "place"=some none)
    (cz:PySem.W.findIn K (.ref bT) "done"=some none)
    (cx:PySem.W.findIn K (.ref bT) "told"=some none)
    {bY:Addr}{jM jW ko jI fQ kq:Value}{jL ku:Zw}{jJ:Zp}
    (e9:PySem.W.findIn K (.ref bT) "__init__"=some (some (.ref bY)))
    (e7:K.lookup bY=some ⟨jM,jL,.func (PySem.W.fnOf "__init__" "Machine.__init__" (fb aY) (bU aY) (af aY) .none jW ko jI ku fQ kq),jJ⟩)
    (eh:PySem.W.codeIn K fQ "Machine.__init__"=true)
    (e8:PySem.W.keepIn K (.ref bY)=true)
    (dB:PySem.W.makesIn K bT=true)
    (dA:PySem.W.isFn K (.ref bY)=true)
    (dz:PySem.W.keepIn K (.ref bT)=true)
    (wx:aU K "_law_cell" GI)
    (Dc:aU K "_law_mix" N7)
    (d_k:aU K "_law_k" V7)
    (Mm:aU K "_law_op" RP)
    (wu:aU K "_law_step" GD)
    (ww:aU K "_law_code" Ar)
    (gr:aU K "no_slots" lX)
    (gw:aU K "is_whole" lY)
    (fF:aU K "is_number" kY)
    (i6:aU K "is_part" ow)
    (cW:aU K "can_be_done_by" gH)
    (i5:aU K "is_step" jE)
    (cV:aU K "lacks_its_slot" gG)
    (fe:aU K "goals_from" jG)
    (i7:aU K "hand_on" jF)
    (eE:aU K "kept_behind" fS)
    (cw:aU K "first_wrong_place" db)
    (mQ:aU K "look" eV)
    (fE:aU K "led_goals" ii)
    (i9:aU K "ends_of" oz)
    (fc:aU K "own_places" gF)
    (mR:aU K "lead" xz)
    (dS:aU K "bridge_goals" iE)
    (eD:aU K "places_left" ji)
    (gu:aU K "new_step" iW)
    (j9:aU K "shrunk" cm)
    (mO:aU K "_law_shrunk" qu)
    (pV:aU K "_law_goals" BJ)
    (pS:aU K "_law_there" BF)
    (pR:aU K "_law_unset" BE)
    (pW:aU K "_law_fault" uN)
    (fG:aU K "is_let_in" kZ)
    (mP:aU K "_law_packet" qw)
    (gq:aU K "put_away" lW)
    (dR:aU K "take_in_hand" iD)
    (ja:aU K "loaded" qx)
    (i4:aU K "shifted" ou)
    (cF:aU K "plainly_reckoned" fM)
    (gp:aU K "reckoned" lU)
    (i8:aU K "fetched" oy)
    (gn:aU K "value_of" lT)
    (kK:aU K "holds" tD)
    (gx:aU K "distance" lZ)
    (ia:aU K "do_step" oA)
    (kM:aU K "ended" tE)
    (pT:aU K "run" BG)
    (j8:aU K "_law_reckoned" qv)
    (pU:aU K "_law_holds" BI)
    (pX:aU K "_law_bytes" uO)
    (wv:aU K "_law_done" GG)
    (Db:aU K "_law_run" N6)
    (Dd:aU K "law" BH):Tx w K mg :=
  ⟨Wa KX G hJ,
   Wa KX G qP,
   Wa KX G ye,
   Wa KX G yd,
   Wa KX G nz,
   Wa KX G fN,
   Wa KX G bK,
   Wa KX G ky,
   Wa KX G yc,
   Wa KX G tP,
   Wa KX G tQ,
   Wa KX G qR,
   Wa KX G tR,
   Wa KX G yf,
   Wa KX G qQ,
   Wa KX G yb,
   iR KX G jd,
   iR KX G wL,
   Mj [(eP,yD,qk),(dX,yC,qj),(eI,yB,qi),(du,yA,qh),(fH,yz,qg),(dW,yy,qf),(ba,yx,qe),(bf,yw,qd),(lL,yv,qc),(jg,yu,qb),(bA,u9,ng),(fR,u8,n9),(dw,u7,n8),(bE,u6,n6),(be,tZ,n5)] KX G wO vA vI (show([eP,dX,eI,du,fH,dW,ba,bf,lL,jg,bA,fR,dw,bE,be]:List (Zu)).Nodup by decide) rfl (fun F O=>(aa (cq (vs:=[.str ⟨pZ.toArray⟩,.str ⟨q0.toArray⟩,.str ⟨bq.toArray⟩]) rj (by show 3<=16777216;decide) (.cons ⟨_,rfl⟩ (.cons ⟨_,rfl⟩ (.cons ⟨_,rfl⟩ .nil))) (aa (by unfold aG;rfl) (aa (by unfold aG;rfl) (aa (by unfold aG;rfl) ax)))) (aa (cq (vs:=[]) rh (by show 0<=16777216;decide) .nil ax) (aa (cq (vs:=[.str ⟨bq.toArray⟩]) rg (by show 1<=16777216;decide) (.cons ⟨_,rfl⟩ .nil) (aa (by unfold aG;rfl) ax)) (aa (cq (vs:=[.str ⟨bq.toArray⟩]) rf (by show 1<=16777216;decide) (.cons ⟨_,rfl⟩ .nil) (aa (by unfold aG;rfl) ax)) (aa (cq (vs:=[]) re (by show 0<=16777216;decide) .nil ax) (aa (cq (vs:=[]) rb (by show 0<=16777216;decide) .nil ax) (aa (cq (vs:=[.str ⟨jB.toArray⟩]) r9 (by show 1<=16777216;decide) (.cons ⟨_,rfl⟩ .nil) (aa (by unfold aG;rfl) ax)) (aa (cq (vs:=[.str ⟨jB.toArray⟩]) r8 (by show 1<=16777216;decide) (.cons ⟨_,rfl⟩ .nil) (aa (by unfold aG;rfl) ax)) (aa (cq (vs:=[.str ⟨wW.toArray⟩,.str ⟨bq.toArray⟩]) r6 (by show 2<=16777216;decide) (.cons ⟨_,rfl⟩ (.cons ⟨_,rfl⟩ .nil)) (aa (by unfold aG;rfl) (aa (by unfold aG;rfl) ax))) (aa (cq (vs:=[.str ⟨wW.toArray⟩]) qZ (by show 1<=16777216;decide) (.cons ⟨_,rfl⟩ .nil) (aa (by unfold aG;rfl) ax)) (aa (cq (vs:=[.str ⟨b5.toArray⟩]) nU (by show 1<=16777216;decide) (.cons ⟨_,rfl⟩ .nil) (aa (by unfold aG;rfl) ax)) (aa (cq (vs:=[.str ⟨l8.toArray⟩,.str ⟨bq.toArray⟩,.str ⟨b5.toArray⟩,.str ⟨b5.toArray⟩]) nS (by show 4<=16777216;decide) (.cons ⟨_,rfl⟩ (.cons ⟨_,rfl⟩ (.cons ⟨_,rfl⟩ (.cons ⟨_,rfl⟩ .nil)))) (aa (by unfold aG;rfl) (aa (by unfold aG;rfl) (aa (by unfold aG;rfl) (aa (by unfold aG;rfl) ax))))) (aa (cq (vs:=[.str ⟨l8.toArray⟩,.str ⟨b5.toArray⟩,.str ⟨b5.toArray⟩]) nR (by show 3<=16777216;decide) (.cons ⟨_,rfl⟩ (.cons ⟨_,rfl⟩ (.cons ⟨_,rfl⟩ .nil))) (aa (by unfold aG;rfl) (aa (by unfold aG;rfl) (aa (by unfold aG;rfl) ax)))) (aa (cq (vs:=[.str ⟨bq.toArray⟩]) nQ (by show 1<=16777216;decide) (.cons ⟨_,rfl⟩ .nil) (aa (by unfold aG;rfl) ax)) (aa (cq (vs:=[]) nP (by show 0<=16777216;decide) .nil ax) ax)))))))))))))))),
   iR KX G wN,
   eL (vs:=[.int 1,.int 2,.int 4]) KX G wM vz (by show 3<=16777216;decide) (.cons ⟨_,rfl⟩ (.cons ⟨_,rfl⟩ (.cons ⟨_,rfl⟩ .nil))) (fun F O=>(aa (by unfold aG;rfl) (aa (by unfold aG;rfl) (aa (by unfold aG;rfl) ax)))),
   iR KX G lI,
   eL (vs:=[.str ⟨wY.toArray⟩,.str ⟨FD.toArray⟩]) KX G wP vB (by show 2<=16777216;decide) (.cons ⟨_,rfl⟩ (.cons ⟨_,rfl⟩ .nil)) (fun F O=>(aa (by unfold aG;rfl) (aa (by unfold aG;rfl) ax))),
   eL (vs:=[.str ⟨bW.toArray⟩,.str ⟨bo.toArray⟩,.str ⟨aZ.toArray⟩,.str ⟨aI.toArray⟩,.str ⟨aM.toArray⟩,.str ⟨bx.toArray⟩,.str ⟨dv.toArray⟩,.str ⟨cg.toArray⟩,.str ⟨aH.toArray⟩,.str ⟨aD.toArray⟩]) KX G JQ IK (by show 10<=16777216;decide) (.cons ⟨_,rfl⟩ (.cons ⟨_,rfl⟩ (.cons ⟨_,rfl⟩ (.cons ⟨_,rfl⟩ (.cons ⟨_,rfl⟩ (.cons ⟨_,rfl⟩ (.cons ⟨_,rfl⟩ (.cons ⟨_,rfl⟩ (.cons ⟨_,rfl⟩ (.cons ⟨_,rfl⟩ .nil)))))))))) (fun F O=>(aa (by unfold aG;rfl) (aa (by unfold aG;rfl) (aa (by unfold aG;rfl) (aa (by unfold aG;rfl) (aa (by unfold aG;rfl) (aa (by unfold aG;rfl) (aa (by unfold aG;rfl) (aa (by unfold aG;rfl) (aa (by unfold aG;rfl) (aa (by unfold aG;rfl) ax))))))))))),
   eL (vs:=[.str ⟨eR.toArray⟩,.str ⟨eS.toArray⟩,.str ⟨eQ.toArray⟩,.str ⟨lM.toArray⟩]) KX G wK vw (by show 4<=16777216;decide) (.cons ⟨_,rfl⟩ (.cons ⟨_,rfl⟩ (.cons ⟨_,rfl⟩ (.cons ⟨_,rfl⟩ .nil)))) (fun F O=>(aa (by unfold aG;rfl) (aa (by unfold aG;rfl) (aa (by unfold aG;rfl) (aa (by unfold aG;rfl) ax))))),
   eL (vs:=[.str ⟨aI.toArray⟩,.str ⟨aM.toArray⟩]) KX G lJ lv (by show 2<=16777216;decide) (.cons ⟨_,rfl⟩ (.cons ⟨_,rfl⟩ .nil)) (fun F O=>(aa (by unfold aG;rfl) (aa (by unfold aG;rfl) ax))),
   eL (vs:=[.str ⟨aH.toArray⟩,.str ⟨aD.toArray⟩]) KX G lH ls (by show 2<=16777216;decide) (.cons ⟨_,rfl⟩ (.cons ⟨_,rfl⟩ .nil)) (fun F O=>(aa (by unfold aG;rfl) (aa (by unfold aG;rfl) ax))),
   iR KX G wJ,
   eL (vs:=[.str ⟨bA.toArray⟩,.str ⟨fR.toArray⟩,.str ⟨dw.toArray⟩]) KX G om nO (by show 3<=16777216;decide) (.cons ⟨_,rfl⟩ (.cons ⟨_,rfl⟩ (.cons ⟨_,rfl⟩ .nil))) (fun F O=>(aa (by unfold aG;rfl) (aa (by unfold aG;rfl) (aa (by unfold aG;rfl) ax)))),
   eL (vs:=[.str ⟨bE.toArray⟩,.str ⟨be.toArray⟩]) KX G oh nN (by show 2<=16777216;decide) (.cons ⟨_,rfl⟩ (.cons ⟨_,rfl⟩ .nil)) (fun F O=>(aa (by unfold aG;rfl) (aa (by unfold aG;rfl) ax))),
   (by show mg _=_;rw[dY c8];exact WQ KX G c8),
   (by show mg _=_;rw[dY bJ];exact WQ KX G bJ),
   (by show mg _=_;rw[dY bV];exact WQ KX G bV),
   ⟨eJ,_,by rw[dY bJ];exact WQ KX G bJ,by rw[dY bJ];exact⟨ln,iV,jA,gW,gU,gT,jz,gS,jy,jx⟩,B6 (st:=fK) lu lD lw,fun us hl=>by obtain⟨_,_,rfl⟩:=IG hl;rfl⟩,
   (by rw[dY c8];exact⟨ig,ic,ib⟩),
   ⟨by rw[dY c8];exact WQ KX G c8,by rw[dY c8];exact⟨ip,im,il⟩⟩,
   (by rw[dY bJ,dY c8];exact bC),
   (by rw[dY bJ];exact⟨iV,gW,gU,gT,jw,jv,ju,jt⟩),
   (by rw[dY bJ];exact gS),
   (by rw[dY bJ];exact bZ),
   (by rw[dY bV];exact⟨lj,lh,lf,lc⟩),
   (by rw[dY bV];exact cy),
   (by rw[dY bV];exact cf),
   (by rw[dY bV];exact cb),
   (by rw[dY bV];exact bF),
   (by rw[dY bV];exact cz),
   (by rw[dY bV];exact cx),
   ⟨bY,_,by rw[dY bV];exact WQ KX G bV,by rw[dY bV];exact⟨dB,e9,dA,dz⟩,B6 (st:=aY) e7 eh e8,fun us hl=>by obtain⟨_,rfl⟩:=IH hl;rfl⟩,
   dO KX G wx,
   dO KX G Dc,
   dO KX G d_k,
   dO KX G Mm,
   dO KX G wu,
   dO KX G ww,
   dO KX G gr,
   dO KX G gw,
   dO KX G fF,
   dO KX G i6,
   dO KX G cW,
   dO KX G i5,
   dO KX G cV,
   dO KX G fe,
   dO KX G i7,
   dO KX G eE,
   dO KX G cw,
   dO KX G mQ,
   dO KX G fE,
   dO KX G i9,
   dO KX G fc,
   dO KX G mR,
   dO KX G dS,
   dO KX G eD,
   dO KX G gu,
   dO KX G j9,
   dO KX G mO,
   dO KX G pV,
   dO KX G pS,
   dO KX G pR,
   dO KX G pW,
   dO KX G fG,
   dO KX G mP,
   dO KX G gq,
   dO KX G dR,
   dO KX G ja,
   dO KX G i4,
   dO KX G cF,
   dO KX G gp,
   dO KX G i8,
   dO KX G gn,
   dO KX G kK,
   dO KX G gx,
   dO KX G ia,
   dO KX G kM,
   dO KX G pT,
   dO KX G j8,
   dO KX G pU,
   dO KX G pX,
   dO KX G wv,
   dO KX G Db,
   dO KX G Dd⟩
end
def xR:List (Zu):=[bW,bo,aZ,aI,aM,bx,dv,cg,aH,aD]
def Om:List (Zu):=[eR,eS,eQ,lM]
def TZ:List (Zu):=[wY,FD]
def cell (ns:ZC) (k:Nat):Int:=if ns=[] then 0 else ns.getD (k % ns.length) 0
def sc (ns:ZC):D:=.lst (ns.map .int)
theorem Ms (ns:ZC) (k:Nat) (U:Mu):vR [sc ns,.int k] U=.ok (.int (cell ns k)) U:=by
 cases ns with
 |nil=>rfl
 |cons n r =>
  refine aP 0 (aN rfl (ac rfl (ac rfl (bh (d:=.int (List.map D.int (n::r)).length) rfl rfl) (cS _ _ ?_)) ?_))
  ·rw[VS,W1];omega
  ·show atI ((n::r).map D.int) ((k:Int) % ((List.map D.int (n::r)).length:Nat))=_;rw[jb (Ws _ (by rw[VS,W1];omega))];have e2:((k:Int) % ((List.map D.int (n::r)).length:Nat)).toNat=k % (n::r).length:=by
    rw[VS];omega
   have hk:k % (n::r).length<(n::r).length:=Nat.mod_lt _ (by simp);rw[e2,Wk,VI hk];simp only[cell,reduceCtorEq,XO,XV];rw[W7,VI hk];rfl
def yg (c:Int) (k:Nat):Int:=(c+104729*((k:Int)+1)) % 4294967291*48271 % 4294967279
def ik (ns:ZC) (k:Nat):Int:=(yg (cell ns k) k / 64*69621+yg (cell ns k) k) % 4294967231
theorem PX (ns:ZC) (k:Nat) (U:Mu):di [sc ns,.int k] U=.ok (.int (ik ns k)) U:=by
 refine aP 1 ((ar 2 (d:=.int ((cell ns k+104729*((k:Int)+1)) % 4294967291)) (ac (ac (aj rfl (Ms ns k U)) (ac rfl (ac rfl rfl rfl) (dc _ _ (by decide) (by decide))) rfl) rfl (cS _ _ (by decide)))).trans
  ((ar 2 (d:=.int (yg (cell ns k) k)) (ac (ac rfl rfl (ka _ _ (by decide) (by decide))) rfl (cS _ _ (by decide)))).trans (bv ?_)))
 exact ac (x:=.int (yg (cell ns k) k / 64*69621+yg (cell ns k) k)) (ac (x:=.int (yg (cell ns k) k / 64*69621)) (ac (x:=.int (yg (cell ns k) k / 64)) (ac (x:=.int (yg (cell ns k) k)) rfl rfl (gK _ _ (by decide) (by decide))) rfl (ka _ _ (by decide) (by decide))) rfl rfl) rfl (cS _ _ (by decide))
theorem PV (ns:ZC) (k:Nat):0<=ik ns k:=Ws _ (by decide)
def kL:ZC:=[0,1,2,7,31,32,255,256,65535,2147483648,4294967295,12]
def kv (n:Int):Int:=if n % 4>0 then kL.getD (n / 4 % 12).toNat 0 else n / 4 % 4294967296
theorem IR:∀i<12,0<=kL.getD i 0/\kL.getD i 0<4294967296:=by decide
theorem SE (n:Int):0<=kv n:=by
 unfold kv;split
 ·exact(IR _ (by omega)).1
 ·omega
theorem SG (n:Int):kv n<4294967296:=by
 unfold kv;split
 ·exact(IR _ (by omega)).2
 ·omega
theorem UK (n:Int) (U:Mu):f_k [.int n] U=.ok (.int (kv n)) U:=by
 have t1:∀ρ:En,ρ[0]? =some (some (.int n))->a9 (a6 yP (a6 bL (a4 0) (mC (.int 4))) (mC (.int 0))) ρ U=.ok (decide (0<n % 4)) U:=fun ρ h=>aC (ac (ac (bz 0 h) rfl (cS _ _ (by decide))) rfl rfl)
 have hk:(n / 4 % 12).toNat<kL.length:=by show _<12;omega
 refine aP 1 ((ar 1 (d:=.lst (kL.map .int)) rfl).trans (bv ?_));unfold kv;by_cases h:n % 4>0
 ·have t1:=t1 [some (.int n),some (.lst (kL.map .int))] rfl;rw[VX h] at t1;rw[VJ h];refine(iy t1).trans (ac rfl (ac (ac rfl rfl (gK _ _ (by decide) (by decide))) rfl (cS _ _ (by decide))) ?_);show atI (kL.map D.int) (n / 4 % 12)=_;rw[jb (by omega),Wk,VI hk,W7,VI hk];rfl
 ·have t1:=t1 [some (.int n),some (.lst (kL.map .int))] rfl;rw[VY h] at t1;rw[VN h];exact(jh t1).trans (ac (ac rfl rfl (gK _ _ (by decide) (by decide))) rfl (cS _ _ (by decide)))
def Sm (n:Int):Zu:=xR.getD (n % 10).toNat []
theorem C7 (n:Int):Sm n∈xR:=by
 unfold Sm;have hk:(n % 10).toNat<xR.length:=by show _<10;omega
 rw[W7,VI hk];exact YW hk
theorem Ng (n:Int) (U:Mu):Ji [.int n] U=.ok (.str (Sm n)) U:=by
 have hk:(n % 10).toNat<xR.length:=by show _<10;omega
 refine aP 0 (bv (ac (x:=.lst (xR.map .str)) rfl (ac rfl rfl (cS _ _ (by decide))) ?_));show atI (xR.map D.str) (n % 10)=_;unfold Sm;rw[jb (by omega),Wk,VI hk,W7,VI hk];rfl
inductive Kd|num|size|slot|dist|base|op|test
def Kd.w:Kd->Zu
 |.num=>bq
 |.size=>pZ
 |.slot=>jB
 |.dist=>b5
 |.base=>q0
 |.op=>wW
 |.test=>l8
theorem NN (i j:Int) (ρ:En) (U:Mu) (ma mb mc:MX) (h1:ma ρ U=.ok (.int 0) U) (h2:mb ρ U=.ok (.int i) U) (h3:mc ρ U=.ok (.int j) U):mChain EV t6 ma mb mc ρ U=.ok (.bl (decide (0<=i)&&decide (i<j))) U:=by
 rw[Ba,h1,ae,ur,h2,ae,uq,aL,aL,B3];by_cases h:0<=i
 ·simp only[h,XA,Bool.true_and,Wl];show Res.bind (.ok true U) _=_;rw[ae,Jo,h3,ae];rfl
 ·simp only[h,XD,Bool.false_and];rfl
theorem Th (i j:Int) (ρ:En) (U:Mu) (ma mb mc:MX) (h1:ma ρ U=.ok (.int 0) U) (h2:mb ρ U=.ok (.int i) U) (h3:mc ρ U=.ok (.int j) U):mChain EV EV ma mb mc ρ U=.ok (.bl (decide (0<=i)&&decide (i<=j))) U:=by
 rw[Ba,h1,ae,ur,h2,ae,uq,aL,aL,B3];by_cases h:0<=i
 ·simp only[h,XA,Bool.true_and,Wl];show Res.bind (.ok true U) _=_;rw[ae,Jo,h3,ae];rfl
 ·simp only[h,XD,Bool.false_and];rfl
inductive gA:Kd->D->Prop
 |num {i:Int}:0<=i->i<4294967296->gA .num (.int i)
 |size {i:Int}:i=1\/i=2\/i=4->gA .size (.int i)
 |slot {i:Int}:0<=i->i<8->gA .slot (.int i)
 |dist {i:Int}:0<=i->i<=2000->gA .dist (.int i)
 |base {x:Zu}:x∈TZ->gA .base (.str x)
 |op {x:Zu}:x∈xR->gA .op (.str x)
 |test {x:Zu}:x∈Om->gA .test (.str x)
theorem qI {P:Zu->Prop}(h:P bW/\P bo/\P aZ/\P aI/\P aM/\P bx/\P dv/\P cg/\P aH/\P aD):∀x∈xR,P x:=by
 intro x hx;simp only[xR,Wd,VR,WL] at hx;obtain⟨h1,h2,h3,h4,h5,h6,h7,h8,h9,h10⟩:=h;rcases hx with rfl|rfl|rfl|rfl|rfl|rfl|rfl|rfl|rfl|rfl<;>assumption
theorem A5 {P:Zu->Prop}(h:P eR/\P eS/\P eQ/\P lM):∀x∈Om,P x:=by
 intro x hx;simp only[Om,Wd,VR,WL] at hx;obtain⟨h1,h2,h3,h4⟩:=h;rcases hx with rfl|rfl|rfl|rfl<;>assumption
theorem Bl {P:Zu->Prop}(h:P wY/\P FD):∀x∈TZ,P x:=by
 intro x hx;simp only[TZ,Wd,VR,WL] at hx;obtain⟨h1,h2⟩:=h;rcases hx with rfl|rfl<;>assumption
theorem Ea (h:gA k d) (U:Mu):dF [.str k.w,d] U=.ok (.bl true) U:=by
 cases h with
 | @num i h1 h2 =>
  refine(aP 0 (aN rfl (aj rfl (aP 0 (bv ((gZ rfl).trans (NN i 4294967296 _ _ _ _ _ rfl rfl rfl))))))).trans ?_;rw[VX h1,VX h2];rfl
 | @size i h1=>rcases h1 with rfl|rfl|rfl<;>rfl
 | @slot i h1 h2 =>
  refine(aP 0 ((a8 rfl).trans ((a8 rfl).trans (aN rfl ((gZ rfl).trans (NN i 8 _ _ _ _ _ rfl rfl rfl)))))).trans ?_;rw[VX h1,VX h2];rfl
 | @dist i h1 h2 =>
  refine(aP 0 ((a8 rfl).trans ((a8 rfl).trans ((a8 rfl).trans (aN rfl ((gZ rfl).trans (Th i 2000 _ _ _ _ _ rfl rfl rfl))))))).trans ?_;rw[VX h1,VX h2];rfl
 |base hx=>revert hx;exact Bl (P:=fun x=>dF [.str Kd.base.w,.str x] U=.ok (.bl true) U) ⟨rfl,rfl⟩ _
 |op hx=>revert hx;exact qI (P:=fun x=>dF [.str Kd.op.w,.str x] U=.ok (.bl true) U) ⟨rfl,rfl,rfl,rfl,rfl,rfl,rfl,rfl,rfl,rfl⟩ _
 |test hx=>revert hx;exact A5 (P:=fun x=>dF [.str Kd.test.w,.str x] U=.ok (.bl true) U) ⟨rfl,rfl,rfl,rfl⟩ _
abbrev Ti:MG:=gTupT (cr (gN 0) (cr (gN 1) gsNil))
abbrev QK:MX:=mCall dF (a5 (a4 0) (a5 (a4 1) mNil))
theorem uu (U:Mu):∀(ps:List (Kd×D)),(∀p∈ps,gA p.1 p.2)->∀(a b:ZF) (acc:ZE),aA Ti fh QK (ps.map fun p=>.tup [.str p.1.w,p.2]) [a,b] U acc=.ok (acc++ps.map fun _=>.bl true) U
 |[],_,a,b,acc=>by simp[aA]
 |p::ps,h,a,b,acc=>by
  obtain⟨h1,h2⟩:=List.forall_mem_cons.mp h;have e:QK [some (.str p.1.w),some p.2] U=.ok (.bl true) U:=aj rfl (Ea h1 U);have ih:=uu U ps h2 (some (.str p.1.w)) (some p.2) (acc++[.bl true]);rw[VW,VW];show(noX (QK [some (.str p.1.w),some p.2] U)).bind _=_;rw[e];show aA Ti fh QK _ [some (.str p.1.w),some p.2] U (acc++[.bl true])=_;rw[ih,VU,Wf]
theorem zm:∀ps:List (Kd×D),blsOf (ps.map fun _=>.bl true)=some (ps.map fun _=>true)
 |[]=>rfl
 |p::ps=>by
  rw[VW,VW];unfold blsOf;rw[zm ps];rfl
theorem gE (ps:List (Kd×D)) (hp:∀p∈ps,gA p.1 p.2) (hl:ps.length<=16777216) (hz:mZip true true (a4 1) (mSl (a4 0) (mPart (mC (.int 1))) mNoP) ρ U=.ok (ps.map fun p=>.tup [.str p.1.w,p.2]) U) :
  ag (mIte (mNot (mTru (mCallB B5 (a5 (b7 2 [] Ti (mZip true true (a4 1) (mSl (a4 0) (mPart (mC (.int 1))) mNoP)) fh QK) mNil)))) (av (mC (.bl false))) mSkip) r ρ U=r ρ U:=by
 have e1:b7 2 [] Ti (mZip true true (a4 1) (mSl (a4 0) (mPart (mC (.int 1))) mNoP)) fh QK ρ U=.ok (.lst (ps.map fun _=>.bl true)) U:=by
  unfold b7;rw[hz,ae,VJ (by rw[VS];exact hl)];show(aA Ti fh QK _ [none,none] U []).bind _=_;rw[uu U ps hp];rfl
 refine a8 (qa (k:=true) (gX (d:=.bl true) (bh (a7 e1 am) ?_) rfl));show(blsOf (ps.map fun _=>.bl true)).map _=_;rw[zm];simp
theorem Pi (ha:gA .size a) (hb:gA .base b) (hc:gA .num c) (U:Mu):aK [.tup [.str eP,a,b,c]] U=.ok (.bl true) U :=
 aP 1 ((a8 rfl).trans ((a8 rfl).trans ((ar 1 rfl).trans ((a8 rfl).trans ((gE [(.size,a),(.base,b),(.num,c)] (List.forall_mem_cons.mpr ⟨ha,List.forall_mem_cons.mpr ⟨hb,List.forall_mem_cons.mpr ⟨hc,fun _ z=>nomatch z⟩⟩⟩) (show 3<=16777216 by decide) rfl).trans (rfl))))))
theorem Si (U:Mu):aK [.tup [.str dX]] U=.ok (.bl true) U :=
 aP 1 ((a8 rfl).trans ((a8 rfl).trans ((ar 1 rfl).trans ((a8 rfl).trans ((gE [] (fun _ z=>nomatch z) (show 0<=16777216 by decide) rfl).trans (rfl))))))
theorem Sg (ha:gA .num a) (U:Mu):aK [.tup [.str eI,a]] U=.ok (.bl true) U :=
 aP 1 ((a8 rfl).trans ((a8 rfl).trans ((ar 1 rfl).trans ((a8 rfl).trans ((gE [(.num,a)] (List.forall_mem_cons.mpr ⟨ha,fun _ z=>nomatch z⟩) (show 1<=16777216 by decide) rfl).trans (rfl))))))
theorem Pe (ha:gA .num a) (U:Mu):aK [.tup [.str du,a]] U=.ok (.bl true) U :=
 aP 1 ((a8 rfl).trans ((a8 rfl).trans ((ar 1 rfl).trans ((a8 rfl).trans ((gE [(.num,a)] (List.forall_mem_cons.mpr ⟨ha,fun _ z=>nomatch z⟩) (show 1<=16777216 by decide) rfl).trans (rfl))))))
theorem Sf (U:Mu):aK [.tup [.str fH]] U=.ok (.bl true) U :=
 aP 1 ((a8 rfl).trans ((a8 rfl).trans ((ar 1 rfl).trans ((a8 rfl).trans ((gE [] (fun _ z=>nomatch z) (show 0<=16777216 by decide) rfl).trans (rfl))))))
theorem Se (U:Mu):aK [.tup [.str dW]] U=.ok (.bl true) U :=
 aP 1 ((a8 rfl).trans ((a8 rfl).trans ((ar 1 rfl).trans ((a8 rfl).trans ((gE [] (fun _ z=>nomatch z) (show 0<=16777216 by decide) rfl).trans (rfl))))))
theorem Pj (ha:gA .slot a) (U:Mu):aK [.tup [.str ba,a]] U=.ok (.bl true) U :=
 aP 1 ((a8 rfl).trans ((a8 rfl).trans ((ar 1 rfl).trans ((a8 rfl).trans ((gE [(.slot,a)] (List.forall_mem_cons.mpr ⟨ha,fun _ z=>nomatch z⟩) (show 1<=16777216 by decide) rfl).trans (rfl))))))
theorem L8 (ha:gA .slot a) (U:Mu):aK [.tup [.str bf,a]] U=.ok (.bl true) U :=
 aP 1 ((a8 rfl).trans ((a8 rfl).trans ((ar 1 rfl).trans ((a8 rfl).trans ((gE [(.slot,a)] (List.forall_mem_cons.mpr ⟨ha,fun _ z=>nomatch z⟩) (show 1<=16777216 by decide) rfl).trans (rfl))))))
theorem Sk (ha:gA .op a) (U:Mu):aK [.tup [.str jg,a]] U=.ok (.bl true) U :=
 aP 1 ((a8 rfl).trans ((a8 rfl).trans ((ar 1 rfl).trans ((a8 rfl).trans ((gE [(.op,a)] (List.forall_mem_cons.mpr ⟨ha,fun _ z=>nomatch z⟩) (show 1<=16777216 by decide) rfl).trans (rfl))))))
theorem Pl (ha:gA .dist a) (U:Mu):aK [.tup [.str bA,a]] U=.ok (.bl true) U :=
 aP 1 ((a8 rfl).trans ((a8 rfl).trans ((ar 1 rfl).trans ((a8 rfl).trans ((gE [(.dist,a)] (List.forall_mem_cons.mpr ⟨ha,fun _ z=>nomatch z⟩) (show 1<=16777216 by decide) rfl).trans (rfl))))))
theorem UE (ha:gA .test a) (hb:gA .num b) (hc:gA .dist c) (hd:gA .dist d) (U:Mu):aK [.tup [.str fR,a,b,c,d]] U=.ok (.bl true) U :=
 aP 1 ((a8 rfl).trans ((a8 rfl).trans ((ar 1 rfl).trans ((a8 rfl).trans ((gE [(.test,a),(.num,b),(.dist,c),(.dist,d)] (List.forall_mem_cons.mpr ⟨ha,List.forall_mem_cons.mpr ⟨hb,List.forall_mem_cons.mpr ⟨hc,List.forall_mem_cons.mpr ⟨hd,fun _ z=>nomatch z⟩⟩⟩⟩) (show 4<=16777216 by decide) rfl).trans (rfl))))))
theorem Sj (ha:gA .test a) (hb:gA .dist b) (hc:gA .dist c) (U:Mu):aK [.tup [.str dw,a,b,c]] U=.ok (.bl true) U :=
 aP 1 ((a8 rfl).trans ((a8 rfl).trans ((ar 1 rfl).trans ((a8 rfl).trans ((gE [(.test,a),(.dist,b),(.dist,c)] (List.forall_mem_cons.mpr ⟨ha,List.forall_mem_cons.mpr ⟨hb,List.forall_mem_cons.mpr ⟨hc,fun _ z=>nomatch z⟩⟩⟩) (show 3<=16777216 by decide) rfl).trans (rfl))))))
theorem Pd (ha:gA .num a) (U:Mu):aK [.tup [.str bE,a]] U=.ok (.bl true) U :=
 aP 1 ((a8 rfl).trans ((a8 rfl).trans ((ar 1 rfl).trans ((a8 rfl).trans ((gE [(.num,a)] (List.forall_mem_cons.mpr ⟨ha,fun _ z=>nomatch z⟩) (show 1<=16777216 by decide) rfl).trans (rfl))))))
theorem KZ (U:Mu):aK [.tup [.str be]] U=.ok (.bl true) U :=
 aP 1 ((a8 rfl).trans ((a8 rfl).trans ((ar 1 rfl).trans ((a8 rfl).trans ((gE [] (fun _ z=>nomatch z) (show 0<=16777216 by decide) rfl).trans (rfl))))))
theorem UF (ha:gA .op a) (hb:gA .num b) (U:Mu) (hc:bH [a,b] U=.ok (.bl true) U):aK [.tup [.str lL,a,b]] U=.ok (.bl true) U :=
 aP 1 ((a8 rfl).trans ((a8 rfl).trans ((ar 1 rfl).trans ((a8 rfl).trans ((gE [(.op,a),(.num,b)] (List.forall_mem_cons.mpr ⟨ha,List.forall_mem_cons.mpr ⟨hb,fun _ z=>nomatch z⟩⟩) (show 2<=16777216 by decide) rfl).trans (bv ((G6 rfl).trans (aj rfl hc))))))))
theorem QJ (hx:x∈xR) (h:x∈[aI,aM,aH,aD]->1<=k/\k<32) (U:Mu):bH [.str x,.int k] U=.ok (.bl true) U:=by
 have n0:1<=k->(!(k==0))=true:=fun z=>by
  have:(k==0)=false:=by rw[WJ];omega
  rw[this];rfl
 revert hx h;revert x;intro x hx;refine qI (P:=fun x=>(x∈[aI,aM,aH,aD]->1<=k/\k<32)->bH [.str x,.int k] U=.ok (.bl true) U) ⟨fun _=>rfl,fun _=>rfl,fun _=>rfl,fun h=>?_,fun h=>?_,fun _=>rfl,fun _=>rfl,fun _=>rfl,fun h=>?_,fun h=>?_⟩ x hx
 ·have:=n0 (h (by decide)).1;refine(aP 0 (aN rfl (ac rfl rfl rfl))).trans ?_;show Res.ok (D.bl (!(k==0))) U=_;rw[this]
 ·have:=n0 (h (by decide)).1;refine(aP 0 (aN rfl (ac rfl rfl rfl))).trans ?_;show Res.ok (D.bl (!(k==0))) U=_;rw[this]
 ·have:=VX (h (by decide)).2;refine(aP 0 ((a8 rfl).trans (aN rfl (ac rfl rfl rfl)))).trans ?_;show Res.ok (D.bl (decide (k<32))) U=_;rw[this]
 ·have:=VX (h (by decide)).2;refine(aP 0 ((a8 rfl).trans (aN rfl (ac rfl rfl rfl)))).trans ?_;show Res.ok (D.bl (decide (k<32))) U=_;rw[this]
inductive Vw|tl|jp (n:Nat)|br (n m:Nat)|kp (s:Nat)|ft (s:Nat)|ot
def Vw.goals:Vw->Nat->Zu
 |.tl,_=>[]
 |.jp n,p=>[p+1+n]
 |.br n m,p=>[p+1+n,p+1+m]
 |_,p=>[p+1]
def Vw.lacks (bs:ZD):Vw->Bool
 |.ft s=> !(bs.getD s false)
 |_=>false
def Vw.behind (bs:ZD):Vw->ZD
 |.kp s=>bs.set s true
 |_=>bs
def Vw.isF:Vw->Bool
 |.ft _=>true
 |_=>false
def Vw.isK (k:Nat):Vw->Bool
 |.kp s=>s==k
 |_=>false
def Vw.ok:Vw->Prop
 |.ft s=>s<8
 |.kp s=>s<8
 |_=>True
def gI (l:Zu):D:=.lst (l.map fun(g:Nat)=>.int g)
def bI (l:ZD):D:=.lst (l.map .bl)
inductive Sh:D->Vw->Prop
 |load {a b c:D}:gA .size a->gA .base b->gA .num c->Sh (.tup [.str eP,a,b,c]) .ot
 |len:Sh (.tup [.str dX]) .ot
 |tax:Sh (.tup [.str fH]) .ot
 |txa:Sh (.tup [.str dW]) .ot
 |tella:Sh (.tup [.str be]) .tl
 |set {a:D}:gA .num a->Sh (.tup [.str eI,a]) .ot
 |setx {a:D}:gA .num a->Sh (.tup [.str du,a]) .ot
 |keep {s:Nat}:s<8->Sh (.tup [.str ba,.int s]) (.kp s)
 |fetch {s:Nat}:s<8->Sh (.tup [.str bf,.int s]) (.ft s)
 |do_ {x:Zu}{k:Int}:x∈xR->0<=k->k<4294967296->(x∈[aI,aM,aH,aD]->1<=k/\k<32)->Sh (.tup [.str lL,.str x,.int k]) .ot
 |dox {a:D}:gA .op a->Sh (.tup [.str jg,a]) .ot
 |jump {n:Nat}:n<=2000->Sh (.tup [.str bA,.int n]) (.jp n)
 |if_ {a b:D}{n m:Nat}:gA .test a->gA .num b->n<=2000->m<=2000->Sh (.tup [.str fR,a,b,.int n,.int m]) (.br n m)
 |ifx {a:D}{n m:Nat}:gA .test a->n<=2000->m<=2000->Sh (.tup [.str dw,a,.int n,.int m]) (.br n m)
 |tell {a:D}:gA .num a->Sh (.tup [.str bE,a]) .tl
theorem mL {n:Nat}(h:n<=2000):gA .dist (.int n):=.dist (by omega) (by omega)
theorem BB {n:Nat}(h:n<8):gA .slot (.int n):=.slot (by omega) (by omega)
theorem aX (h:gA k d):au d=true/\kl d=0:=by
 cases h with
 |base hx=>exact⟨Bl (P:=fun x=>au (.str x)=true) ⟨by decide,by decide⟩ _ hx,rfl⟩
 |op hx=>exact⟨qI (P:=fun x=>au (.str x)=true) ⟨by decide,by decide,by decide,by decide,by decide,by decide,by decide,by decide,by decide,by decide⟩ _ hx,rfl⟩
 |test hx=>exact⟨A5 (P:=fun x=>au (.str x)=true) ⟨by decide,by decide,by decide,by decide⟩ _ hx,rfl⟩
 |_=>exact⟨rfl,rfl⟩
theorem xx (h:Sh d v):au d=true/\kl d<=1:=by
 cases h with
 |load h1 h2 h3=>exact⟨by simp[au,plainDs,(aX h1).1,(aX h2).1,(aX h3).1];decide,by simp[kl,dpts,(aX h1).2,(aX h2).2,(aX h3).2]⟩
 |set h1=>exact⟨by simp[au,plainDs,(aX h1).1];decide,by simp[kl,dpts,(aX h1).2]⟩
 |setx h1=>exact⟨by simp[au,plainDs,(aX h1).1];decide,by simp[kl,dpts,(aX h1).2]⟩
 |dox h1=>exact⟨by simp[au,plainDs,(aX h1).1];decide,by simp[kl,dpts,(aX h1).2]⟩
 |tell h1=>exact⟨by simp[au,plainDs,(aX h1).1];decide,by simp[kl,dpts,(aX h1).2]⟩
 |if_ h1 h2 _ _=>exact⟨by simp[au,plainDs,(aX h1).1,(aX h2).1];decide,by simp[kl,dpts,(aX h1).2,(aX h2).2]⟩
 |ifx h1 _ _=>exact⟨by simp[au,plainDs,(aX h1).1];decide,by simp[kl,dpts,(aX h1).2]⟩
 |do_ hx _ _ _=>exact⟨by have:=(aX (.op hx)).1;simp only[au] at this;simp only[au,plainDs,this];decide,by simp[kl,dpts]⟩
 |_=>exact⟨by simp[au,plainDs];decide,by simp[kl,dpts]⟩
theorem Kt {d:D}(h:Sh d v) (U:Mu):aK [d] U=.ok (.bl true) U:=by
 cases h with
 |load h1 h2 h3=>exact Pi h1 h2 h3 U
 |len=>exact Si U
 |tax=>exact Sf U
 |txa=>exact Se U
 |tella=>exact KZ U
 |set h=>exact Sg h U
 |setx h=>exact Pe h U
 |keep h=>exact Pj (BB h) U
 |fetch h=>exact L8 (BB h) U
 |do_ hx h1 h2 h3=>exact UF (.op hx) (.num h1 h2) U (QJ hx h3 U)
 |dox h=>exact Sk h U
 |jump h=>exact Pl (mL h) U
 |if_ h1 h2 h3 h4=>exact UE h1 h2 (mL h3) (mL h4) U
 |ifx h1 h2 h3=>exact Sj h1 (mL h2) (mL h3) U
 |tell h=>exact Pd h U
theorem N4 (h:Sh d v) (p:Nat) (U:Mu):bQ [.int p,d] U=.ok (gI (v.goals p)) U:=by
 cases h<;>rfl
theorem kX (h:Sh d v) (p:Nat) (U:Mu):dm [d,.int p] U=.ok (gI (v.goals p)) U:=by
 cases h<;>rfl
theorem N5 (h:Sh d v):v.ok:=by
 cases h with
 |keep h=>exact h
 |fetch h=>exact h
 |_=>exact True.intro
theorem OK (h:Sh d v):∃x,gIdx d (.int 0)=some (.str x)/\bB (.str x) (.str bf)=some (.bl v.isF)/\∀s,v=.ft s->gIdx d (.int 1)=some (.int s):=by
 cases h with
 |fetch h=>exact⟨_,rfl,rfl,fun s e=>by cases e;rfl⟩
 |_=>exact⟨_,rfl,rfl,fun s e=>by cases e⟩
theorem zR (h:m ρ U=.ok (.bl k) U1):mNotV m ρ U=.ok (.bl (!k)) U1:=by unfold mNotV;rw[h];rfl
theorem Tp {bs:ZD}(h:s<bs.length):gIdx (bI bs) (.int s)=some (.bl (bs.getD s false)):=by
 show atI (bs.map D.bl) (s:Int)=_;rw[jb (by omega),X5,Wk,VI h,W7,VI h];rfl
theorem RM (h:Sh d v) (k:Nat):kQ d (.tup [.str ba,.int k])=some (.bl (!v.isK k)):=by
 obtain⟨h1,h2⟩:=xx h;have e0:iS d (.tup [.str ba,.int k])=true:=by
  unfold iS;rw[h1,show au (.tup [.str ba,.int k])=true by simp[au,plainDs];decide,VX (Wh (Nat.min_le_left _ _) (by omega))];rfl
 unfold kQ;rw[VJ e0];have e1:eqD d (.tup [.str ba,.int k])=v.isK k:=by
  cases h with
  | @keep s h =>
   show(((s:Int)==(k:Int))&&true)=(s==k);rw[Bool.and_true];by_cases z:s=k
   ·subst z;simp
   ·have:((s:Int)==(k:Int))=false:=by rw[WJ];omega
    rw[this];exact(beq_eq_false_iff_ne.mpr z).symm
  |_=>rfl
 rw[e1]
theorem RL {d:D}{v:Vw}(h:Sh d v) (hb:bs.length=8) (U:Mu):cu [d,bI bs] U=.ok (.bl (v.lacks bs)) U:=by
 cases h with
 |fetch h=>exact aP 0 (bv ((gZ rfl).trans (zR (ac rfl rfl (Tp (by omega))))))
 |_=>exact aP 0 (bv (uH rfl))
def kb (s:Nat):Nat->ZD->ZD
 |_,[]=>[]
 |i,b::r=>(b||i==s)::kb s (i+1) r
theorem Nr :∀(i:Nat) (bs:ZD),s<i->kb s i bs=bs
 |_,[],_=>rfl
 |i,b::r,h=>by
  unfold kb;rw[Nr (i+1) r (by omega),show(i==s)=false from beq_eq_false_iff_ne.mpr (by omega),Ym]
theorem IM :∀(i:Nat) (bs:ZD),i<=s->kb s i bs=bs.set (s-i) true
 |_,[],_=>rfl
 |i,b::r,h=>by
  unfold kb;by_cases z:i=s
  ·subst z;rw[Nr (i+1) r (by omega),Wm,WN];simp
  ·rw[IM (i+1) r (by omega),show(i==s)=false from beq_eq_false_iff_ne.mpr z,Ym,show s-i=(s-(i+1))+1 by omega,WO]
abbrev Nu:MG:=gTupT (cr (gN 0) (cr (gN 1) gsNil))
abbrev R8:MX:=mOrV (a4 1) (a6 bB (a4 0) (a6 gIdx (a4 2) (mC (.int 1))))
theorem Ta (i s:Nat):bB (.int i) (.int s)=some (.bl (i==s)):=by
 show some (D.bl ((i:Int)==(s:Int)))=_;by_cases z:i=s
 ·subst z;simp
 ·have:((i:Int)==(s:Int))=false:=by rw[WJ];omega
  rw[this,beq_eq_false_iff_ne.mpr z]
theorem Cr (s:Nat) (U:Mu):∀(bs:ZD) (i:Nat) (a b:ZF) (acc:ZE),aA Nu fh R8 (dG i (bs.map .bl)) [a,b,some (.tup [.str ba,.int s])] U acc=.ok (acc++(kb s i bs).map .bl) U
 |[],_,_,_,acc=>by simp[aA,dG,kb]
 |b::r,i,a,b',acc=>by
  have e:R8 [some (.int i),some (.bl b),some (.tup [.str ba,.int s])] U=.ok (.bl (b||i==s)) U:=Od rfl (ac rfl rfl (Ta i s));have ih:=Cr s U r (i+1) (some (.int i)) (some (.bl b)) (acc++[.bl (b||i==s)]);rw[VW];unfold dG;show(noX (R8 [some (.int i),some (.bl b),some (.tup [.str ba,.int s])] U)).bind _=_;rw[e];show aA Nu fh R8 _ [some (.int i),some (.bl b),some (.tup [.str ba,.int s])] U (acc++[.bl (b||i==s)])=_;rw[ih,VU,Wf];rfl
theorem RN (h:Sh d v) (hb:bs.length=8) (U:Mu):d7 [d,bI bs] U=.ok (bI (v.behind bs)) U:=by
 cases h with
 | @keep s h =>
  refine aP 0 ((a8 rfl).trans (bv ?_));have e0:mEnum (a4 1) [some (.tup [.str ba,.int s]),some (bI bs)] U=.ok (dG 0 (bs.map .bl)) U:=rfl;show b7 2 [0] Nu (mEnum (a4 1)) fh R8 [some (.tup [.str ba,.int s]),some (bI bs)] U=_;unfold b7;rw[e0,ae,VJ (by rw[o6,VS,hb];decide)];show(aA Nu fh R8 _ [none,none,some (.tup [.str ba,.int s])] U []).bind _=_;rw[Cr s U bs 0,IM 0 bs (WK _)];rfl
 |_=>exact aP 0 (aN rfl rfl)
theorem sI {v:Vw} :(v.behind bs).length=bs.length:=by
 cases v<;>simp[Vw.behind]
def ins (L:Zu) (g:Nat):Zu:=if g∈L then L else L++[g]
theorem LD :q∈ins L g↔q∈L\/q=g:=by
 unfold ins;split
 ·rename_i h;constructor
  ·exact .inl
  ·rintro (h'|rfl)
   ·exact h'
   ·exact h
 ·simp
theorem cJ :∀{gs L:Zu},q∈gs.foldl ins L↔q∈L\/q∈gs
 |[],L=>by simp
 |g::gs,L=>by
  rw[XS,cJ,LD,Wd];constructor
  ·rintro ((h|h)|h)
   ·exact .inl h
   ·exact .inr (.inl h)
   ·exact .inr (.inr h)
  ·rintro (h|h|h)
   ·exact .inl (.inl h)
   ·exact .inl (.inr h)
   ·exact .inr h
theorem pf :(ins L g).length<=L.length+1:=by
 unfold ins;split<;>simp
theorem mr:∀{gs L:Zu},(gs.foldl ins L).length<=L.length+gs.length
 |[],L=>by simp
 |g::gs,L=>by
  rw[XS,W1];have:=@mr gs (ins L g);have:=@pf L g;omega
theorem d8 (v:Vw) (p:Nat):(v.goals p).length<=2:=by cases v<;>simp[Vw.goals]
theorem iJ {v:Vw}(h:g∈v.goals p):p<g:=by
 cases v<;>simp[Vw.goals] at h<;>omega
def Tl (f:Nat->Vw):Nat->Zu
 |0=>[0]
 |p+1=>if p∈Tl f p then((f p).goals p).foldl ins (Tl f p) else Tl f p
def Ul (f:Nat->Vw) (k:Nat):Nat->Zu
 |0=>[0]
 |p+1=>if p∈Ul f k p/\(f p).isK k=false then((f p).goals p).foldl ins (Ul f k p) else Ul f k p
theorem nB :q∈Tl f (p+1)↔q∈Tl f p\/(p∈Tl f p/\q∈(f p).goals p):=by
 rw[Tl];split
 ·rename_i h;rw[cJ];simp[h]
 ·rename_i h;simp[h]
theorem j1 :q∈Ul f k (p+1)↔q∈Ul f k p\/((p∈Ul f k p/\(f p).isK k=false)/\q∈(f p).goals p):=by
 rw[Ul];split
 ·rename_i h;rw[cJ];simp[h]
 ·rename_i h;constructor
  ·exact .inl
  ·rintro (h'|⟨h',_⟩)
   ·exact h'
   ·exact absurd h' h
theorem JS (f:Nat->Vw):∀p,(Tl f p).length<=1+2*p
 |0=>by simp[Tl]
 |p+1=>by
  rw[Tl];have:=JS f p;split
  ·have:=@mr ((f p).goals p) (Tl f p);have:=d8 (f p) p;omega
  ·omega
theorem JR (f:Nat->Vw) (k:Nat):∀p,(Ul f k p).length<=1+2*p
 |0=>by simp[Ul]
 |p+1=>by
  rw[Ul];have:=JR f k p;split
  ·have:=@mr ((f p).goals p) (Ul f k p);have:=d8 (f p) p;omega
  ·omega
theorem NU :∀m,q∈Tl f (q+m)↔q∈Tl f q
 |0=>Iff.rfl
 |m+1=>by
  rw[←Nat.add_assoc,nB,NU m];constructor
  ·rintro (h|⟨_,h⟩)
   ·exact h
   ·have:=iJ h;omega
  ·exact .inl
theorem NR :∀m,q∈Ul f k (q+m)↔q∈Ul f k q
 |0=>Iff.rfl
 |m+1=>by
  rw[←Nat.add_assoc,j1,NR m];constructor
  ·rintro (h|⟨_,h⟩)
   ·exact h
   ·have:=iJ h;omega
  ·exact .inl
theorem zB :∀{p q:Nat},q∈Ul f k p->q∈Tl f p
 |0,q,h=>h
 |p+1,q,h=>by
  rw[j1] at h;rw[nB];rcases h with h|⟨⟨h,_⟩,h'⟩
  ·exact .inl (zB h)
  ·exact .inr ⟨zB h,h'⟩
def noSlot (f:Nat->Vw) (p:Nat):Vw->Bool
 |.ft s=>decide (p∈Tl f p)&&decide (p∈Ul f s p)
 |_=>false
def fl (f:Nat->Vw) (n p:Nat):Bool:=noSlot f p (f p)||((f p).goals p).any fun g=>decide (n<=g)
theorem fA (U:Mu) (xs:ZE):ai (U++[.lst xs]) (.ref U.length)=.lst xs:=by
 simp only[ai,VQ (VL _),Wm,List.getElem?_cons_zero]
theorem zd (ν:Mu):ai (U++[.lst xs]++ν) (.ref U.length)=.lst xs:=by
 have:(U++[.lst xs]++ν)[U.length]? =some (.lst xs):=by
  rw[VU,VQ (VL _),Wm];rfl
 simp only[ai,this]
theorem gC (h:ai U c=.lst xs) (ν:Mu):ai (U++ν) c=.lst xs:=by
 cases c with
 |ref k =>
  simp only[ai] at h ⊢;cases e:U[k]? with
  |none=>rw[e] at h;cases h
  |some z =>
   have hk:k<U.length:=(List.getElem?_eq_some_iff.mp e).1;rw[Wv hk,e];rw[e] at h;exact h
 |_=>exact h
theorem iz (U:Mu) (x y:Cell):(U++[x]).set U.length y=U++[y]:=by
 rw[WH _ _ (VL _),Wm];rfl
def iL (L:Zu):ZE:=L.map fun(g:Nat)=>D.int g
theorem qB:∀L:Zu,plainDs (iL L)=true
 |[]=>rfl
 |g::L=>by
  show(au (D.int g)&&plainDs (iL L))=true;rw[qB L];rfl
theorem B1 (g:Nat):∀L:Zu,inD (.int g) (iL L)=decide (g∈L)
 |[]=>rfl
 |h::L=>by
  show(((h:Int)==(g:Int))||inD (.int g) (iL L))=_;rw[B1 g L];by_cases z:h=g
  ·subst z;simp
  ·have:((h:Int)==(g:Int))=false:=by rw[WJ];omega
   rw[this,XQ];have:g≠h:=fun q=>z q.symm
   simp[this]
theorem CD (g:Nat) (L:Zu):ek (.int g) (.lst (iL L))=some (.bl (decide (g∈L))):=by
 show(if inOk (.int g) (iL L) then some (D.bl (inD (.int g) (iL L))) else none)=_;rw[VJ (by unfold inOk;rw[qB];rfl),B1]
theorem HP (g:Nat) (L:Zu):fy (.int g) (.lst (iL L))=some (.bl (!decide (g∈L))):=by
 show(if inOk (.int g) (iL L) then some (D.bl (!inD (.int g) (iL L))) else none)=_;rw[VJ (by unfold inOk;rw[qB];rfl),B1]
theorem la (h:n (ρ.set i (some d)) U=.ok (.nx ρ1) U1):forGo (gN i) n (d::ds) ρ U=forGo (gN i) n ds ρ1 U1:=Of i h
theorem MQ (ho:mo ρ (U0++[.lst L])=.ok (.ref U0.length) (U0++[.lst L])) (hm:m ρ (U0++[.lst L])=.ok y (U0++[.lst L])) (hl:L.length<16777216):mAppend mo m ρ (U0++[.lst L])=.ok .non (U0++[.lst (L++[y])]):=by
 unfold mAppend;rw[ho,ae,fA,VJ (show Cz (.lst L)=true from rfl),hm,ae];unfold JL;have:(U0++[Cell.lst L])[U0.length]? =some (.lst L):=by rw[VQ (VL _),Wm];rfl
 dsimp only;rw[this];dsimp only;rw[VJ hl,iz]
theorem fj (h:m ρ U=.ok d U1):mDrop m ρ U=.ok (.nx ρ) U1:=by unfold mDrop;rw[h];rfl
theorem MU :∀(gs L:Zu) (x3:ZF),L.length+gs.length<16777216->∃y3,forGo (gN 3) nJ (iL gs) [some c,some (.ref U0.length),x2,x3] (U0++[.lst (iL L)])=.ok (.nx [some c,some (.ref U0.length),x2,y3]) (U0++[.lst (iL (gs.foldl ins L))])
 |[],L,x3,_=>⟨x3,rfl⟩
 |g::gs,L,x3,hl=>by
  rw[W1] at hl;have hl':(ins L g).length+gs.length<16777216:=by have:=@pf L g;omega
  obtain⟨y3,ih⟩:=MU (U0:=U0) (c:=c) (x2:=x2) gs (ins L g) (some (.int g)) hl';refine⟨y3,Wx (la ?_) ih⟩;have ht:a9 (a6 fy (a4 3) (a4 1)) [some c,some (.ref U0.length),x2,some (.int g)] (U0++[.lst (iL L)])=.ok (!decide (g∈L)) (U0++[.lst (iL L)]):=aC (ac rfl rfl (by rw[fA];exact HP g L));show nJ [some c,some (.ref U0.length),x2,some (.int g)] (U0++[.lst (iL L)])=_;unfold ins;split
  ·rename_i h;rw[VX h] at ht;exact aT ht
  ·rename_i h;rw[VY h] at ht;refine(bw ht).trans ((fj (MQ (y:=.int g) rfl rfl (by rw[iL,VS];omega))).trans ?_);rw[show iL L++[D.int g]=iL (L++[g]) by simp[iL]]
theorem MR :∀(gs L:Zu) (x4:ZF),L.length+gs.length<16777216->∃y4,forGo (gN 4) nH (iL gs) [some c,x1,some (.ref U0.length),x3,x4] (U0++[.lst (iL L)])=.ok (.nx [some c,x1,some (.ref U0.length),x3,y4]) (U0++[.lst (iL (gs.foldl ins L))])
 |[],L,x4,_=>⟨x4,rfl⟩
 |g::gs,L,x4,hl=>by
  rw[W1] at hl;have hl':(ins L g).length+gs.length<16777216:=by have:=@pf L g;omega
  obtain⟨y4,ih⟩:=MR (U0:=U0) (c:=c) (x1:=x1) (x3:=x3) gs (ins L g) (some (.int g)) hl';refine⟨y4,Wx (la ?_) ih⟩;have ht:a9 (a6 fy (a4 4) (a4 2)) [some c,x1,some (.ref U0.length),x3,some (.int g)] (U0++[.lst (iL L)])=.ok (!decide (g∈L)) (U0++[.lst (iL L)]):=aC (ac rfl rfl (by rw[fA];exact HP g L));show nH [some c,x1,some (.ref U0.length),x3,some (.int g)] (U0++[.lst (iL L)])=_;unfold ins;split
  ·rename_i h;rw[VX h] at ht;exact aT ht
  ·rename_i h;rw[VY h] at ht;refine(bw ht).trans ((fj (MQ (y:=.int g) rfl rfl (by rw[iL,VS];omega))).trans ?_);rw[show iL L++[D.int g]=iL (L++[g]) by simp[iL]]
def Code (ds:ZE) (f:Nat->Vw):Prop:=∀(i:Nat) (d:D),ds[i]? =some d->Sh d (f i)
theorem fI (h:it ρ U=.ok ds U1):mFor tg it n ρ U=forGo tg n ds ρ U1:=by rw[yZ,h];rfl
theorem iU (h:m ρ U=.ok (.lst ds) U1):mOverL m ρ U=.ok ds U1:=by rw[mG,h];rfl
theorem gY (h:m ρ U=.ok (.int n) U) (hn:n<1000000):mRange1 m ρ U=.ok (iL (List.range' 0 n)) U:=by
 rw[kf,h,ae,iN];unfold gz;dsimp only;rw[VJ (by constructor<;>omega),X5,iG];unfold rangeD;rw[List.range_eq_range'];rfl
theorem jC (h:Sh d v) (U:Mu):ai U d=d:=by cases h<;>rfl
theorem gy {ds:ZE}{p:Nat}(h:ds[p]? =some d):gIdx (.lst ds) (.int p)=some d:=by
 show atI ds (p:Int)=_;rw[jb (by omega),X5,h]
theorem gh (p m:Nat):iL (List.range' p (m+1))=D.int p::iL (List.range' (p+1) m):=by rw[Xd];rfl
section
variable {c:D}{ds:ZE}{f:Nat->Vw}{U0:Mu}
theorem Gg (hc:Code ds f) (hd:ai U0 c=.lst ds) (hn:ds.length<1000):∀(m p:Nat) (x2 x3:ZF),p+m=ds.length->∃y2 y3,
  forGo (gN 2) nI (iL (List.range' p m)) [some c,some (.ref U0.length),x2,x3] (U0++[.lst (iL (Tl f p))])=.ok (.nx [some c,some (.ref U0.length),y2,y3]) (U0++[.lst (iL (Tl f (p+m)))])
 |0,p,x2,x3,_=>⟨x2,x3,rfl⟩
 |m+1,p,x2,x3,hm=>by
  have hp:p<ds.length:=by omega
  have hs:=hc p _ (VI hp);have ht:a9 (a6 ek (a4 2) (a4 1)) [some c,some (.ref U0.length),some (.int p),x3] (U0++[.lst (iL (Tl f p))])=.ok (decide (p∈Tl f p)) (U0++[.lst (iL (Tl f p))]):=aC (ac rfl rfl (by rw[fA];exact CD p _));have key:∃z3,nI [some c,some (.ref U0.length),some (.int p),x3] (U0++[.lst (iL (Tl f p))])=.ok (.nx [some c,some (.ref U0.length),some (.int p),z3]) (U0++[.lst (iL (Tl f (p+1)))]):=by
   rw[Tl];split
   ·rename_i h;rw[VX h] at ht;obtain⟨z3,e⟩:=MU (U0:=U0) (c:=c) (x2:=some (.int p)) ((f p).goals p) (Tl f p) x3 (by have:=JS f p;have:=d8 (f p) p;omega);refine⟨z3,(bw ht).trans ((fI (iU (aj (a7 (ac rfl rfl ?_) (a7 rfl am)) (kX hs p _)))).trans e)⟩;rw[gC hd];exact gy (VI hp)
   ·rename_i h;rw[VY h] at ht;exact⟨x3,aT ht⟩
  obtain⟨z3,e⟩:=key;obtain⟨y2,y3,ih⟩:=Gg hc hd hn m (p+1) (some (.int p)) z3 (by omega);refine⟨y2,y3,?_⟩;rw[gh,show p+(m+1)=p+1+m by omega];exact(la e).trans ih
theorem Gf (hc:Code ds f) (hd:ai U0 c=.lst ds) (hn:ds.length<1000):pB [c] U0=.ok (.ref U0.length) (U0++[.lst (iL (Tl f ds.length))]):=by
 obtain⟨y2,y3,e⟩:=Gg hc hd hn ds.length 0 none none (by omega);rw[Nat.zero_add] at e;refine aP 3 ((ar 1 (d:=.ref U0.length) (U1:=U0++[.lst [.int 0]]) rfl).trans ((b8 ((fI (gY (bh (a7 rfl am) ?_) (by omega))).trans e)).trans (bv rfl)));rw[VW,gC hd];rfl
theorem Gb {k:Nat}(hc:Code ds f) (hd:ai U0 c=.lst ds) (hn:ds.length<1000):∀(m p:Nat) (x3 x4:ZF),p+m=ds.length->∃y3 y4,
  forGo (gN 3) nG (iL (List.range' p m)) [some c,some (.int k),some (.ref U0.length),x3,x4] (U0++[.lst (iL (Ul f k p))])=.ok (.nx [some c,some (.int k),some (.ref U0.length),y3,y4]) (U0++[.lst (iL (Ul f k (p+m)))])
 |0,p,x3,x4,_=>⟨x3,x4,rfl⟩
 |m+1,p,x3,x4,hm=>by
  have hp:p<ds.length:=by omega
  have hs:=hc p _ (VI hp);have ht:a9 (a6 ek (a4 3) (a4 2)) [some c,some (.int k),some (.ref U0.length),some (.int p),x4] (U0++[.lst (iL (Ul f k p))])=.ok (decide (p∈Ul f k p)) (U0++[.lst (iL (Ul f k p))]):=aC (ac rfl rfl (by rw[fA];exact CD p _));have hi:a6 gIdx (a4 0) (a4 3) [some c,some (.int k),some (.ref U0.length),some (.int p),x4] (U0++[.lst (iL (Ul f k p))])=.ok ds[p] (U0++[.lst (iL (Ul f k p))]):=ac rfl rfl (by rw[gC hd];exact gy (VI hp));have hpl:ai (U0++[.lst (iL (Ul f k p))]) ds[p]=ds[p]:=jC hs _;have hk:a9 (a6 kQ (a6 gIdx (a4 0) (a4 3)) (mTup (a5 (mC (.str ba)) (a5 (a4 1) mNil)))) [some c,some (.int k),some (.ref U0.length),some (.int p),x4] (U0++[.lst (iL (Ul f k p))])=.ok (!(f p).isK k) (U0++[.lst (iL (Ul f k p))]) :=
   aC (ac hi rfl (by rw[hpl];exact RM hs k))
  have key:∃z4,nG [some c,some (.int k),some (.ref U0.length),some (.int p),x4] (U0++[.lst (iL (Ul f k p))])=.ok (.nx [some c,some (.int k),some (.ref U0.length),some (.int p),z4]) (U0++[.lst (iL (Ul f k (p+1)))]):=by
   rw[Ul];split
   ·rename_i h;rw[VX h.1] at ht;rw[h.2] at hk;obtain⟨z4,e⟩:=MR (U0:=U0) (c:=c) (x1:=some (.int k)) (x3:=some (.int p)) ((f p).goals p) (Ul f k p) x4 (by have:=JR f k p;have:=d8 (f p) p;omega);exact⟨z4,(bw ((dy ht).trans hk)).trans ((fI (iU (aj (a7 hi (a7 rfl am)) (kX hs p _)))).trans e)⟩
   ·rename_i h;refine⟨x4,aT ?_⟩;by_cases h1:p∈Ul f k p
    ·rw[VX h1] at ht;have h2:(f p).isK k=true:=by
      cases z:(f p).isK k with
      |true=>rfl
      |false=>exact absurd ⟨h1,z⟩ h
     rw[h2] at hk;exact(dy ht).trans hk
    ·rw[VY h1] at ht;exact dZ ht
  obtain⟨z4,e⟩:=key;obtain⟨y3,y4,ih⟩:=Gb hc hd hn m (p+1) (some (.int p)) z4 (by omega);refine⟨y3,y4,?_⟩;rw[gh,show p+(m+1)=p+1+m by omega];exact(la e).trans ih
theorem Ga {k:Nat}(hc:Code ds f) (hd:ai U0 c=.lst ds) (hn:ds.length<1000):mz [c,.int k] U0=.ok (.ref U0.length) (U0++[.lst (iL (Ul f k ds.length))]):=by
 obtain⟨y2,y3,e⟩:=Gb (k:=k) hc hd hn ds.length 0 none none (by omega);rw[Nat.zero_add] at e;refine aP 3 ((ar 2 (d:=.ref U0.length) (U1:=U0++[.lst [.int 0]]) rfl).trans ((b8 ((fI (gY (bh (a7 rfl am) ?_) (by omega))).trans e)).trans (bv rfl)));rw[VW,gC hd];rfl
abbrev T9:MX:=a6 t6 (a4 0) (mCallB bM (a5 (a4 1) mNil))
theorem Jj (hd:ai U c=.lst ds):∀(gs:Zu) (a:ZF) (acc:ZE),aA (gN 0) fh T9 (iL gs) [a,some c] U acc=.ok (acc++gs.map fun g=>.bl (decide (g<ds.length))) U
 |[],_,acc=>by simp[aA,iL]
 |g::gs,a,acc=>by
  have e:T9 [some (.int g),some c] U=.ok (.bl (decide (g<ds.length))) U:=by
   refine ac rfl (bh (d:=.int ds.length) (a7 rfl am) ?_) ?_
   ·rw[VW,hd];rfl
   ·show some (D.bl (decide ((g:Int)<(ds.length:Int))))=_;by_cases z:g<ds.length
    ·rw[VX z,VX (by omega)]
    ·rw[VY z,VY (by omega)]
  have ih:=Jj hd gs (some (.int g)) (acc++[.bl (decide (g<ds.length))]);show(noX (T9 [some (.int g),some c] U)).bind _=_;rw[e];show aA (gN 0) fh T9 (iL gs) [some (.int g),some c] U (acc++[.bl (decide (g<ds.length))])=_;rw[ih,VU,Wf];rfl
theorem Bh:∀(bs:ZD),blsOf (bs.map D.bl)=some bs
 |[]=>rfl
 |b::bs=>by rw[VW];unfold blsOf;rw[Bh bs];rfl
theorem Lo {gs:Zu} :(!(gs.map fun g=>decide (g<n)).all id)=gs.any fun g=>decide (n<=g):=by
 induction gs with
 |nil=>rfl
 |cons g gs ih =>
  rw[VW,List.all_cons,WZ,←ih,Bool.not_and];congr 1;by_cases z:g<n
  ·simp[z]
  ·simp[z];omega
theorem EZ (hd:ai U c=.lst ds) (hp:p<ds.length) (hs:Sh ds[p] (f p)) :
  mNot (mTru (mCallB B5 (a5 (b7 1 [0] (gN 0) (mOverL (mCall dm (a5 (a6 gIdx (a4 0) (a4 2)) (a5 (a4 2) mNil)))) fh (a6 t6 (a4 0) (mCallB bM (a5 (a4 1) mNil)))) mNil))) [some c,x1,some (.int p)] U=.ok (((f p).goals p).any fun g=>decide (ds.length<=g)) U:=by
 have e0:mOverL (mCall dm (a5 (a6 gIdx (a4 0) (a4 2)) (a5 (a4 2) mNil))) [some c,x1,some (.int p)] U=.ok (iL ((f p).goals p)) U:=iU (aj (a7 (ac rfl rfl (by rw[hd];exact gy (VI hp))) (a7 rfl am)) (kX hs p _));have e1:b7 1 [0] (gN 0) (mOverL (mCall dm (a5 (a6 gIdx (a4 0) (a4 2)) (a5 (a4 2) mNil)))) fh (a6 t6 (a4 0) (mCallB bM (a5 (a4 1) mNil))) [some c,x1,some (.int p)] U=.ok (.lst (((f p).goals p).map fun g=>.bl (decide (g<ds.length)))) U:=by
  unfold b7;rw[e0,ae,VJ (by rw[iL,VS];have:=d8 (f p) p;omega)];show(aA (gN 0) fh T9 _ [none,some c] U []).bind _=_;rw[Jj hd];rfl
 rw[←Lo];refine qa (gX (d:=.bl ((((f p).goals p).map fun g=>decide (g<ds.length)).all id)) (bh (a7 e1 am) ?_) rfl);show(blsOf (((f p).goals p).map fun g=>D.bl (decide (g<ds.length)))).map _=_;rw[show(((f p).goals p).map fun g=>D.bl (decide (g<ds.length)))=(((f p).goals p).map fun g=>decide (g<ds.length)).map D.bl by rw[Xj];rfl,Bh];rfl
theorem B7 {ν:Mu}{p:Nat}{x2:ZF}(hc:Code ds f) (hd:ai U0 c=.lst ds) (hn:ds.length<1000) (hp:p<ds.length) :
  ∃ν',nM [some c,some (.ref U0.length),some (.int p)] (U0++[.lst (iL (Tl f ds.length))]++ν)=(if fl f ds.length p=true then .ok (.rt (.int p)) (U0++[.lst (iL (Tl f ds.length))]++ν') else .ok (.nx [some c,some (.ref U0.length),some (.int p)]) (U0++[.lst (iL (Tl f ds.length))]++ν')):=by
 have hs:=hc p _ (VI hp);have hd':∀ν,ai (U0++[.lst (iL (Tl f ds.length))]++ν) c=.lst ds:=fun ν=>by rw[VU];exact gC hd _
 have hpl:∀U,ai U ds[p]=ds[p]:=jC hs;obtain⟨x,hx1,hx2,hx3⟩:=OK hs;have hi:∀ν,a6 gIdx (a4 0) (a4 2) [some c,some (.ref U0.length),some (.int p)] (U0++[.lst (iL (Tl f ds.length))]++ν)=.ok ds[p] (U0++[.lst (iL (Tl f ds.length))]++ν):=fun ν=>ac rfl rfl (by rw[hd'];exact gy (VI hp))
 have t1:a9 (a6 bB (a6 gIdx (a6 gIdx (a4 0) (a4 2)) (mC (.int 0))) (mC (.str bf))) [some c,some (.ref U0.length),some (.int p)] (U0++[.lst (iL (Tl f ds.length))]++ν)=.ok (f p).isF (U0++[.lst (iL (Tl f ds.length))]++ν) :=
  aC (ac (x:=.str x) (ac (hi ν) rfl (by rw[hpl];exact hx1)) rfl hx2)
 have t2:a9 (a6 ek (a4 2) (a4 1)) [some c,some (.ref U0.length),some (.int p)] (U0++[.lst (iL (Tl f ds.length))]++ν)=.ok (decide (p∈Tl f p)) (U0++[.lst (iL (Tl f ds.length))]++ν):=by
  have:=NU (f:=f) (q:=p) (ds.length-p);rw[show p+(ds.length-p)=ds.length by omega] at this;rw[show decide (p∈Tl f p)=decide (p∈Tl f ds.length) from decide_eq_decide.mpr this.symm];exact aC (ac rfl rfl (by rw[zd];exact CD p _))
 have second:∀ν,(mIte (mNot (mTru (mCallB B5 (a5 (b7 1 [0] (gN 0) (mOverL (mCall dm (a5 (a6 gIdx (a4 0) (a4 2)) (a5 (a4 2) mNil)))) fh (a6 t6 (a4 0) (mCallB bM (a5 (a4 1) mNil)))) mNil)))) (av (a4 2)) mSkip) [some c,some (.ref U0.length),some (.int p)] (U0++[.lst (iL (Tl f ds.length))]++ν) =
   (if(((f p).goals p).any fun g=>decide (ds.length<=g))=true then .ok (.rt (.int p)) (U0++[.lst (iL (Tl f ds.length))]++ν) else .ok (.nx [some c,some (.ref U0.length),some (.int p)]) (U0++[.lst (iL (Tl f ds.length))]++ν)):=fun ν=>by
  have h:=EZ (x1:=some (.ref U0.length)) (hd' ν) hp hs;cases z:(((f p).goals p).any fun g=>decide (ds.length<=g)) with
  |true=>rw[z] at h;exact(bw h).trans (bv rfl)
  |false=>rw[z] at h;exact aT h
 unfold fl;cases hv:f p with
 |ft s =>
  rw[hv] at t1 hx3 second;have h1:=hx3 s rfl;by_cases hT:p∈Tl f p
  ·rw[VX hT] at t2;have t3:a9 (a6 ek (a4 2) (mCall mz (a5 (a4 0) (a5 (a6 gIdx (a6 gIdx (a4 0) (a4 2)) (mC (.int 1))) mNil)))) [some c,some (.ref U0.length),some (.int p)] (U0++[.lst (iL (Tl f ds.length))]++ν)=.ok (decide (p∈Ul f s p)) (U0++[.lst (iL (Tl f ds.length))]++(ν++[.lst (iL (Ul f s ds.length))])):=by
    have:=NR (f:=f) (k:=s) (q:=p) (ds.length-p);rw[show p+(ds.length-p)=ds.length by omega] at this;rw[show decide (p∈Ul f s p)=decide (p∈Ul f s ds.length) from decide_eq_decide.mpr this.symm];have hu:=Ga (k:=s) (c:=c) (U0:=U0++[.lst (iL (Tl f ds.length))]++ν) hc (hd' ν) hn;refine aC (ac rfl (aj (a7 rfl (a7 (ac (hi ν) rfl (by rw[hpl];exact h1)) am)) (hu.trans (by rw[VU _ ν]))) ?_);rw[show U0++[.lst (iL (Tl f ds.length))]++(ν++[.lst (iL (Ul f s ds.length))])=(U0++[.lst (iL (Tl f ds.length))]++ν)++[.lst (iL (Ul f s ds.length))] by rw[VU _ ν],fA];exact CD p _
   refine⟨ν++[.lst (iL (Ul f s ds.length))],?_⟩;by_cases hU:p∈Ul f s p
   ·rw[VX hU] at t3;rw[show(noSlot f p (.ft s)||((Vw.ft s).goals p).any fun g=>decide (ds.length<=g))=true by simp[noSlot,hT,hU],VJ rfl];exact aN ((dy t1).trans ((dy t2).trans t3)) rfl
   ·rw[VY hU] at t3;rw[show noSlot f p (.ft s)=false by simp[noSlot,hU],XQ];exact(a8 ((dy t1).trans ((dy t2).trans t3))).trans (second _)
  ·rw[VY hT] at t2;refine⟨ν,?_⟩;rw[show noSlot f p (.ft s)=false by simp[noSlot,hT],XQ];exact(a8 ((dy t1).trans (dZ t2))).trans (second _)
 |_ =>
  rw[hv] at t1 second;exact⟨ν,(a8 (dZ t1)).trans (second _)⟩
theorem rT (hc:Code ds f) (hd:ai U0 c=.lst ds) (hn:ds.length<1000):∀(m p:Nat) (ν:Mu) (x2:ZF),p+m=ds.length->∃ν' y2,
  forGo (gN 2) nM (iL (List.range' p m)) [some c,some (.ref U0.length),x2] (U0++[.lst (iL (Tl f ds.length))]++ν)=(match(List.range' p m).find? (fl f ds.length) with
   |some q=>.ok (.rt (.int q)) (U0++[.lst (iL (Tl f ds.length))]++ν')
   | none=>.ok (.nx [some c,some (.ref U0.length),y2]) (U0++[.lst (iL (Tl f ds.length))]++ν'))
 |0,p,ν,x2,_=>⟨ν,x2,rfl⟩
 |m+1,p,ν,x2,hm=>by
  obtain⟨ν1,e⟩:=B7 (ν:=ν) (x2:=x2) (p:=p) hc hd hn (by omega);rw[gh,Xd,WV];cases z:fl f ds.length p with
  |true =>
   rw[z,VJ rfl] at e;exact⟨ν1,none,G8 2 e⟩
  |false =>
   rw[z,VN (by decide)] at e;obtain⟨ν',y2,ih⟩:=rT hc hd hn m (p+1) ν1 (some (.int p)) (by omega);exact⟨ν',y2,(la e).trans ih⟩
def first (f:Nat->Vw) (n m:Nat):Option Nat:=(List.range' 0 m).find? (fl f n)
def Vy:Option Nat->Int
 |some q=>q
 |none=> -1
theorem rV (hc:Code ds f) (hd:ai U0 c=.lst ds) (hn:ds.length<1000):∃ν,gm [c] U0=.ok (.int (Vy (first f ds.length ds.length))) (U0++ν):=by
 obtain⟨ν',y2,e⟩:=rT hc hd hn ds.length 0 [] none (by omega);rw[WC] at e;refine⟨[.lst (iL (Tl f ds.length))]++ν',?_⟩;rw[←VU];refine aP 2 ((ar 1 (aj rfl (Gf hc hd hn))).trans ?_);have e0:mRange1 (mCallB bM (a5 (a4 0) mNil)) [some c,some (.ref U0.length),none] (U0++[.lst (iL (Tl f ds.length))])=.ok (iL (List.range' 0 ds.length)) (U0++[.lst (iL (Tl f ds.length))]):=gY (bh (a7 rfl am) (by rw[VW,gC hd];rfl)) (by omega);unfold first
 cases z:(List.range' 0 ds.length).find? (fl f ds.length) with
 |some q=>rw[z] at e;exact l9 ((fI e0).trans e)
 |none=>rw[z] at e;exact(b8 ((fI e0).trans e)).trans (bv rfl)
end
abbrev As:=List (Nat×ZD)
def mX (A:As):List DK:=A.map fun p=>.inl (p.1:Int)
def ut (A:As):ZE:=A.map fun p=>bI p.2
def dC (A:As):Cell:=.dic (mX A) (ut A)
theorem Q9 (q:Nat):List.lookup q ([]:As)=none:=rfl
theorem dg (q a:Nat) (b:ZD) (A:As):List.lookup q ((a,b)::A)=if a=q then some b else List.lookup q A:=by
 rw[Wc];by_cases z:a=q
 ·subst z;simp
 ·rw[VN z,show(q==a)=false from beq_eq_false_iff_ne.mpr fun h=>z h.symm]
theorem nY {a q:Nat}(h:a≠q):¬(Sum.inl (a:Int):DK)=.inl (q:Int):=fun z=>h (by have:=Sum.inl.inj z;omega)
theorem pd (q:Nat):∀A:As,aF (mX A) (ut A) (.inl (q:Int))=(List.lookup q A).map bI
 |[]=>rfl
 |(a,b)::A=>by
  show(if(Sum.inl (a:Int):DK)=.inl (q:Int) then some (bI b) else aF (mX A) (ut A) (.inl (q:Int)))=_;rw[dg];by_cases z:a=q
  ·subst z;simp
  ·rw[VN z,VN (nY z),pd q A]
theorem JN (q:Nat):∀A:As,((mX A).any fun k=>decide (k=.inl (q:Int)))=(List.lookup q A).isSome
 |[]=>rfl
 |(a,b)::A=>by
  show(decide ((Sum.inl (a:Int):DK)=.inl (q:Int))||(mX A).any fun k=>decide (k=.inl (q:Int)))=_;rw[dg,JN q A];by_cases z:a=q
  ·subst z;simp
  ·rw[VN z,VY (nY z),XQ]
def rp (q:Nat) (v:ZD):As->As
 |[]=>[]
 |(a,b)::A=>(a,if a=q then v else b)::rp q v A
theorem BL (q:Nat) (v:ZD):∀A:As,mX (rp q v A)=mX A
 |[]=>rfl
 |(a,b)::A=>by show _::mX (rp q v A)=_::mX A;rw[BL q v A]
theorem BK (q:Nat) (v:ZD):∀A:As,ut (rp q v A)=eW (mX A) (ut A) (.inl (q:Int)) (bI v)
 |[]=>rfl
 |(a,b)::A=>by
  show bI (if a=q then v else b)::ut (rp q v A)=(if(Sum.inl (a:Int):DK)=.inl (q:Int) then bI v else bI b)::eW (mX A) (ut A) (.inl (q:Int)) (bI v);rw[BK q v A];congr 1;by_cases z:a=q
  ·subst z;simp
  ·rw[VN z,VN (nY z)]
theorem GM (q:Nat) (v:ZD):∀A:As,(rp q v A).length=A.length
 |[]=>rfl
 |(a,b)::A=>by show(rp q v A).length+1=A.length+1;rw[GM q v A]
theorem uP (q:Nat) (v:ZD) (r:Nat):∀A:As,(List.lookup q A).isSome=true->List.lookup r (rp q v A)=if r=q then some v else List.lookup r A
 |[],h=>by cases h
 |(a,b)::A,h=>by
  show List.lookup r ((a,if a=q then v else b)::rp q v A)=_;rw[dg,dg];by_cases z:a=q
  ·subst z;by_cases y:r=a
   ·subst y;simp
   ·have y':¬a=r:=fun h=>y h.symm
    rw[VN y',VN y',VN y];cases e:List.lookup a A with
    |some x=>rw[uP a v r A (by rw[e];rfl),VN y]
    |none =>
     clear h;have:∀A:As,List.lookup a A=none->List.lookup r (rp a v A)=List.lookup r A:=by
      intro A
      induction A with
      |nil=>intro _;rfl
      |cons p A ih =>
       obtain⟨a2,b2⟩:=p;intro h;show List.lookup r ((a2,if a2=a then v else b2)::rp a v A)=_;rw[dg] at h;split at h
       ·cases h
       ·rename_i h2;rw[dg,dg,VN h2,ih h]
     exact this A e
  ·rw[dg,VN z] at h;rw[uP q v r A h,VN z];by_cases y:r=q
   ·subst y;rw[VN z,VJ rfl,VJ rfl]
   ·rw[VN y,VN y]
def pt (A:As) (q:Nat) (v:ZD):As:=if(List.lookup q A).isSome=true then rp q v A else A++[(q,v)]
theorem Co (q:Nat) (v:ZD) (r:Nat):∀A:As,List.lookup r (A++[(q,v)])=(List.lookup r A).or (if q=r then some v else none)
 |[]=>by rw[WU,dg];rfl
 |(a,b)::A=>by
  rw[Xe,dg,dg,Co q v r A];split<;>rfl
theorem BQ (A:As) (q:Nat) (v:ZD) (r:Nat):List.lookup r (pt A q v)=if r=q then some v else List.lookup r A:=by
 unfold pt;split
 ·rename_i h;exact uP q v r A h
 ·rename_i h;rw[Co];by_cases y:r=q
  ·subst y;rw[VJ rfl,VJ rfl];cases e:List.lookup r A with
   |none=>rfl
   |some x=>rw[e] at h;exact absurd rfl h
  ·have y':¬q=r:=fun h=>y h.symm
   rw[VN y,VN y'];cases List.lookup r A<;>rfl
theorem GW (A:As) (q:Nat) (v:ZD):(pt A q v).length<=A.length+1:=by
 unfold pt;split
 ·rw[GM];omega
 ·simp
theorem Rm (hv:mv ρ (U0++[dC A])=.ok (bI v) (U0++[dC A])) (ho:mo ρ (U0++[dC A])=.ok (.ref U0.length) (U0++[dC A])) (hi:mi ρ (U0++[dC A])=.ok (.int g) (U0++[dC A])) (hl:A.length<16777216) :
  mPut mo mi mv ρ (U0++[dC A])=.ok (.nx ρ) (U0++[dC (pt A g v)]):=by
 unfold mPut;rw[hv,ae,ho,ae,hi,ae];have e:(U0++[dC A])[U0.length]? =some (dC A):=by rw[VQ (VL _),Wm];rfl
 unfold uT;dsimp only;rw[e];show(if(mX A).length<16777216 then(if((mX A).any fun k=>decide (k=.inl (g:Int)))=true then Res.ok (Out.nx ρ) ((U0++[dC A]).set U0.length (.dic (mX A) (eW (mX A) (ut A) (.inl (g:Int)) (bI v)))) else .ok (.nx ρ) ((U0++[dC A]).set U0.length (.dic (mX A++[.inl (g:Int)]) (ut A++[bI v])))) else .bad)=_;rw[VJ (by rw[mX,VS];exact hl),JN,iz,iz];unfold pt;split
 ·rw[←BK,←BL g v A];rfl
 ·rw[show mX A++[Sum.inl (g:Int)]=mX (A++[(g,v)]) by simp[mX],show ut A++[bI v]=ut (A++[(g,v)]) by simp[ut]];rfl
theorem mM (U0:Mu) (A:As):ai (U0++[dC A]) (.ref U0.length)=.dic (mX A) (ut A):=by
 have e:(U0++[dC A])[U0.length]? =some (dC A):=by rw[VQ (VL _),Wm];rfl
 show(match(U0++[dC A])[List.length U0]? with
  |some (.lst ds)=>D.lst ds
  |some (.dic ks vs)=>D.dic ks vs
  | _=>D.ref (List.length U0))=_
 rw[e];rfl
def jc (a b:ZD):ZD:=List.zipWith (· && ·) a b
theorem zx (U:Mu):∀(a b:ZD) (x y:ZF) (acc:ZE),aA Nu fh (mAndV (a4 0) (a4 1)) (M.fZ (a.map .bl) (b.map .bl)) [x,y] U acc=.ok (acc++(jc a b).map .bl) U
 |[],b,x,y,acc=>by simp[aA,M.fZ,jc]
 |a::as,[],x,y,acc=>by simp[aA,M.fZ,jc]
 |a::as,b::bs,x,y,acc=>by
  have e:mAndV (a4 0) (a4 1) [some (.bl a),some (.bl b)] U=.ok (.bl (a&&b)) U:=Kf rfl rfl;have ih:=zx U as bs (some (.bl a)) (some (.bl b)) (acc++[.bl (a&&b)]);show(noX (mAndV (a4 0) (a4 1) [some (.bl a),some (.bl b)] U)).bind _=_;rw[e];show aA Nu fh (mAndV (a4 0) (a4 1)) (M.fZ (as.map .bl) (bs.map .bl)) [some (.bl a),some (.bl b)] U (acc++[.bl (a&&b)])=_;rw[ih,VU,Wf];rfl
def ho (sl:ZD) (A:As) (g:Nat):As:=pt A g (jc ((List.lookup g A).getD sl) sl)
theorem CF :∀(gs:Zu) (A:As) (x3 x4:ZF),A.length+gs.length<16777216->sl.length=8->(∀q bs,List.lookup q A=some bs->bs.length=8)->∃y3 y4,
  forGo (gN 3) l5 (iL gs) [some (.ref U0.length),x1,some (bI sl),x3,x4] (U0++[dC A])=.ok (.nx [some (.ref U0.length),x1,some (bI sl),y3,y4]) (U0++[dC (gs.foldl (ho sl) A)])
 |[],A,x3,x4,_,_,_=>⟨x3,x4,rfl⟩
 |g::gs,A,x3,x4,hl,hs,h8=>by
  rw[W1] at hl;have hb:((List.lookup g A).getD sl).length=8:=by
   cases e:List.lookup g A with
   |none=>exact hs
   |some bs=>exact h8 g bs e
  have ha:(jc ((List.lookup g A).getD sl) sl).length=8:=by rw[jc,XG,hb,hs];rfl
  obtain⟨y3,y4,ih⟩:=CF (U0:=U0) (x1:=x1) gs (ho sl A g) (some (.int g)) (some (bI ((List.lookup g A).getD sl))) (by have:=GW A g (jc ((List.lookup g A).getD sl) sl);unfold ho;omega) hs (fun q bs e=>by
   unfold ho at e;rw[BQ] at e;split at e
   ·cases e;exact ha
   ·exact h8 q bs e)
  refine⟨y3,y4,Wx (la ?_) ih⟩;have e1:mDGet2 (a4 0) (a4 3) (a4 2) [some (.ref U0.length),x1,some (bI sl),some (.int g),x4] (U0++[dC A])=.ok (bI ((List.lookup g A).getD sl)) (U0++[dC A]):=by
   unfold mDGet2;show(if CA (ai (U0++[dC A]) (.ref U0.length))=true then ofO (U0++[dC A]) (J5 (ai (U0++[dC A]) (.ref U0.length)) (.int g) (bI sl)) else .bad)=_;rw[mM,VJ (show CA (.dic (mX A) (ut A))=true from rfl)];show ofO _ (some ((aF (mX A) (ut A) (.inl (g:Int))).getD (bI sl)))=_;rw[pd];cases List.lookup g A<;>rfl
  refine(ar 4 e1).trans (Rm ?_ rfl rfl (by omega));show b7 2 [] Nu (mZip false false (a4 4) (a4 2)) fh (mAndV (a4 0) (a4 1)) [some (.ref U0.length),x1,some (bI sl),some (.int g),some (bI ((List.lookup g A).getD sl))] (U0++[dC A])=_;unfold b7;rw[show mZip false false (a4 4) (a4 2) [some (.ref U0.length),x1,some (bI sl),some (.int g),some (bI ((List.lookup g A).getD sl))] (U0++[dC A])=.ok (M.fZ (((List.lookup g A).getD sl).map .bl) (sl.map .bl)) (U0++[dC A]) from rfl,ae];have hpl:∀(a b:ZE),(M.fZ a b).length<=a.length:=fun a b=>by unfold M.fZ;rw[VS,XT];exact Nat.min_le_left _ _
  rw[VJ (Wh (hpl _ _) (by rw[VS,hb];decide))];show(aA Nu fh (mAndV (a4 0) (a4 1)) _ [none,none] _ []).bind _=_;rw[zx];rfl
theorem kU (j:Nat) (h:n (ds.map some++List.replicate j none) U=.ok (.nx ρ1) U1):fnOf j n ds U=.ok .non U1:=by rw[lC,h];rfl
theorem M4 (hl:A.length+gs.length<16777216) (hs:sl.length=8) (h8:∀q bs,List.lookup q A=some bs->bs.length=8) :
  fO [.ref U0.length,gI gs,bI sl] (U0++[dC A])=.ok .non (U0++[dC (gs.foldl (ho sl) A)]):=by
 obtain⟨y3,y4,e⟩:=CF (U0:=U0) (x1:=some (gI gs)) (sl:=sl) gs A none none hl hs h8;exact kU 2 ((fI (iU rfl)).trans e)
theorem zw:∀(a s:ZD),jc (jc a s) s=jc a s
 |[],s=>rfl
 |a::as,[]=>rfl
 |a::as,b::bs=>by
  show((a&&b)&&b)::jc (jc as bs) bs=(a&&b)::jc as bs;rw[zw as bs,Bool.and_assoc,Bool.and_self]
theorem JO:∀(a s:ZD) (k:Nat),(jc a s).getD k false=(a.getD k false&&s.getD k false)
 |[],s,k=>by simp[jc]
 |a::as,[],k=>by simp[jc]
 |a::as,b::bs,0=>rfl
 |a::as,b::bs,k+1=>JO as bs k
theorem kD (sl:ZD) (q:Nat):∀(gs:Zu) (A:As),List.lookup q (gs.foldl (ho sl) A)=if q∈gs then some (jc ((List.lookup q A).getD sl) sl) else List.lookup q A
 |[],A=>by simp
 |g::gs,A=>by
  rw[XS,kD sl q gs];unfold ho;rw[BQ];by_cases h1:q=g
  ·subst h1;rw[VJ rfl,VJ (Wg ..)];split
   ·rw[XC,zw]
   ·rfl
  ·rw[VN h1];simp only[Wd,h1,false_or]
theorem yQ (sl:ZD):∀(gs:Zu) (A:As),(gs.foldl (ho sl) A).length<=A.length+gs.length
 |[],A=>by simp
 |g::gs,A=>by
  rw[XS,W1];have:=yQ sl gs (ho sl A g);have:=GW A g (jc ((List.lookup g A).getD sl) sl);unfold ho at *;omega
def tN (v:Vw) (p:Nat) (A:As):As:=match List.lookup p A with
 |some bs=>(v.goals p).foldl (ho (v.behind bs)) A
 |none=>A
structure J (f:Nat->Vw) (p:Nat) (A:As):Prop where
 t:∀q,(List.lookup q A).isSome=true↔q∈Tl f p
 l:∀q bs,List.lookup q A=some bs->bs.length=8
 u:∀q bs,List.lookup q A=some bs->∀k<8,(bs.getD k false=false↔q∈Ul f k p)
 n:A.length<=1+2*p
def QY:ZD:=[false,false,false,false,false,false,false,false]
theorem J0 (f:Nat->Vw):J f 0 [(0,QY)]:=by
 refine⟨fun q=>?_,fun q bs e=>?_,fun q bs e k hk=>?_,by simp⟩
 ·rw[dg];by_cases z:0=q
  ·subst z;simp[Tl]
  ·rw[VN z];simp[Tl,Q9];omega
 ·rw[dg] at e;split at e
  ·cases e;rfl
  ·cases e
 ·rw[dg] at e;split at e
  ·rename_i z;cases e;have:QY.getD k false=false:=by
    match k,hk with
    |0,_=>rfl
    |1,_=>rfl
    |2,_=>rfl
    |3,_=>rfl
    |4,_=>rfl
    |5,_=>rfl
    |6,_=>rfl
    |7,_=>rfl
    |k+8,h=>omega
   subst z;exact⟨fun _=>by simp[Ul],fun _=>this⟩
  ·cases e
theorem OL {bs:ZD}(hs:s<bs.length):(bs.set s true).getD k false=if k=s then true else bs.getD k false:=by
 rw[W7,W7];by_cases z:k=s
 ·subst z;rw[Wi hs,VJ rfl];rfl
 ·rw[Wp (Wr z),VN z]
theorem Fv {v:Vw}{bs:ZD}(ho:v.ok) (hb:bs.length=8):(v.behind bs).getD k false=false↔bs.getD k false=false/\v.isK k=false:=by
 cases v with
 |kp s =>
  show(bs.set s true).getD k false=false↔bs.getD k false=false/\(s==k)=false;have hs:s<8:=ho;rw[OL (by omega)];by_cases z:k=s
  ·subst z;simp
  ·rw[VN z];have:(s==k)=false:=beq_eq_false_iff_ne.mpr fun h=>z h.symm
   simp[this]
 |_=>simp[Vw.behind,Vw.isK]
theorem J.next {f:Nat->Vw}{p:Nat}(j:J f p A) (ho':(f p).ok):J f (p+1) (tN (f p) p A):=by
 unfold tN;cases e:List.lookup p A with
 |none =>
  have np:p∉Tl f p:=fun h=>by have:=(j.t p).mpr h;rw[e] at this;cases this
  refine⟨fun q=>?_,j.l,fun q bs eq k hk=>?_,by have:=j.n;dsimp only;omega⟩
  ·rw[nB,j.t];simp[np]
  ·rw[j.u q bs eq k hk,j1];constructor
   ·exact .inl
   ·rintro (h|⟨⟨h,_⟩,_⟩)
    ·exact h
    ·exact absurd (zB h) np
 |some bp =>
  have hp:p∈Tl f p:=(j.t p).mp (by rw[e];rfl);have h8:=j.l p bp e;have hsl:((f p).behind bp).length=8:=by rw[sI];exact h8
  dsimp only;refine⟨fun q=>?_,fun q bs eq=>?_,fun q bs eq k hk=>?_,?_⟩
  ·rw[kD,nB];by_cases z:q∈(f p).goals p
   ·simp[z,hp]
   ·simp[z,j.t]
  ·rw[kD] at eq;split at eq
   ·cases eq;rw[jc,XG,hsl];cases e2:List.lookup q A with
    |none=>rw[Yg,hsl];rfl
    |some b=>rw[XC,j.l q b e2];rfl
   ·exact j.l q bs eq
  ·rw[kD] at eq;have hb:=Fv (k:=k) ho' h8;have hu:=j.u p bp e k hk;rw[j1];split at eq
   ·rename_i z;cases eq;rw[JO,Zk,hb,hu];cases e2:List.lookup q A with
    |none =>
     have nq:q∉Ul f k p:=fun h=>by have:=(j.t q).mpr (zB h);rw[e2] at this;cases this
     rw[Yg,hb,hu];simp[nq,z]
    |some b =>
     rw[XC,j.u q b e2 k hk];simp[z]
   ·rename_i z;rw[j.u q bs eq k hk];simp[z]
  ·have:=yQ ((f p).behind bp) ((f p).goals p) A;have:=d8 (f p) p;have:=j.n;omega
theorem J.lack (j:J f p A) (ho':(f p).ok):(match List.lookup p A with
  |some bs=>(f p).lacks bs
  | none=>false)=noSlot f p (f p):=by
 cases e:List.lookup p A with
 |none =>
  have np:p∉Tl f p:=fun h=>by have:=(j.t p).mpr h;rw[e] at this;cases this
  cases f p with
  |ft s=>simp[noSlot,np]
  |_=>rfl
 |some bs =>
  have hp:p∈Tl f p:=(j.t p).mp (by rw[e];rfl);cases hv:f p with
  |ft s =>
   rw[hv] at ho';have:=j.u p bs e s ho';show(!(bs.getD s false))=(decide (p∈Tl f p)&&decide (p∈Ul f s p));rw[VX hp,Bool.true_and];cases z:bs.getD s false with
   |false=>rw[VX (this.mp z)];rfl
   |true=>rw[VY fun h=>by rw[this.mpr h] at z;cases z];rfl
  |_=>rfl
abbrev Ve:MG:=gTupT (cr (gN 2) (cr (gN 3) gsNil))
theorem Oe (ht:tg d ρ=some ρ1) (h:n ρ1 U=.ok (.nx ρ2) U1):forGo tg n (d::ds) ρ U=forGo tg n ds ρ2 U1:=by
 show(match tg d ρ with|none=>Res.bad|some ρ1=>_)=_;rw[ht];show(n ρ1 U).bind _=_;rw[h];rfl
theorem Bx (ht:tg d ρ=some ρ1) (h:n ρ1 U=.ok (.rt x) U1):forGo tg n (d::ds) ρ U=.ok (.rt x) U1:=by
 show(match tg d ρ with|none=>Res.bad|some ρ1=>_)=_;rw[ht];show(n ρ1 U).bind _=_;rw[h];rfl
section
variable {xs:ZE}{f:Nat->Vw}{U0:Mu}{A:As}{p:Nat}{d:D}{x4:ZF}
theorem T1 (neg:Bool):gi neg (.int p) (.dic (mX A) (ut A))=some (.bl (if neg then !(List.lookup p A).isSome else(List.lookup p A).isSome)):=by
 show some (D.bl (if neg then !(aF (mX A) (ut A) (.inl (p:Int))).isSome else(aF (mX A) (ut A) (.inl (p:Int))).isSome))=_;rw[pd];cases List.lookup p A<;>rfl
theorem J4 (h:List.lookup p A=some bs):gDGet (.dic (mX A) (ut A)) (.int p)=some (bI bs):=by
 show aF (mX A) (ut A) (.inl (p:Int))=_;rw[pd,h];rfl
theorem eU (ht:tg d ρ=some ρ1) (hm:m ρ1 U=.ok x U):aA tg fh m (d::ds) ρ U acc=aA tg fh m ds ρ1 U (acc++[x]):=by
 rw[aA,ht];show(noX (m ρ1 U)).bind _=_;rw[hm];rfl
abbrev Vc:MX:=a6 t7 (a4 0) (mCallB bM (a5 (a4 1) mNil))
theorem J7 :∀(gs:Zu) (a:ZF) (acc:ZE),aA (gN 0) fh Vc (iL gs) [a,some (.lst xs)] U acc=.ok (acc++gs.map fun g=>.bl (decide (xs.length<=g))) U
 |[],_,acc=>by simp[aA,iL]
 |g::gs,a,acc=>by
  have e:Vc [some (.int g),some (.lst xs)] U=.ok (.bl (decide (xs.length<=g))) U:=by
   refine ac rfl (bh (d:=.int xs.length) (a7 rfl am) rfl) ?_;show some (D.bl (decide ((xs.length:Int)<=(g:Int))))=_;by_cases z:xs.length<=g
   ·rw[VX z,VX (by omega)]
   ·rw[VY z,VY (by omega)]
  have ih:=J7 (U:=U) gs (some (.int g)) (acc++[.bl (decide (xs.length<=g))]);refine(eU (ds:=iL gs) rfl e).trans ?_;refine ih.trans ?_;rw[VU,Wf];rfl
theorem Qu (hl:gs.length<=2):mTru (mCallB Jc (a5 (b7 1 [0] (gN 0) (mOverL (a4 4)) fh (a6 t7 (a4 0) (mCallB bM (a5 (a4 1) mNil)))) mNil)) [some (.lst xs),x1,x2,x3,some (gI gs)] U=.ok (gs.any fun g=>decide (xs.length<=g)) U:=by
 have e1:b7 1 [0] (gN 0) (mOverL (a4 4)) fh (a6 t7 (a4 0) (mCallB bM (a5 (a4 1) mNil))) [some (.lst xs),x1,x2,x3,some (gI gs)] U=.ok (.lst (gs.map fun g=>.bl (decide (xs.length<=g)))) U:=by
  unfold b7;rw[show mOverL (a4 4) [some (.lst xs),x1,x2,x3,some (gI gs)] U=.ok (iL gs) U from rfl,ae,VJ (by rw[iL,VS];omega)];show(aA (gN 0) fh _ _ [none,some (.lst xs)] U []).bind _=_;rw[J7];rfl
 refine gX (d:=.bl (gs.any fun g=>decide (xs.length<=g))) (bh (a7 e1 am) ?_) rfl;show(blsOf (gs.map fun g=>D.bl (decide (xs.length<=g)))).map _=_;rw[show(gs.map fun g=>D.bl (decide (xs.length<=g)))=(gs.map fun g=>decide (xs.length<=g)).map D.bl by rw[Xj];rfl,Bh];show some (D.bl ((gs.map fun g=>decide (xs.length<=g)).any id))=_;rw[List.any_map];rfl
theorem Ge (h:∀U,aK [d] U=.ok (.bl false) U):bu [some (.lst xs),some (.ref U0.length),some (.int p),some d,x4] (U0++[dC A])=.ok (.rt (.int p)) (U0++[dC A]) :=
 aN (qa (k:=false) (gX (d:=.bl false) (aj rfl (h _)) rfl)) rfl
theorem DI (j:J f p A) (hs:Sh d (f p)) (hp:p<100):bu [some (.lst xs),some (.ref U0.length),some (.int p),some d,x4] (U0++[dC A]) =
  (if fl f xs.length p=true then .ok (.rt (.int p)) (U0++[dC A]) else .ok (.nx [some (.lst xs),some (.ref U0.length),some (.int p),some d,some (gI ((f p).goals p))]) (U0++[dC (tN (f p) p A)])):=by
 have hk:=N5 hs;refine(a8 (qa (k:=true) (gX (d:=.bl true) (aj rfl (Kt hs _)) rfl))).trans ?_;have hin:∀x4,a9 (a6 (gi false) (a4 2) (a4 1)) [some (.lst xs),some (.ref U0.length),some (.int p),some d,x4] (U0++[dC A])=.ok (List.lookup p A).isSome (U0++[dC A]):=fun x4=>aC (ac rfl rfl (by rw[mM];exact T1 false))
 have second:(noSlot f p (f p)=false)->(ag (mSet 4 (mCall bQ (a5 (a4 2) (a5 (a4 3) mNil)))) (ag (mIte (mTru (mCallB Jc (a5 (b7 1 [0] (gN 0) (mOverL (a4 4)) fh (a6 t7 (a4 0) (mCallB bM (a5 (a4 1) mNil)))) mNil))) (av (a4 2)) mSkip)
   (mIte (a9 (a6 (gi false) (a4 2) (a4 1))) (mDrop (mCall fO (a5 (a4 1) (a5 (a4 4) (a5 (mCall d7 (a5 (a4 3) (a5 (a6 gDGet (a4 1) (a4 2)) mNil))) mNil))))) mSkip))) [some (.lst xs),some (.ref U0.length),some (.int p),some d,x4] (U0++[dC A]) =
   (if fl f xs.length p=true then .ok (.rt (.int p)) (U0++[dC A]) else .ok (.nx [some (.lst xs),some (.ref U0.length),some (.int p),some d,some (gI ((f p).goals p))]) (U0++[dC (tN (f p) p A)])):=fun hno=>by
  refine(ar 4 (aj rfl (N4 hs p _))).trans ?_;have hf:=Qu (xs:=xs) (U:=U0++[dC A]) (x1:=some (.ref U0.length)) (x2:=some (.int p)) (x3:=some d) (d8 (f p) p);unfold fl;rw[hno,XQ];cases z:((f p).goals p).any fun g=>decide (xs.length<=g) with
  |true=>rw[z] at hf;exact aN hf rfl
  |false =>
   rw[z] at hf;refine(a8 hf).trans ?_;rw[VN (by decide)];have hin':=hin (some (gI ((f p).goals p)));unfold tN;cases e:List.lookup p A with
   |none=>rw[e] at hin';exact aT hin'
   |some bs =>
    rw[e] at hin';have h8:=j.l p bs e;refine(bw hin').trans (fj (aj (a7 rfl (a7 rfl (a7 (aj (a7 rfl (a7 (ac rfl rfl ?_) am)) (RN hs h8 _)) am))) (M4 ?_ (by rw[sI];exact h8) j.l)))
    ·rw[mM];exact J4 e
    ·have:=j.n;have:=d8 (f p) p;omega
 have hl:=j.lack hk;have hin':=hin x4;cases e:List.lookup p A with
 |none =>
  rw[e] at hin' hl;exact(a8 (dZ hin')).trans (second hl.symm)
 |some bs =>
  rw[e] at hin' hl;have h8:=j.l p bs e;have hl':(f p).lacks bs=noSlot f p (f p):=hl;have h2:mTru (mCall cu (a5 (a4 3) (a5 (a6 gDGet (a4 1) (a4 2)) mNil))) [some (.lst xs),some (.ref U0.length),some (.int p),some d,x4] (U0++[dC A])=.ok (noSlot f p (f p)) (U0++[dC A]):=by
   rw[←hl'];exact gX (d:=.bl ((f p).lacks bs)) (aj (a7 rfl (a7 (ac rfl rfl (by rw[mM];exact J4 e)) am)) (RL hs h8 _)) rfl
  cases z:noSlot f p (f p) with
  |true =>
   rw[z] at h2;unfold fl;rw[z,Bool.true_or,VJ rfl];exact aN ((dy hin').trans h2) rfl
  |false =>
   rw[z] at h2;exact(a8 ((dy hin').trans h2)).trans (second z)
structure Hd (xs:ZE) (f:Nat->Vw) (b:Option Nat):Prop where
 good:∀i d,xs[i]? =some d->b≠some i->Sh d (f i)
 bad:∀i d,xs[i]? =some d->b=some i->∀U,aK [d] U=.ok (.bl false) U
def qm (n:Nat):Option Nat->Nat
 |some b=>b
 |none=>n
theorem Bs (h:Hd xs f b) (hn:xs.length<100):∀(m p:Nat) (A:As) (x2 x3 x4:ZF),p+m=xs.length->p<=qm xs.length b->(∀i,b=some i->i<xs.length)->J f p A->∃A' y2 y3 y4,
  forGo Ve bu (dG p (xs.drop p)) [some (.lst xs),some (.ref U0.length),x2,x3,x4] (U0++[dC A]) =
   (match(List.range' p (qm xs.length b-p)).find? (fl f xs.length),b with
    |some q,_=>.ok (.rt (.int q)) (U0++[dC A'])
    |none,some i=>.ok (.rt (.int i)) (U0++[dC A'])
    | none,none=>.ok (.nx [some (.lst xs),some (.ref U0.length),y2,y3,y4]) (U0++[dC A']))
 |0,p,A,x2,x3,x4,hm,ht,hb,j=>by
  have hd:xs.drop p=[]:=Y5 (by omega);cases b with
  |none =>
   refine⟨A,x2,x3,x4,?_⟩;rw[hd,show qm xs.length none-p=0 by show xs.length-p=0;omega];rfl
  |some i=>have:=hb i rfl;have:p<=i:=ht;omega
 |m+1,p,A,x2,x3,x4,hm,ht,hb,j=>by
  have hp:p<xs.length:=by omega
  have hd:xs.drop p=xs[p]::xs.drop (p+1):=XE hp;rw[hd];show ∃A' y2 y3 y4,forGo Ve bu (.tup [.int p,xs[p]]::dG (p+1) (xs.drop (p+1))) _ _=_;by_cases hpb:b=some p
  ·subst hpb;refine⟨A,none,none,none,?_⟩;rw[show qm xs.length (some p)-p=0 by show p-p=0;omega];exact Bx rfl (Ge (h.bad p _ (VI hp) rfl))
  ·have hs:=h.good p _ (VI hp) hpb;have ht':p+1<=qm xs.length b:=by
    cases b with
    |none=>exact hp
    |some i=>have h1:p<=i:=ht;have h2:p≠i:=fun z=>hpb (by rw[z]);show p+1<=i;omega
   have e:=DI (xs:=xs) (U0:=U0) (x4:=x4) j hs (by omega);rw[show qm xs.length b-p=(qm xs.length b-(p+1))+1 by omega,Xd,WV];cases z:fl f xs.length p with
   |true =>
    rw[z,VJ rfl] at e;exact⟨A,none,none,none,Bx rfl e⟩
   |false =>
    rw[z,VN (by decide)] at e;obtain⟨A',y2,y3,y4,ih⟩:=Bs h hn m (p+1) (tN (f p) p A) (some (.int p)) (some xs[p]) (some (gI ((f p).goals p))) (by omega) ht' hb (j.next (N5 hs));exact⟨A',y2,y3,y4,(Oe rfl e).trans ih⟩
def FU (f:Nat->Vw) (n:Nat) (b:Option Nat):Option Nat:=(first f n (qm n b)).or b
def GZ:Option Nat->D
 |some q=>.int q
 |none=>.non
theorem Qc (h:ρ[0]? =some (some (.lst xs))) (h1:1<=xs.length) (h2:xs.length<=2000):mNot (a9 (mChain EV EV (mC (.int 1)) (mCallB bM (a5 (a4 0) mNil)) (mC c_MOST_STEPS))) ρ U=.ok false U:=by
 refine qa (k:=true) (aC ?_);rw[Ba];show(Res.bind (mCallB bM (a5 (a4 0) mNil) ρ U) _)=_;rw[bh (d:=.int xs.length) (a7 (bz 0 h) am) rfl,ae,aL,aL,B3,VX (by omega)];show ofO U (some (D.bl (decide ((xs.length:Int)<=2000))))=_;rw[VX (by omega)];rfl
theorem Qr (h:Hd xs f b) (hn:xs.length<100) (h1:1<=xs.length) (hb:∀i,b=some i->i<xs.length) (U:Mu):∃ν,bn [.lst xs] U=.ok (GZ (FU f xs.length b)) (U++ν):=by
 have ht:0<=qm xs.length b:=WK _;obtain⟨A',y2,y3,y4,e⟩:=Bs (U0:=U) h hn xs.length 0 [(0,QY)] none none none (by omega) ht hb (J0 f);refine⟨[dC A'],aP 4 ((a8 (Qc rfl h1 (by omega))).trans ((ar 1 (d:=.ref U.length) (U1:=U++[dC [(0,QY)]]) rfl).trans ?_))⟩;have e0:mEnum (a4 0) [some (.lst xs),some (.ref U.length),none,none,none] (U++[dC [(0,QY)]])=.ok (dG 0 (xs.drop 0)) (U++[dC [(0,QY)]]):=rfl;unfold FU first
 rw[Nat.sub_zero] at e;cases z:(List.range' 0 (qm xs.length b)).find? (fl f xs.length) with
 |some q=>rw[z] at e;exact l9 ((fI e0).trans e)
 |none =>
  rw[z] at e;cases b with
  |some i=>exact l9 ((fI e0).trans e)
  |none=>exact(b8 ((fI e0).trans e)).trans (bv rfl)
end
def Vj (xs:ZE) (r:Option Nat):Prop:=∀U,∃ν,bn [.lst xs] U=.ok (GZ r) (U++ν)
theorem Qb (h:Vj xs r) (U:Mu):∃ν,d9 [.lst xs] U=.ok (.bl r.isNone) (U++ν):=by
 obtain⟨ν,e⟩:=h U;refine⟨ν,aP 0 (bv ?_)⟩;unfold mIsN;rw[aj (ms:=a5 (a4 0) mNil) (ds:=[.lst xs]) rfl e,ae];cases r<;>rfl
mutual
theorem rX:∀d:D,au d=true->eqD d d=true
 |.non,_=>rfl
 |.bl b,_=>by simp[eqD]
 |.int i,_=>by simp[eqD]
 |.str x,_=>by simp[eqD]
 |.tup xs,h=>by
  simp only[eqD];exact eqDs_self xs (by simpa[au] using h)
 |.lst xs,h=>by
  simp only[eqD];exact eqDs_self xs (by simpa[au] using h)
 |.dic _ _,h=>by simp[au] at h
 |.ref _,h=>by simp[au] at h
theorem eqDs_self:∀ds:ZE,plainDs ds=true->eqDs ds ds=true
 |[],_=>rfl
 |d::ds,h=>by
  simp only[plainDs,W0] at h;simp only[eqDs,rX d h.1,eqDs_self ds h.2,Bool.and_self]
end
end K30
namespace K30
open PySem PySem.Spec PyProof.Rows L2 M
def St (r:Res Out):Prop:=∃d v,r=.ok (.rt d) []/\Sh d v
theorem St.of (e:r=r') (h:St r'):St r:=by rw[e];exact h
theorem St.ite (ht:t ρ []=.ok k []) (h1:k=true->St (a ρ [])) (h2:k=false->St (r ρ [])):St (ag (mIte t a mSkip) r ρ []):=by
 cases k with
 |true =>
  obtain⟨d,v,e,hs⟩:=h1 rfl;exact⟨d,v,l9 ((bw ht).trans e),hs⟩
 |false=>exact St.of (a8 ht) (h2 rfl)
theorem St.ret (h:m ρ []=.ok d []) (hs:Sh d v):St (av m ρ []):=⟨d,v,bv h,hs⟩
theorem ij (ns:ZC) (k:Nat) {i:Int}(h:i=k) (U:Mu):di [sc ns,.int i] U=.ok (.int (ik ns k)) U:=by rw[h];exact PX ns k U
theorem Vx:∀x∈xR,ek (.str x) (.tup [.str aI,.str aM,.str aH,.str aD])=some (.bl ([aI,aM,aH,aD].contains x)):=qI ⟨rfl,rfl,rfl,rfl,rfl,rfl,rfl,rfl,rfl,rfl⟩
theorem G7 (i:Nat) (ht:t ρ U=.ok true U) (hm:m ρ U=.ok d U):ag (mIte t (mSet i m) mSkip) r ρ U=r (ρ.set i (some d)) U:=b8 ((bw ht).trans (by unfold mSet;rw[hm];rfl))
def U7 (m:MX) (ρ:En) (P:D->Prop):Prop:=∃d,m ρ []=.ok d []/\P d
section
variable {ρ:En}{m ma mb:MX}{ms:l7}{t:MB}
theorem Jl (ht:t ρ []=.ok k []) (h1:U7 ma ρ P) (h2:U7 mb ρ P):U7 (mIf t ma mb) ρ P:=by
 cases k with
 |true=>obtain⟨d,e,p⟩:=h1;exact⟨d,(iy ht).trans e,p⟩
 |false=>obtain⟨d,e,p⟩:=h2;exact⟨d,(jh ht).trans e,p⟩
theorem kF (n:Nat) (h:ms ρ []=.ok L []) (hl:L.length=n) (h0:0<n) (hi:m ρ []=.ok (.int i) []) (hp:∀d∈L,P d):U7 (a6 gIdx (mLst ms) (a6 bL m (mC (.int n)))) ρ P:=by
 obtain⟨d,hd,e2⟩:=G5 h hi hl h0;exact⟨d,e2,hp d hd⟩
theorem kW (h:ρ[x]? =some (some (.int n))) (h1:0<j) (h2:j<18446744073709551616):a6 dq (a4 x) (mC (.int j)) ρ U=.ok (.int (n / j)) U:=ac (bz x h) rfl (gK _ _ h1 h2)
theorem Bw (h:m ρ U=.ok (.int i) U) (h1:0<j):a6 bL m (mC (.int j)) ρ U=.ok (.int (i % j)) U:=ac h rfl (cS _ _ h1)
theorem G1 (h:m ρ []=.ok (.int i) []):mTru m ρ []=.ok (!(i==0)) []:=gX h (by show nh (.int i)=_;simp[nh];try rfl)
end
theorem fU (h1:0<=i) (h2:i<4294967296):gA .num (.int i):=.num h1 h2
theorem Kp (ns:ZC) (b l:Nat) (h1:1<=l) (h2:l<=2000):∃d v,vQ [sc ns,.int b,.int l] []=.ok d []/\Sh d v:=by
 suffices h:St (JF [some (sc ns),some (.int b),some (.int l),none,none,none,none,none,none,none,none] []) by
  obtain⟨d,v,e,hs⟩:=h;exact⟨d,v,aP 8 e,hs⟩
 refine St.of (ar 3 (aj rfl (ij ns b rfl []))) (St.of (ar 4 (aj (a7 (aj rfl (ij ns (b+1) rfl [])) am) (UK _ []))) ?_);have hn0:=PV ns b;generalize hn:ik ns b=n at hn0;have hk1:=SE (ik ns (b+1));have hk2:=SG (ik ns (b+1));generalize kv (ik ns (b+1))=k at hk1 hk2;have hK:=fU hk1 hk2;refine St.of (ar 5 (ac rfl rfl (cS n 18 (by decide)))) ?_;have hw0:0<=n % 18:=Ws _ (by decide);have hw1:n % 18<18:=Wz _ (by decide);generalize n % 18=y at hw0 hw1;obtain⟨small,es,ps⟩:=kF (ρ:=[some (sc ns),some (.int b),some (.int l),some (.int n),some (.int k),some (.int y),none,none,none,none,none]) (m:=a6 dq (a4 3) (mC (.int 18))) (L:=[.int 0,.int 1,.int 2,.int 5,.int 13,.int 19]) (P:=gA .num) (ms:=a5 (mC (.int 0)) (a5 (mC (.int 1)) (a5 (mC (.int 2)) (a5 (mC (.int 5)) (a5 (mC (.int 13)) (a5 (mC (.int 19)) mNil)))))) 6 rfl rfl (by decide) (kW rfl (by decide) (by decide)) (by
  simp only[W2,VR,We,Wn,WI];exact⟨fU (by decide) (by decide),fU (by decide) (by decide),fU (by decide) (by decide),fU (by decide) (by decide),fU (by decide) (by decide),fU (by decide) (by decide)⟩)
 refine St.of (ar 6 es) ?_;have hM:∃M:Nat,1<=M/\M<=2000/\t5 [.int 1,.int l]=some (.int M):=by
  refine⟨max 1 l,by omega,by omega,?_⟩;rw[ui];congr 1;congr 1;split<;>omega
 obtain⟨M,hM1,hM2,hM3⟩:=hM;have hone:∀(i:Nat) (ρ:En),ρ[0]? =some (some (sc ns))->ρ[1]? =some (some (.int b))->ρ[2]? =some (some (.int l))->a6 bL (mCall di (a5 (a4 0) (a5 (a6 bi (a4 1) (mC (.int i))) mNil))) (mCallB t5 (a5 (mC (.int 1)) (a5 (a4 2) mNil))) ρ []=.ok (.int ((ik ns (b+i) % M).toNat:Int)) []:=fun i ρ r0 r1 r2=>by
  rw[XJ (Ws _ (by omega))];exact ac (aj (a7 (bz 0 r0) (a7 (ac (bz 1 r1) rfl rfl) am)) (ij ns (b+i) (by simp) [])) (bh (a7 rfl (a7 (bz 2 r2) am)) hM3) (cS _ _ (by omega))
 refine St.of (ar 7 (hone 2 _ rfl rfl rfl)) ?_;refine St.of (ar 8 (hone 3 _ rfl rfl rfl)) ?_;have ho1:(ik ns (b+2) % M).toNat<=2000:=by have:=Wz (ik ns (b+2)) (b:=(M:Int)) (by omega);have:=Ws (ik ns (b+2)) (b:=(M:Int)) (by omega);omega
 have ho2:(ik ns (b+3) % M).toNat<=2000:=by have:=Wz (ik ns (b+3)) (b:=(M:Int)) (by omega);have:=Ws (ik ns (b+3)) (b:=(M:Int)) (by omega);omega
 generalize (ik ns (b+2) % M).toNat=one at ho1;generalize (ik ns (b+3) % M).toNat=other at ho2;have hsl:∀(ρ:En),ρ[3]? =some (some (.int n))->a6 bL (a6 dq (a4 3) (mC (.int 18))) (mC (.int 3)) ρ []=.ok (.int ((n / 18 % 3).toNat:Int)) []:=fun ρ r=>by
  rw[XJ (Ws _ (by decide))];exact Bw (kW r (by decide) (by decide)) (by decide)
 have hsl8:(n / 18 % 3).toNat<8:=by omega
 generalize (n / 18 % 3).toNat=slot at hsl hsl8;refine St.ite (k:=decide (y<3)) rfl (fun _=>?_) fun _=>?_
 ·obtain⟨a,ea,pa⟩:=kF (ρ:=[some (sc ns),some (.int b),some (.int l),some (.int n),some (.int k),some (.int y),some small,some (.int one),some (.int other),none,none]) (m:=a6 dq (a4 3) (mC (.int 18))) (L:=[.int 1,.int 2,.int 4]) (P:=gA .size) (ms:=a5 (mC (.int 1)) (a5 (mC (.int 2)) (a5 (mC (.int 4)) mNil))) 3 rfl rfl (by decide) (kW rfl (by decide) (by decide)) (by
   simp only[W2,VR,We,Wn,WI];exact⟨.size (.inl rfl),.size (.inr (.inl rfl)),.size (.inr (.inr rfl))⟩)
  obtain⟨x,ex,px⟩:=kF (ρ:=[some (sc ns),some (.int b),some (.int l),some (.int n),some (.int k),some (.int y),some small,some (.int one),some (.int other),none,none]) (m:=a6 dq (a4 3) (mC (.int 54))) (L:=[.str wY,.str FD]) (P:=gA .base) (ms:=a5 (mC (.str wY)) (a5 (mC (.str FD)) mNil)) 2 rfl rfl (by decide) (kW rfl (by decide) (by decide)) (by
   simp only[W2,VR,We,Wn,WI];exact⟨.base (by decide),.base (by decide)⟩)
  obtain⟨c,ec,pc⟩:=Jl (P:=gA .num) (ρ:=[some (sc ns),some (.int b),some (.int l),some (.int n),some (.int k),some (.int y),some small,some (.int one),some (.int other),none,none]) (G1 (Bw (kW (x:=3) (j:=108) rfl (by decide) (by decide)) (j:=5) (by decide))) (ma:=a4 6) (mb:=a4 4) ⟨_,rfl,ps⟩ ⟨_,rfl,hK⟩;exact St.ret (cY (a7 rfl (a7 ea (a7 ex (a7 ec am))))) (.load pa px pc)
 refine St.ite (k:=decide (y<5)) rfl (fun _=>?_) fun h5=>?_
 ·obtain⟨d,e,hd⟩:=kF (ρ:=[some (sc ns),some (.int b),some (.int l),some (.int n),some (.int k),some (.int y),some small,some (.int one),some (.int other),none,none]) (m:=a6 dq (a4 3) (mC (.int 18))) (ms:=a5 (mTup (a5 (mC (.str dX)) mNil)) (a5 (mTup (a5 (mC (.str fH)) mNil)) (a5 (mTup (a5 (mC (.str dW)) mNil)) (a5 (mTup (a5 (mC (.str be)) mNil)) mNil)))) (L:=[.tup [.str dX],.tup [.str fH],.tup [.str dW],.tup [.str be]]) (P:=fun d=>∃v,Sh d v) 4 rfl rfl (by decide) (kW rfl (by decide) (by decide)) (by
   simp only[W2,VR,We,Wn,WI];exact⟨⟨_,.len⟩,⟨_,.tax⟩,⟨_,.txa⟩,⟨_,.tella⟩⟩)
  obtain⟨v,hv⟩:=hd;exact St.ret e hv
 have h5:=of_decide_eq_false h5;refine St.ite (k:=decide (y<7)) rfl (fun h7=>?_) fun h7=>?_
 ·have h7:=X8 h7;obtain rfl|rfl:y=5\/y=6:=by omega
  ·exact St.ret (d:=.tup [.str eI,.int k]) rfl (.set hK)
  ·exact St.ret (d:=.tup [.str du,.int k]) rfl (.setx hK)
 have h7:=of_decide_eq_false h7;refine St.ite (k:=decide (y<9)) rfl (fun h9=>?_) fun h9=>?_
 ·have h9:=X8 h9;obtain rfl|rfl:y=7\/y=8:=by omega
  ·exact St.ret (cY (a7 (d:=.str ba) rfl (a7 (hsl _ rfl) am))) (.keep hsl8)
  ·exact St.ret (cY (a7 (d:=.str bf) rfl (a7 (hsl _ rfl) am))) (.fetch hsl8)
 refine St.ite (k:=decide (y<11)) rfl (fun _=>?_) fun _=>?_
 ·refine St.of (ar 9 (aj (a7 (kW rfl (by decide) (by decide)) am) (Ng _ []))) ?_;have ho:=C7 (n / 18);have ht:=Vx _ ho;cases hb:[aI,aM,aH,aD].contains (Sm (n / 18)) with
  |true =>
   rw[hb] at ht;have hm:0<=k % 31/\k % 31<31:=⟨Ws _ (by decide),Wz _ (by decide)⟩
   exact St.of (G7 4 (aC (ac rfl rfl ht)) (ac (x:=.int 1) (y:=.int (k % 31)) (z:=.int (1+k % 31)) rfl (Bw rfl (by decide)) rfl)) (St.ret (cY (a7 rfl (a7 rfl (a7 rfl am)))) (.do_ ho (by omega) (by omega) fun _=>⟨by omega,by omega⟩))
  |false =>
   rw[hb] at ht;exact St.of (a8 (aC (ac rfl rfl ht))) (St.ret (cY (a7 rfl (a7 rfl (a7 rfl am)))) (.do_ ho hk1 hk2 fun z=>by rw[List.contains_iff_mem.mpr z] at hb;cases hb))
 refine St.ite (k:=y==11) rfl (fun _=>?_) fun _=>?_
 ·exact St.ret (cY (a7 rfl (a7 (aj (a7 (kW rfl (by decide) (by decide)) am) (Ng _ [])) am))) (.dox (.op (C7 _)))
 refine St.ite (k:=y==12) rfl (fun _=>?_) fun _=>?_
 ·exact St.ret (cY (a7 rfl (a7 rfl am))) (.jump ho1)
 obtain⟨ts,et,pt⟩:=kF (ρ:=[some (sc ns),some (.int b),some (.int l),some (.int n),some (.int k),some (.int y),some small,some (.int one),some (.int other),none,none]) (m:=a6 dq (a4 3) (mC (.int 18))) (L:=[.str eR,.str eS,.str eQ,.str lM]) (P:=gA .test) (ms:=a5 (mC (.str eR)) (a5 (mC (.str eS)) (a5 (mC (.str eQ)) (a5 (mC (.str lM)) mNil)))) 4 rfl rfl (by decide) (kW rfl (by decide) (by decide)) (by
  simp only[W2,VR,We,Wn,WI];exact⟨.test (by decide),.test (by decide),.test (by decide),.test (by decide)⟩)
 refine St.of (ar 10 et) ?_;refine St.ite (k:=decide (y<15)) rfl (fun _=>?_) fun _=>?_
 ·obtain⟨c,ec,pc⟩:=Jl (P:=gA .num) (ρ:=[some (sc ns),some (.int b),some (.int l),some (.int n),some (.int k),some (.int y),some small,some (.int one),some (.int other),none,some ts]) (G1 (Bw (kW (x:=3) (j:=72) rfl (by decide) (by decide)) (j:=2) (by decide))) (ma:=a4 4) (mb:=a4 6) ⟨_,rfl,hK⟩ ⟨_,rfl,ps⟩;exact St.ret (cY (a7 rfl (a7 rfl (a7 ec (a7 rfl (a7 rfl am)))))) (.if_ pt pc ho1 ho2)
 refine St.ite (k:=y==15) rfl (fun _=>?_) fun _=>?_
 ·exact St.ret (cY (a7 rfl (a7 rfl (a7 rfl (a7 rfl am))))) (.ifx pt ho1 ho2)
 obtain⟨d,e,v,hv⟩:=Jl (k:=y==16) (P:=fun d=>∃v,Sh d v) (ρ:=[some (sc ns),some (.int b),some (.int l),some (.int n),some (.int k),some (.int y),some small,some (.int one),some (.int other),none,some ts]) (t:=a9 (a6 bB (a4 5) (mC (.int 16)))) (ma:=mTup (a5 (mC (.str bE)) (a5 (a4 4) mNil))) (mb:=mTup (a5 (mC (.str ba)) (a5 (a6 bL (a6 dq (a4 3) (mC (.int 18))) (mC (.int 3))) mNil))) rfl ⟨_,rfl,_,.tell hK⟩ ⟨_,cY (a7 rfl (a7 (hsl _ rfl) am)),_,.keep hsl8⟩;exact St.ret e hv
inductive JU:ZE->List Vw->Prop
 |nil:JU [] []
 |cons {d:D}{v:Vw}{ds:ZE}{vs:List Vw}:Sh d v->JU ds vs->JU (d::ds) (v::vs)
theorem JU.app:∀{ds es:ZE}{vs us:List Vw},JU ds vs->JU es us->JU (ds++es) (vs++us)
 |_,_,_,_,.nil,h=>h
 |_,_,_,_,.cons h h',g=>.cons h (h'.app g)
theorem JU.code:∀{ds:ZE}{vs:List Vw},JU ds vs->∀(i:Nat) (d:D),ds[i]? =some d->Sh d (vs.getD i .tl)
 |_,_,.nil,i,d,h=>by simp at h
 |_,_,.cons (d:=d0) (v:=v0) h hs,0,d,e=>by
  have:d0=d:=by simpa using e
  subst this;exact h
 |_,_,.cons h hs,i+1,d,e=>hs.code i d (by simpa using e)
abbrev Dh:MX:=mCall vQ (a5 (a4 1) (a5 (a6 bi (a4 2) (a6 eM (mC (.int 4)) (a4 0))) (a5 (a6 dn (a4 3) (a4 0)) mNil)))
theorem Jz (ns:ZC) (many:Nat) (hm:many<=20):∀(m p:Nat),p+m=many->∀(a:ZF) (acc:ZE),∃ds vs,aA (gN 0) fh Dh (iL (List.range' p m)) [a,some (sc ns),some (.int 0),some (.int many)] [] acc=.ok (acc++ds) []/\ds.length=m/\JU ds vs
 |0,p,_,a,acc=>⟨[],[],by simp[aA,iL],rfl,.nil⟩
 |m+1,p,hp,a,acc=>by
  obtain⟨d,v,e,hs⟩:=Kp ns (4*p) (many-p) (by omega) (by omega);obtain⟨ds,vs,ih,hl,hss⟩:=Jz ns many hm m (p+1) (by omega) (some (.int p)) (acc++[d]);refine⟨d::ds,v::vs,?_,by rw[W1,hl],.cons hs hss⟩;have e1:Dh [some (.int p),some (sc ns),some (.int 0),some (.int many)] []=.ok d []:=by
   refine aj (a7 rfl (a7 (ac (x:=.int 0) (y:=.int (4*(p:Int))) (z:=.int ((4*p:Nat):Int)) rfl (ac rfl rfl (dc _ _ (by decide) (by decide))) ?_) (a7 (ac rfl rfl (z:=.int ((many-p:Nat):Int)) ?_) am))) e
   ·show some (D.int (0+4*(p:Int)))=_;congr 2;omega
   ·show some (D.int ((many:Int)-(p:Int)))=_;congr 2;omega
  rw[gh];refine(eU (ds:=iL (List.range' (p+1) m)) rfl e1).trans (ih.trans ?_);rw[VU,Wf]
theorem Og (ha:ma ρ U=.ok x U1) (hb:mb ρ U1=.ok y U2) (h:QI (ai U2 x) (ai U2 y)=some ds):mCatC ma mb ρ U=.ok (.ref U2.length) (U2++[.lst ds]):=by
 unfold mCatC;rw[ha,ae,hb,ae,h];rfl
theorem Mp (ns:ZC) (many:Nat) (hm:many<=20):∃ds vs,rW [sc ns,.int 0,.int many] []=.ok (.ref 0) [.lst ds]/\ds.length=many+1/\JU ds vs:=by
 obtain⟨ds,vs,e,hl,hs⟩:=Jz ns many hm many 0 (by omega) none [];obtain⟨d,ed,v,hv⟩:=kF (ρ:=[some (sc ns),some (.int 0),some (.int many),some (.lst ds)]) (m:=mCall di (a5 (a4 0) (a5 (a6 bi (a4 1) (a6 eM (mC (.int 4)) (a4 2))) mNil))) (L:=[.tup [.str be],.tup [.str bE,.int 1]]) (P:=fun d=>∃v,Sh d v) (ms:=a5 (mTup (a5 (mC (.str be)) mNil)) (a5 (mTup (a5 (mC (.str bE)) (a5 (mC (.int 1)) mNil))) mNil)) 2 rfl rfl (by decide)
  (aj (a7 rfl (a7 (ac (x:=.int 0) (y:=.int (4*(many:Int))) rfl (ac rfl rfl (dc _ _ (by decide) (by decide))) rfl) am)) (ij ns (4*many) (by show 0+4*(many:Int)=_;omega) [])) (by
   simp only[W2,VR,We,Wn,WI];exact⟨⟨_,.tella⟩,⟨_,.tell (fU (by decide) (by decide))⟩⟩)
 refine⟨ds++[d],vs++[v],?_,by simp[hl],hs.app (.cons hv .nil)⟩;have e0:b7 1 [0,1,2] (gN 0) (mRange1 (a4 2)) fh Dh [some (sc ns),some (.int 0),some (.int many),none] []=.ok (.lst ds) []:=by
  unfold b7;rw[gY (n:=many) rfl (by omega),ae,VJ (by rw[iL,VS,YG];omega)];show(aA (gN 0) fh Dh _ [none,some (sc ns),some (.int 0),some (.int many)] [] []).bind _=_;rw[e];rfl
 refine aP 1 ((ar 3 e0).trans (bv (Og (U:=[]) (x:=.lst ds) (y:=.lst [d]) rfl (tq (a7 ed am)) ?_)));show(if ds.length+1<=16777216 then some (ds++[d]) else none)=_;rw[VJ (by omega)]
def Vw.lead:Vw->Bool
 |.jp _=>true
 |.br _ _=>true
 |_=>false
def Vw.tel:Vw->Bool
 |.tl=>true
 |_=>false
def Ed (f:Nat->Vw) (n p:Nat):Nat :=
 if h:p<n then
  match f p with
  |.jp k=>Ed f n (p+1+k)
  |.br k m=>if Ed f n (p+1+k)=Ed f n (p+1+m) then Ed f n (p+1+k) else p
  |_=>p
 else p
termination_by n-p
decreasing_by all_goals omega
def lg (f:Nat->Vw) (n p:Nat):Zu:=if(f p).lead=true then((f p).goals p).map (Ed f n) else[]
def In (f:Nat->Vw) (n:Nat):Prop:=∀p<n,∀g∈(f p).goals p,g<n
section
variable {f:Nat->Vw}{n:Nat}
theorem CT (h:p<n) (e:f p=.jp k):Ed f n p=Ed f n (p+1+k):=by rw[Ed,dif_pos h,e]
theorem yU (h:p<n) (e:f p=.br k m):Ed f n p=if Ed f n (p+1+k)=Ed f n (p+1+m) then Ed f n (p+1+k) else p:=by rw[Ed,dif_pos h,e]
theorem CS (e:(f p).lead=false):Ed f n p=p:=by
 rw[Ed];split
 ·cases q:f p<;>rw[q] at e<;>first|rfl|cases e
 ·rfl
theorem B9 (h:n<=p):Ed f n p=p:=by rw[Ed,dif_neg (by omega)]
theorem vT {P:Nat->Nat->Prop}(h0:∀p,(n<=p\/(f p).lead=false)->P p p) (h1:∀p k,p<n->f p=.jp k->P (p+1+k) (Ed f n (p+1+k))->P p (Ed f n (p+1+k)))
  (h2:∀p k m,p<n->f p=.br k m->P (p+1+k) (Ed f n (p+1+k))->P (p+1+m) (Ed f n (p+1+m))->(Ed f n (p+1+k)=Ed f n (p+1+m)->P p (Ed f n (p+1+k)))/\(Ed f n (p+1+k)≠Ed f n (p+1+m)->P p p)):∀p,P p (Ed f n p):=by
 have go:∀m p,n-p<=m->P p (Ed f n p):=by
  intro m
  induction m with
  |zero=>intro p hp;rw[B9 (by omega)];exact h0 p (.inl (by omega))
  |succ m ih =>
   intro p hp;by_cases hn:p<n
   ·cases e:f p with
    |jp k=>rw[CT hn e];exact h1 p k hn e (ih _ (by omega))
    |br k j =>
     rw[yU hn e];obtain⟨a,b⟩:=h2 p k j hn e (ih _ (by omega)) (ih _ (by omega));split
     ·exact a ‹_›
     ·exact b ‹_›
    |_=>rw[CS (by rw[e];rfl)];exact h0 p (.inr (by rw[e];rfl))
   ·rw[B9 (by omega)];exact h0 p (.inl (by omega))
 exact fun p=>go (n-p) p (VL _)
theorem s9 (p:Nat):p<=Ed f n p:=vT (P:=fun p q=>p<=q) (fun _ _=>VL _) (fun p k _ _ h=>by omega) (fun p k m _ _ h _=>⟨fun _=>by omega,fun _=>VL _⟩) p
theorem uo (G:In f n) (p:Nat):p<n->Ed f n p<n:=vT (P:=fun p q=>p<n->q<n) (fun _ _ h=>h) (fun p k h e i _=>i (G p h _ (by rw[e];simp[Vw.goals]))) (fun p k m h e i _=>⟨fun _ _=>i (G p h _ (by rw[e];simp[Vw.goals])),fun _ h=>h⟩) p
theorem o7 (p:Nat):Ed f n (Ed f n p)=Ed f n p:=by
 refine vT (f:=f) (n:=n) (P:=fun p q=>Ed f n q=q) (fun p h=>?_) (fun p k _ _ h=>h) (fun p k m h e i j=>⟨fun _=>i,fun z=>?_⟩) p
 ·rcases h with h|h
  ·exact B9 h
  ·exact CS h
 ·rw[yU h e,VN z]
theorem xP (h:p<n) (e:Ed f n p=p) (hl:(f p).lead=true):∃k m,f p=.br k m/\Ed f n (p+1+k)≠Ed f n (p+1+m):=by
 cases q:f p with
 |jp k =>
  rw[CT h q] at e;have:=s9 (f:=f) (n:=n) (p+1+k);omega
 |br k m =>
  refine⟨k,m,rfl,fun z=>?_⟩;rw[yU h q,VJ z] at e;have:=s9 (f:=f) (n:=n) (p+1+k);omega
 |_=>rw[q] at hl;cases hl
theorem Ce (e:Ed f n p≠p):(f p).lead=true/\p<Ed f n p:=by
 refine⟨?_,by have:=s9 (f:=f) (n:=n) p;omega⟩;cases h:(f p).lead with
 |true=>rfl
 |false=>exact absurd (CS h) e
theorem Qa (h:g∈lg f n p):Ed f n g=g/\p<g:=by
 unfold lg at h;split at h
 ·obtain⟨q,hq,rfl⟩:=List.mem_map.mp h;have:=iJ hq;have:=s9 (f:=f) (n:=n) q;exact⟨o7 q,by omega⟩
 ·cases h
theorem Sz (G:In f n) (hp:p<n) (h:g∈lg f n p):g<n:=by
 unfold lg at h;split at h
 ·obtain⟨q,hq,rfl⟩:=List.mem_map.mp h;exact uo G q (G p hp q hq)
 ·cases h
end
structure PS where
 left:Zu
 led:Zu
 on:Option Nat
def here (f:Nat->Vw) (n:Nat) (on:Option Nat) (p:Nat):Bool:=match on with
 |some q=>decide (Ed f n q=p)
 |none=>false
def bg (f:Nat->Vw) (n q:Nat):Zu:=if(f (Ed f n q)).tel=true then[] else[Ed f n q]
def GU (f:Nat->Vw) (n:Nat) (S:PS) (p:Nat):PS:=⟨S.left++[p],(lg f n p).foldl ins S.led,if((f p).lead||(f p).tel)=true then none else some (p+1)⟩
def brid (f:Nat->Vw) (n:Nat) (S:PS) (p:Nat):PS:=match S.on with
 |some q=>if here f n S.on p=true then S else⟨S.left++[q],(bg f n q).foldl ins S.led,S.on⟩
 |none=>S
def turn (f:Nat->Vw) (n:Nat) (S:PS) (p:Nat):PS:=if here f n S.on p=true\/p∈S.led then GU f n (brid f n S p) p else S
def stg (f:Nat->Vw) (n:Nat):Nat->PS
 |0=>⟨[],[],some 0⟩
 |p+1=>if Ed f n p=p then turn f n (stg f n p) p else stg f n p
def Vw.plain (v:Vw):Bool:=!(v.lead||v.tel)
theorem fu {l r:Zu}(h:x∈l):(l++r).idxOf x=l.idxOf x:=by rw[List.idxOf_append,VJ h]
theorem jX {l r:Zu}(h:x∉l):(l++x::r).idxOf x=l.length:=by rw[List.idxOf_append,VN h,List.idxOf_cons_self,Nat.zero_add]
inductive El (f:Nat->Vw) (n:Nat) (S:PS) (x:Nat):Prop
 |last:Ed f n x=x->(f x).plain=true->S.on=some (x+1)->El f n S x
 |next (y:Nat):Ed f n x=x->(f x).plain=true->y∈S.left->S.left.idxOf y=S.left.idxOf x+1->(y=Ed f n (x+1)\/(y=x+1/\Ed f n (x+1)≠x+1))->El f n S x
 |tl:Ed f n x=x->(f x).tel=true->El f n S x
 |br (k m:Nat):Ed f n x=x->f x=.br k m->Ed f n (x+1+k)≠Ed f n (x+1+m)->Ed f n (x+1+k)∈S.led->Ed f n (x+1+m)∈S.led->El f n S x
 |brid (y:Nat):Ed f n x≠x->y∈S.left->S.left.idxOf y=S.left.idxOf x+1->y<Ed f n x->((f (Ed f n x)).tel=true\/Ed f n x∈S.led)->El f n S x
inductive Rc (f:Nat->Vw) (n:Nat) (left:Zu) (x:Nat):Prop
 |zero:left.idxOf x=0->Rc f n left x
 |plain (y:Nat):y∈left->y<x->Ed f n y=y->(f y).plain=true->left.idxOf x=left.idxOf y+1->Rc f n left x
 |led (y:Nat):y∈left->y<x->Ed f n y=y->x∈lg f n y->Rc f n left x
 |brid (y:Nat):y∈left->y<x->Ed f n y≠y->(f (Ed f n y)).tel=false->x=Ed f n y->Rc f n left x
structure Iv (f:Nat->Vw) (n p:Nat) (S:PS):Prop where
 inc:S.left.Pairwise (· < ·)
 bd:∀x∈S.left,x<p
 led:∀g∈S.led,Ed f n g=g/\g<n/\(g<p->g∈S.left)/\∃y∈S.left,y<g/\((Ed f n y=y/\g∈lg f n y)\/(Ed f n y≠y/\(f (Ed f n y)).tel=false/\g=Ed f n y))
 on:∀q,S.on=some q->q<=p/\p<=Ed f n q/\q<n/\(∀z∈S.left,z<q)/\((q=0/\S.left=[])\/∃x∈S.left,q=x+1/\S.left.idxOf x+1=S.left.length/\Ed f n x=x/\(f x).plain=true)
 non:S.on=none->S.left≠[]
 hd:∀x,S.left.head? =some x->x=Ed f n 0
 el:∀x∈S.left,El f n S x
 rc:∀x∈S.left,Rc f n S.left x
section
variable {f:Nat->Vw}{n:Nat}
theorem El.mono {S S':PS}{x:Nat}(h:El f n S x) (r:Zu) (hl:S'.left=S.left++r) (hd:∀g∈S.led,g∈S'.led) (hx:x∈S.left) (h0:S.on=some (x+1)->S'.on=some (x+1)):El f n S' x:=by
 cases h with
 |last a b c=>exact .last a b (h0 c)
 |next y a b c d e=>exact .next y a b (by rw[hl];exact W5 _ c) (by rw[hl,fu c,fu hx];exact d) e
 |tl a b=>exact .tl a b
 |br k m a b c d e=>exact .br k m a b c (hd _ d) (hd _ e)
 |brid y a b c d e=>exact .brid y a (by rw[hl];exact W5 _ b) (by rw[hl,fu b,fu hx];exact c) d (e.imp id (hd _))
theorem Rc.mono {l:Zu}{x:Nat}(h:Rc f n l x) (r:Zu) (hx:x∈l):Rc f n (l++r) x:=by
 cases h with
 |zero a=>exact .zero (by rw[fu hx];exact a)
 |plain y a b c d e=>exact .plain y (W5 _ a) b c d (by rw[fu a,fu hx];exact e)
 |led y a b c d=>exact .led y (W5 _ a) b c d
 |brid y a b c d e=>exact .brid y (W5 _ a) b c d e
theorem Iv.zero (hn:0<n):Iv f n 0 (stg f n 0):=by
 refine⟨.nil,fun x h=>(nomatch h),fun g h=>(nomatch h),fun q e=>?_,fun e=>(nomatch e),fun x e=>(nomatch e),fun x h=>(nomatch h),fun x h=>(nomatch h)⟩;cases e;exact⟨VL _,WK _,hn,fun z h=>(nomatch h),.inl ⟨rfl,rfl⟩⟩
theorem Iv.skip (I:Iv f n p S) (h1:∀q,S.on=some q->Ed f n q≠p) (h2:p∉S.led):Iv f n (p+1) S:=by
 refine⟨I.inc,fun x h=>by have:=I.bd x h;omega,fun g hg=>?_,fun q e=>?_,I.non,I.hd,I.el,I.rc⟩
 ·obtain⟨a,b,c,d⟩:=I.led g hg;refine⟨a,b,fun h=>?_,d⟩;have:g≠p:=fun z=>h2 (z▸hg)
  exact c (by omega)
 ·obtain⟨a,b,c,d⟩:=I.on q e;have:=h1 q e;exact⟨by omega,by omega,c,d⟩
theorem y0 (I:Iv f n p S) (h:Ed f n p≠p):Iv f n (p+1) S:=I.skip (fun q e z=>h (by rw[←z];exact o7 q)) fun z=>h (I.led p z).1
theorem Iv.put (G:In f n) (hp:p<n) (ho:Ed f n p=p)
  (inc:S1.left.Pairwise (· < ·)) (bd:∀x∈S1.left,x<p)
  (led:∀g∈S1.led,Ed f n g=g/\g<n/\(g<p->g∈S1.left)/\∃y∈S1.left,y<g/\((Ed f n y=y/\g∈lg f n y)\/(Ed f n y≠y/\(f (Ed f n y)).tel=false/\g=Ed f n y)))
  (hd:∀x,(S1.left++[p]).head? =some x->x=Ed f n 0)
  (el:∀x∈S1.left,El f n (GU f n S1 p) x) (rc:∀x∈S1.left++[p],Rc f n (S1.left++[p]) x):Iv f n (p+1) (GU f n S1 p):=by
 have hnp:p∉S1.left:=fun z=>by have:=bd p z;omega
 refine⟨?_,?_,?_,?_,?_,hd,?_,rc⟩
 ·show(S1.left++[p]).Pairwise (· < ·);rw[List.pairwise_append];exact⟨inc,by simp,fun a ha b hb=>by cases List.mem_singleton.mp hb;exact bd a ha⟩
 ·intro x hx;rcases List.mem_append.mp hx with h|h
  ·have:=bd x h;omega
  ·cases List.mem_singleton.mp h;omega
 ·intro g hg;rcases cJ.mp hg with h|h
  ·obtain⟨a,b,c,y,hy,hl,d⟩:=led g h;refine⟨a,b,fun z=>?_,y,W5 _ hy,hl,d⟩;by_cases e:g=p
   ·rw[e];exact W8 _ (List.mem_singleton.mpr rfl)
   ·exact W5 _ (c (by omega))
  ·obtain⟨a,b⟩:=Qa h;exact⟨a,Sz G hp h,fun z=>by omega,p,W8 _ (List.mem_singleton.mpr rfl),b,.inl ⟨ho,h⟩⟩
 ·intro q e;have e:(if((f p).lead||(f p).tel)=true then none else some (p+1))=some q:=e;split at e
  ·cases e
  ·rename_i hn;cases e;have hlt:p+1<n:=G p hp _ (by cases h:f p<;>first|(rw[h] at hn;exact absurd rfl hn)|simp[Vw.goals]);refine⟨VL _,s9 _,hlt,fun z hz=>?_,.inr ⟨p,W8 _ (List.mem_singleton.mpr rfl),rfl,?_,ho,?_⟩⟩
   ·rcases List.mem_append.mp hz with h|h
    ·have:=bd z h;omega
    ·cases List.mem_singleton.mp h;omega
   ·show(S1.left++[p]).idxOf p+1=(S1.left++[p]).length;rw[jX hnp];simp
   ·show(!((f p).lead||(f p).tel))=true;rw[Bool.not_eq_true] at hn;rw[hn];rfl
 ·intro _ z;have:(S1.left++[p])=[]:=z;simp at this
 ·intro x hx;rcases List.mem_append.mp hx with h|h
  ·exact el x h
  ·cases List.mem_singleton.mp h;cases hv:(f p).lead with
   |true =>
    obtain⟨k,m,e,ne⟩:=xP hp ho hv;have:lg f n p=[Ed f n (p+1+k),Ed f n (p+1+m)]:=by unfold lg;rw[VJ hv,e];rfl
    exact .br k m ho e ne (cJ.mpr (.inr (by rw[this];simp))) (cJ.mpr (.inr (by rw[this];simp)))
   |false =>
    cases ht:(f p).tel with
    |true=>exact .tl ho ht
    |false=>exact .last ho (by unfold Vw.plain;rw[hv,ht];rfl) (by show(if((f p).lead||(f p).tel)=true then none else some (p+1))=_;rw[hv,ht];rfl)
theorem Gv (h:∃y∈l,y<p/\((Ed f n y=y/\p∈lg f n y)\/(Ed f n y≠y/\(f (Ed f n y)).tel=false/\p=Ed f n y))) (r:Zu):Rc f n (l++r) p:=by
 obtain⟨y,hy,hl,h|h⟩:=h
 ·exact .led y (W5 _ hy) hl h.1 h.2
 ·exact .brid y (W5 _ hy) hl h.1 h.2.1 h.2.2
theorem Iv.turn {p:Nat}{S:PS}(I:Iv f n p S) (G:In f n) (hp:p<n) (ho:Ed f n p=p):Iv f n (p+1) (turn f n S p):=by
 unfold K30.turn;by_cases ht:here f n S.on p=true\/p∈S.led
 ·rw[VJ ht];have hnp:p∉S.left:=fun z=>by have:=I.bd p z;omega
  cases hon:S.on with
  |none =>
   have hl:p∈S.led:=ht.resolve_left (by rw[hon];exact fun z=>nomatch z);have e1:brid f n S p=S:=by unfold brid;rw[hon]
   rw[e1];have ne:=I.non hon;refine Iv.put G hp ho I.inc I.bd I.led (fun x e=>I.hd x ?_) (fun x hx=>(I.el x hx).mono [p] rfl (fun g hg=>cJ.mpr (.inl hg)) hx (by rw[hon];exact fun z=>nomatch z)) fun x hx=>?_
   ·cases hq:S.left with
    |nil=>exact absurd hq ne
    |cons a t=>rw[hq] at e;exact e
   ·rcases List.mem_append.mp hx with h|h
    ·exact(I.rc x h).mono _ h
    ·cases List.mem_singleton.mp h;exact Gv (I.led p hl).2.2.2 _
  |some q =>
   obtain⟨o1,o2,o3,o4,o5⟩:=I.on q hon;by_cases hh:Ed f n q=p
   ·have e1:brid f n S p=S:=by unfold brid here;rw[hon];dsimp only;rw[VJ (by simpa using hh)]
    rw[e1];refine Iv.put G hp ho I.inc I.bd I.led (fun x e=>?_) (fun x hx=>?_) fun x hx=>?_
    ·rcases o5 with⟨z1,z2⟩|⟨y,hy,_⟩
     ·rw[z2] at e;cases e;rw[←hh,z1]
     ·refine I.hd x ?_;cases hq:S.left with
      |nil=>rw[hq] at hy;cases hy
      |cons a t=>rw[hq] at e;exact e
    ·by_cases hz:S.on=some (x+1)
     ·rw[hon] at hz;cases hz;rcases o5 with⟨z1,z2⟩|⟨y,hy,a,b,c,d⟩
      ·rw[z2] at hx;cases hx
      ·have:y=x:=by omega
       subst this;refine .next p c d (W8 _ (List.mem_singleton.mpr rfl)) ?_ (.inl hh.symm);show(S.left++[p]).idxOf p=(S.left++[p]).idxOf y+1;rw[jX hnp,fu hy,b]
     ·exact(I.el x hx).mono [p] rfl (fun g hg=>cJ.mpr (.inl hg)) hx fun z=>absurd z hz
    ·rcases List.mem_append.mp hx with h|h
     ·exact(I.rc x h).mono _ h
     ·cases List.mem_singleton.mp h;rcases o5 with⟨z1,z2⟩|⟨y,hy,a,b,c,d⟩
      ·exact .zero (by rw[jX hnp,z2];rfl)
      ·exact .plain y (W5 _ hy) (I.bd y hy) c d (by rw[jX hnp,fu hy,b])
   ·have hl:p∈S.led:=ht.resolve_left (by rw[hon];show ¬decide (Ed f n q=p)=true;simpa using hh);have e1:brid f n S p=⟨S.left++[q],(bg f n q).foldl ins S.led,some q⟩:=by unfold brid here;rw[hon];dsimp only;rw[VN (by simpa using hh)]
    rw[e1];have qp:q<p:=by
     by_cases z:q=p
     ·exact absurd (z▸ho) hh
     ·omega
    have pe:p<Ed f n q:=by omega
    have qo:Ed f n q≠q:=by omega
    have hnq:q∉S.left:=fun z=>by have:=o4 q z;omega
    obtain⟨y,hy,a,b,c,d⟩:∃x∈S.left,q=x+1/\S.left.idxOf x+1=S.left.length/\Ed f n x=x/\(f x).plain=true:=by
     rcases o5 with⟨z1,z2⟩|h
     ·obtain⟨_,_,_,w,hw,_⟩:=I.led p hl;rw[z2] at hw;cases hw
     ·exact h
    have hnp2:p∉S.left++[q]:=fun z=>by
     rcases List.mem_append.mp z with h|h
     ·exact hnp h
     ·have:=List.mem_singleton.mp h;omega
    have mq:q∈S.left++[q]:=W8 _ (List.mem_singleton.mpr rfl);have ldE:∀g∈(bg f n q).foldl ins S.led,g∈S.led\/((f (Ed f n q)).tel=false/\g=Ed f n q):=fun g hg=>by
     rcases cJ.mp hg with h|h
     ·exact .inl h
     ·unfold bg at h;split at h
      ·cases h
      ·rename_i hz;exact .inr ⟨by simpa using hz,List.mem_singleton.mp h⟩
    refine Iv.put G hp ho ?_ (fun x hx=>?_) (fun g hg=>?_) (fun x e=>?_) (fun x hx=>?_) fun x hx=>?_
    ·show(S.left++[q]).Pairwise (· < ·);rw[List.pairwise_append];exact⟨I.inc,by simp,fun a ha b hb=>by cases List.mem_singleton.mp hb;exact o4 a ha⟩
    ·rcases List.mem_append.mp hx with h|h
     ·exact I.bd x h
     ·cases List.mem_singleton.mp h;exact qp
    ·rcases ldE g hg with h|⟨h1,h2⟩
     ·obtain⟨a1,a2,a3,w,hw,hl',d1⟩:=I.led g h;exact⟨a1,a2,fun z=>W5 _ (a3 z),w,W5 _ hw,hl',d1⟩
     ·subst h2;exact⟨o7 q,uo G q o3,fun z=>by omega,q,mq,by omega,.inr ⟨qo,h1,rfl⟩⟩
    ·refine I.hd x ?_;cases hq:S.left with
     |nil=>rw[hq] at hy;cases hy
     |cons a t =>
      have e:((S.left++[q])++[p]).head? =some x:=e;rw[hq] at e;exact e
    ·have hl0:(GU f n ⟨S.left++[q],(bg f n q).foldl ins S.led,some q⟩ p).left=S.left++[q,p]:=by show S.left++[q]++[p]=_;simp
     rcases List.mem_append.mp hx with h|h
     ·by_cases hz:S.on=some (x+1)
      ·rw[hon] at hz;cases hz;have:y=x:=by omega
       subst this;refine .next (y+1) c d (by rw[hl0];simp) ?_ (.inr ⟨rfl,qo⟩);rw[hl0,jX hnq,fu hy,b]
      ·exact(I.el x h).mono [q,p] hl0 (fun g hg=>cJ.mpr (.inl (cJ.mpr (.inl hg)))) h fun z=>absurd z hz
     ·cases List.mem_singleton.mp h;refine .brid p qo (by rw[hl0];simp) ?_ pe ?_
      ·show(S.left++[q]++[p]).idxOf p=(S.left++[q]++[p]).idxOf q+1;rw[jX hnp2,fu mq,jX hnq];simp
      ·cases ht:(f (Ed f n q)).tel with
       |true=>exact .inl rfl
       |false=>exact .inr (cJ.mpr (.inl (cJ.mpr (.inr (by unfold bg;rw[ht];simp)))))
    ·rcases List.mem_append.mp hx with h|h
     ·rcases List.mem_append.mp h with h'|h'
      ·have:=(I.rc x h').mono ([q]++[p]) h';rw[←VU] at this;exact this
      ·cases List.mem_singleton.mp h';refine .plain y (W5 _ (W5 _ hy)) (by omega) c d ?_;rw[fu mq,jX hnq,VU,fu hy,b]
     ·cases List.mem_singleton.mp h;have:=Gv (I.led p hl).2.2.2 ([q]++[p]);rw[←VU] at this;exact this
 ·rw[VN ht];refine I.skip (fun q e z=>ht (.inl ?_)) fun z=>ht (.inr z)
  rw[e];show decide (Ed f n q=p)=true;simpa using z
theorem Iv.stg (G:In f n) (hn:0<n):∀p,p<=n->Iv f n p (stg f n p)
 |0,_=>Iv.zero hn
 |p+1,h=>by
  have I:=Iv.stg G hn p (by omega);unfold K30.stg;split
  ·exact I.turn G (by omega) ‹_›
  ·exact y0 I ‹_›
end
def nv (f:Nat->Vw) (n:Nat) (L:Zu) (x:Nat):Vw :=
 if Ed f n x=x then(match f x with
  |.br k m=>.br (L.idxOf (Ed f n (x+1+k))-(L.idxOf x+1)) (L.idxOf (Ed f n (x+1+m))-(L.idxOf x+1))
  | v=>v)
 else if(f (Ed f n x)).tel=true then .tl else .jp (L.idxOf (Ed f n x)-(L.idxOf x+1))
def UL:Vw->Bool
 |.jp _=>true
 |_=>false
theorem By {v:Vw}(h:v.tel=true):v=.tl:=by cases v<;>first|rfl|cases h
inductive Nw (f:Nat->Vw) (n:Nat) (L:Zu) (x:Nat):Prop
 |pl (y:Nat):Ed f n x=x->(f x).plain=true->nv f n L x=f x->y∈L->L.idxOf y=L.idxOf x+1->(y=Ed f n (x+1)\/y=x+1)->Nw f n L x
 |tl:Ed f n x=x->(f x).tel=true->nv f n L x=.tl->Nw f n L x
 |br (k m:Nat):Ed f n x=x->f x=.br k m->Ed f n (x+1+k)∈L->Ed f n (x+1+m)∈L->Ed f n (x+1+k)≠Ed f n (x+1+m)->L.idxOf x<L.idxOf (Ed f n (x+1+k))->L.idxOf x<L.idxOf (Ed f n (x+1+m)) ->
   nv f n L x=.br (L.idxOf (Ed f n (x+1+k))-(L.idxOf x+1)) (L.idxOf (Ed f n (x+1+m))-(L.idxOf x+1))->Nw f n L x
 |bt:Ed f n x≠x->(f (Ed f n x)).tel=true->nv f n L x=.tl->Nw f n L x
 |bj:Ed f n x≠x->(f (Ed f n x)).tel=false->Ed f n x∈L->L.idxOf x+1<L.idxOf (Ed f n x)->nv f n L x=.jp (L.idxOf (Ed f n x)-(L.idxOf x+1))->Nw f n L x
theorem Cv {L:Zu}(hn:L.Nodup) (h:i<L.length):L.idxOf (L.getD i 0)=i:=by
 rw[W7,VI h];exact hn.idxOf_getElem i h
theorem oK {L:Zu}(h:x∈L):L.getD (L.idxOf x) 0=x:=by
 have:=Wo h;rw[W7,VI this];exact XZ this
theorem wG {L:Zu}(h:i<L.length):L.getD i 0∈L:=by
 rw[W7,VI h];exact YW h
theorem yE {L:Zu}(hi:L.Pairwise (· < ·)) (hx:x∈L) (hy:y∈L) (h:x<y):L.idxOf x<L.idxOf y:=by
 have lx:=Wo hx;have ly:=Wo hy;have ex:=XZ lx;have ey:=XZ ly;rcases Nat.lt_trichotomy (L.idxOf x) (L.idxOf y) with h1|h1|h1
 ·exact h1
 ·have:x=y:=by rw[←ex,←ey];simp only[h1]
  omega
 ·have:=List.pairwise_iff_getElem.mp hi _ _ ly lx h1;rw[ex,ey] at this;omega
theorem Qm {L:Zu}(hx:x∈L) (hy:y∈L) (h:L.idxOf x=L.idxOf y):x=y:=by rw[←oK hx,←oK hy,h]
section
variable {f:Nat->Vw}{n:Nat}{S:PS}
theorem Iv.off (G:In f n) (I:Iv f n n S):S.on=none:=by
 cases h:S.on with
 |none=>rfl
 |some q =>
  obtain⟨_,a,b,_⟩:=I.on q h;have:=uo G q b;omega
theorem Iv.nd (I:Iv f n n S):S.left.Nodup:=I.inc.imp fun h=>W3 h
theorem Iv.nw (G:In f n) (I:Iv f n n S) (hx:x∈S.left):Nw f n S.left x:=by
 have off:=I.off G;cases I.el x hx with
 |last _ _ c=>rw[off] at c;cases c
 |next y a b c d e =>
  refine .pl y a b ?_ c d (e.imp id fun h=>h.1);unfold nv;rw[VJ a];cases h:f x<;>first|rfl|(rw[h] at b;cases b)
 |tl a b =>
  refine .tl a b ?_;unfold nv;rw[VJ a];cases h:f x<;>first|rfl|(rw[h] at b;cases b)
 |br k m a b c d e =>
  have l1:=I.led _ d;have l2:=I.led _ e;have m1:=l1.2.2.1 l1.2.1;have m2:=l2.2.2.1 l2.2.1;have g1:=s9 (f:=f) (n:=n) (x+1+k);have g2:=s9 (f:=f) (n:=n) (x+1+m);refine .br k m a b m1 m2 c (yE I.inc hx m1 (by omega)) (yE I.inc hx m2 (by omega)) ?_;unfold nv;rw[VJ a,b]
 |brid y a b c d e =>
  cases ht:(f (Ed f n x)).tel with
  |true =>
   refine .bt a ht ?_;unfold nv;rw[VN a,VJ ht]
  |false =>
   have hl:=e.resolve_left (by rw[ht];exact fun z=>nomatch z);have l1:=I.led _ hl;have m1:=l1.2.2.1 l1.2.1;refine .bj a ht m1 (by rw[←c];exact yE I.inc b m1 d) ?_;unfold nv;rw[VN a,VN (by rw[ht];exact fun z=>nomatch z)]
theorem Nw.ownJ (h:Nw f n L x) (ho:Ed f n x=x):UL (nv f n L x)=false/\((nv f n L x).tel=true->(f x).tel=true):=by
 cases h with
 |pl y a b c=>rw[c];cases hv:f x<;>first|exact⟨rfl,fun h=>h⟩|(rw[hv] at b;cases b)
 |tl a b c=>rw[c];exact⟨rfl,fun _=>b⟩
 |br k m a b c d e g g' i=>rw[i];exact⟨rfl,fun h=>nomatch h⟩
 |bt a=>exact absurd ho a
 |bj a=>exact absurd ho a
theorem Nw.go (h:Nw f n L x):∀i∈(nv f n L x).goals (L.idxOf x),∃y∈L,i=L.idxOf y/\((Ed f n x=x/\(f x).plain=true/\nv f n L x=f x/\i=L.idxOf x+1/\(y=Ed f n (x+1)\/y=x+1))\/(Ed f n y=y/\((∃q∈(f x).goals x,y=Ed f n q)\/y=Ed f n x)/\(nv f n L x).lead=true/\(UL (nv f n L x)=true->(f y).tel=false/\L.idxOf x+1<i))):=by
 intro i hi;cases h with
 |pl y a b c d e g =>
  rw[c] at hi ⊢;have:i=L.idxOf x+1:=by cases hv:f x<;>rw[hv] at hi b<;>first|exact List.mem_singleton.mp hi|cases b
  exact⟨y,d,by rw[this,e],.inl ⟨a,b,rfl,this,g⟩⟩
 |tl a b c=>rw[c] at hi;cases hi
 |bt a b c=>rw[c] at hi;cases hi
 |br k m a b c d e g1 g2 j =>
  rw[j] at hi ⊢;simp only[Vw.goals,Wd,VR,WL] at hi;rcases hi with rfl|rfl
  ·exact⟨_,c,by omega,.inr ⟨o7 _,.inl ⟨_,by rw[b];simp[Vw.goals],rfl⟩,rfl,fun z=>nomatch z⟩⟩
  ·exact⟨_,d,by omega,.inr ⟨o7 _,.inl ⟨_,by rw[b];simp[Vw.goals],rfl⟩,rfl,fun z=>nomatch z⟩⟩
 |bj a b c d j =>
  rw[j] at hi ⊢;have:i=L.idxOf x+1+(L.idxOf (Ed f n x)-(L.idxOf x+1)):=List.mem_singleton.mp hi;exact⟨_,c,by omega,.inr ⟨o7 _,.inr rfl,rfl,fun _=>⟨b,by omega⟩⟩⟩
structure Tg (g:Nat->Vw) (m:Nat):Prop where
 io:In g m
 jj:∀i<m,(g i).lead=true->∀q∈(g i).goals i,UL (g q)=false
 j0:∀i<m,∀k,g i=.jp k->1<=k/\(g (i+1+k)).tel=false
 bb:∀i<m,∀a b,g i=.br a b->a≠b
 rc:∀i<m,i=0\/∃j<i,i∈(g j).goals j
def K1 (f:Nat->Vw) (n:Nat) (L:Zu):Nat->Vw:=fun i=>nv f n L (L.getD i 0)
theorem Iv.tg (G:In f n) (I:Iv f n n S):Tg (K1 f n S.left) S.left.length:=by
 have nw:∀i<S.left.length,Nw f n S.left (S.left.getD i 0):=fun i h=>I.nw G (wG h)
 have go:∀i<S.left.length,∀q∈(K1 f n S.left i).goals i,_:=fun i h q hq=>(nw i h).go q (by rw[Cv I.nd h];exact hq)
 refine⟨fun i h q hq=>?_,fun i h hl q hq=>?_,fun i h k e=>?_,fun i h a b e=>?_,fun i h=>?_⟩
 ·obtain⟨y,hy,rfl,_⟩:=go i h q hq;exact Wo hy
 ·obtain⟨y,hy,rfl,c⟩:=go i h q hq;unfold K1 at hl ⊢;rw[oK hy];rcases c with⟨a,b,c,_⟩|⟨a,_⟩
  ·rw[c] at hl;unfold Vw.plain at b;rw[hl] at b;cases b
  ·exact((I.nw G hy).ownJ a).1
 ·have hq:i+1+k∈(K1 f n S.left i).goals i:=by rw[e];simp[Vw.goals]
  have e':nv f n S.left (S.left.getD i 0)=.jp k:=e;obtain⟨y,hy,e1,c⟩:=go i h _ hq;rcases c with⟨a,b,c,_⟩|⟨a,_,_,d⟩
  ·rw[e'] at c;rw[←c] at b;cases b
  ·obtain⟨d1,d2⟩:=d (by rw[e'];rfl);rw[Cv I.nd h] at d2;refine⟨by omega,?_⟩;rw[e1];unfold K1;rw[oK hy];cases ht:(nv f n S.left y).tel with
   |false=>rfl
   |true=>rw[((I.nw G hy).ownJ a).2 ht] at d1;cases d1
 ·have e':nv f n S.left (S.left.getD i 0)=.br a b:=e;intro z;cases nw i h with
  |pl y a1 b1 c=>rw[e'] at c;rw[←c] at b1;cases b1
  |tl _ _ c=>rw[e'] at c;cases c
  |bt _ _ c=>rw[e'] at c;cases c
  |bj _ _ _ _ c=>rw[e'] at c;cases c
  |br k m a1 b1 c d ne g1 g2 j =>
   rw[e'] at j;cases j;exact ne (Qm c d (by omega))
 ·have hx:=wG h;have hi:=Cv I.nd h;cases I.rc _ hx with
  |zero a=>exact .inl (by omega)
  |plain y a b c d e =>
   refine .inr ⟨S.left.idxOf y,by omega,?_⟩;show i∈(nv f n S.left (S.left.getD (S.left.idxOf y) 0)).goals _;rw[oK a];cases I.nw G a with
   |pl w a1 b1 c1=>rw[c1];cases hv:f y<;>first|(rw[hv] at d;cases d;done)|(simp[Vw.goals];omega)
   |tl _ b1=>unfold Vw.plain at d;rw[b1,Za] at d;cases d
   |br k m _ b1=>rw[b1] at d;cases d
   |bt a1=>exact absurd c a1
   |bj a1=>exact absurd c a1
  |led y a b c d =>
   have lt:=yE I.inc a hx b;refine .inr ⟨S.left.idxOf y,by omega,?_⟩;show i∈(nv f n S.left (S.left.getD (S.left.idxOf y) 0)).goals _;rw[oK a];cases I.nw G a with
   |pl w a1 b1 c1 =>
    unfold lg at d;split at d
    ·rename_i hz;unfold Vw.plain at b1;rw[hz] at b1;cases b1
    ·cases d
   |tl _ b1 =>
    unfold lg at d;split at d
    ·rename_i hz;rw[By b1] at hz;cases hz
    ·cases d
   |br k m _ b1 m1 m2 ne g1 g2 j =>
    rw[j];have:lg f n y=[Ed f n (y+1+k),Ed f n (y+1+m)]:=by unfold lg;rw[VJ (by rw[b1];rfl),b1];rfl
    rw[this] at d;simp only[Wd,VR,WL] at d;simp only[Vw.goals,Wd,VR,WL];rcases d with d|d
    ·left;rw[←d];omega
    ·right;rw[←d];omega
   |bt a1=>exact absurd c a1
   |bj a1=>exact absurd c a1
  |brid y a b c d e =>
   have lt:=yE I.inc a hx b;refine .inr ⟨S.left.idxOf y,by omega,?_⟩;show i∈(nv f n S.left (S.left.getD (S.left.idxOf y) 0)).goals _;rw[oK a];unfold nv;rw[VN c,VN (by rw[d];exact fun z=>nomatch z),←e];simp only[Vw.goals,List.mem_singleton];omega
end
section
variable {f:Nat->Vw}{n k:Nat}
theorem Do (h:q∈Ul f k p):∀m,q∈Ul f k (p+m)
 |0=>h
 |m+1=>by rw[←Nat.add_assoc,j1];exact .inl (Do h m)
theorem wQ (h:x∈Ul f k x) (hk:(f x).isK k=false) (hy:y∈(f x).goals x):y∈Ul f k y:=by
 have h1:y∈Ul f k (x+1):=j1.mpr (.inr ⟨⟨h,hk⟩,hy⟩);have h2:=iJ hy;have:=Do h1 (y-(x+1));rw[show x+1+(y-(x+1))=y by omega] at this;exact this
theorem QR:0∈Ul f k 0:=by simp[Ul]
theorem NS :∀{p:Nat},q∈Ul f k p->q=0\/∃x<p,x∈Ul f k x/\(f x).isK k=false/\q∈(f x).goals x
 |0,h=>by simp[Ul] at h;exact .inl h
 |p+1,h=>by
  rcases j1.mp h with h|⟨⟨a,b⟩,c⟩
  ·rcases NS h with z|⟨x,a,b⟩
   ·exact .inl z
   ·exact .inr ⟨x,by omega,b⟩
  ·exact .inr ⟨p,by omega,a,b,c⟩
theorem MJ (p:Nat):p∈Ul f k p->Ed f n p∈Ul f k (Ed f n p):=by
 refine vT (f:=f) (n:=n) (P:=fun p q=>p∈Ul f k p->q∈Ul f k q) (fun _ _ h=>h) (fun p j _ e i h=>i (wQ h (by rw[e];rfl) (by rw[e];simp[Vw.goals]))) (fun p j m _ e i _=>⟨fun _ h=>i (wQ h (by rw[e];rfl) (by rw[e];simp[Vw.goals])),fun _ h=>h⟩) p
variable {S:PS}
theorem Ts (G:In f n) (I:Iv f n n S):∀i,i<S.left.length->i∈Ul (K1 f n S.left) k i->S.left.getD i 0∈Ul f k (S.left.getD i 0):=by
 intro i
 induction i using Nat.strongRecOn with
 |ind i ih =>
  intro h hu;rcases NS hu with z|⟨j,hj,uj,kj,hg⟩
  ·subst z;cases hl:S.left with
   |nil=>rw[hl] at h;cases h
   |cons a t =>
    have:=I.hd a (by rw[hl];rfl);show a∈Ul f k a;rw[this];exact MJ 0 QR
  ·have hjl:j<S.left.length:=by omega
   have ux:=ih j hj hjl uj;have kj:(nv f n S.left (S.left.getD j 0)).isK k=false:=kj;obtain⟨y,hy,rfl,c⟩:=(I.nw G (wG hjl)).go i (by rw[Cv I.nd hjl];exact hg);rw[oK hy];rcases c with⟨a,b,c,d,e⟩|⟨a,b,c,d⟩
   ·rw[c] at kj;have u1:=wQ ux kj (y:=S.left.getD j 0+1) (by cases hv:f (S.left.getD j 0)<;>first|(rw[hv] at b;cases b;done)|simp[Vw.goals]);rcases e with e|e
    ·rw[e];exact MJ _ u1
    ·rw[e];exact u1
   ·rcases b with⟨q,hq,e⟩|e
    ·rw[e];refine MJ _ (wQ ux ?_ hq);cases hv:f (S.left.getD j 0) with
     |kp s =>
      rw[hv] at hq;by_cases ho:Ed f n (S.left.getD j 0)=S.left.getD j 0
      ·unfold nv at c;rw[VJ ho,hv] at c;cases c
      ·have:=(Ce ho).1;rw[hv] at this;cases this
     |_=>rfl
    ·rw[e];exact MJ _ ux
def eu (f:Nat->Vw) (n:Nat):Prop:=∀p<n,fl f n p=false
theorem eu.io (h:eu f n):In f n:=fun p hp g hg=>by
 have:=h p hp;unfold fl at this;rw[Yq] at this;have:=List.any_eq_false.mp this.2 g hg;simpa using this
theorem eu.new (h:eu f n) (I:Iv f n n S):eu (K1 f n S.left) S.left.length:=by
 intro i hi;have T:=I.tg h.io;unfold fl;rw[Yq];refine⟨?_,List.any_eq_false.mpr fun g hg=>by have:=T.io i hi g hg;simpa using this⟩;cases hv:K1 f n S.left i with
 |ft s =>
  show(decide _&&decide _)=false;rw[Zk]
  right
  refine VY fun hu=>?_
  have hx:=wG hi;have hv:nv f n S.left (S.left.getD i 0)=.ft s:=hv;have e:f (S.left.getD i 0)=.ft s:=by
   unfold nv at hv;split at hv
   ·cases q:f (S.left.getD i 0)<;>rw[q] at hv<;>first|exact hv|cases hv
   ·split at hv<;>cases hv
  have u:=Ts h.io I i hi hu;have:=h _ (I.bd _ hx);unfold fl at this;rw[e] at this;simp only[noSlot,zB u,u,XA,Bool.and_true,Bool.true_or] at this;cases this
 |_=>rfl
end
section
variable {g:Nat->Vw}{m:Nat}
end
def nK (A:List (Nat×Nat)):List DK:=A.map fun p=>.inl (p.1:Int)
def nV (A:List (Nat×Nat)):ZE:=A.map fun p=>.int (p.2:Int)
def dN (A:List (Nat×Nat)):D:=.dic (nK A) (nV A)
theorem Cm (q:Nat):∀A:List (Nat×Nat),aF (nK A) (nV A) (.inl (q:Int))=(List.lookup q A).map fun e=>.int (e:Int)
 |[]=>rfl
 |(a,b)::A=>by
  show(if(Sum.inl (a:Int):DK)=.inl (q:Int) then some (D.int b) else aF (nK A) (nV A) (.inl (q:Int)))=_;by_cases z:a=q
  ·subst z;rw[VJ rfl,Xq];rfl
  ·rw[VN (nY z),Cm q A,Wc,show(q==a)=false from by rw[WJ];exact fun h=>z h.symm]
theorem k9 (h:List.lookup q A=some e):gDGet (dN A) (.int q)=some (.int e):=by
 show aF (nK A) (nV A) (.inl (q:Int))=_;rw[Cm,h];rfl
theorem xw (h:Sh d v):∃x,gIdx d (.int 0)=some (.str x)/\fy (.str x) c_LEADING=some (.bl (!v.lead))/\ek (.str x) c_LEADING=some (.bl v.lead)/\ek (.str x) c_TELLING=some (.bl v.tel)/\∀y,bi c_LEADING c_TELLING=some y->ek (.str x) y=some (.bl (v.lead||v.tel)):=by
 cases h<;>exact⟨_,rfl,rfl,rfl,rfl,fun y e=>by cases e;rfl⟩
section
variable {ds:ZE}{f:Nat->Vw}{n:Nat}{A:List (Nat×Nat)}{e:D}{U:Mu}
theorem Jn (he:ai U e=dN A):∀(gs:Zu),(∀q∈gs,List.lookup q A=some (Ed f n q))->∀(a:ZF) (acc:ZE),aA (gN 0) fh (a6 gDGet (a4 1) (a4 0)) (iL gs) [a,some e] U acc=.ok (acc++iL (gs.map (Ed f n))) U
 |[],_,_,acc=>by simp[aA,iL]
 |g::gs,h,a,acc=>by
  have e1:a6 gDGet (a4 1) (a4 0) [some (.int g),some e] U=.ok (.int (Ed f n g)) U:=ac rfl rfl (by rw[he];exact k9 (h g (Wg ..)));refine(eU (ds:=iL gs) rfl e1).trans ((Jn he gs (fun q hq=>h q (W6 _ hq)) (some (.int g)) (acc++[.int (Ed f n g)])).trans ?_);rw[VU,Wf];rfl
theorem uG {p:Nat}{d:D}(hd:ds[p]? =some d) (h1:ρ[i]? =some (some (.lst ds))) (h2:ρ[j]? =some (some (.int p))):a6 gIdx (a4 i) (a4 j) ρ U=.ok d U:=ac (bz i h1) (bz j h2) (gy hd)
theorem uF {p:Nat}{d:D}{x:Zu}(hs:Sh d v) (hx:gIdx d (.int 0)=some (.str x)) (hd:ds[p]? =some d) (h1:ρ[i]? =some (some (.lst ds))) (h2:ρ[j]? =some (some (.int p))):a6 gIdx (a6 gIdx (a4 i) (a4 j)) (mC (.int 0)) ρ U=.ok (.str x) U :=
 ac (uG hd h1 h2) rfl (by rw[jC hs];exact hx)
theorem AY (hd:ds[p]? =some d) (hs:Sh d (f p)) (he:ai U e=dN A) (hA:∀q∈(f p).goals p,List.lookup q A=some (Ed f n q)):bN [.lst ds,e,.int p] U=.ok (gI (lg f n p)) U:=by
 obtain⟨x,x1,x2,_⟩:=xw hs;have t1:a9 (a6 fy (a6 gIdx (a6 gIdx (a4 0) (a4 2)) (mC (.int 0))) (mC c_LEADING)) [some (.lst ds),some e,some (.int p)] U=.ok (!(f p).lead) U:=aC (ac (uF hs x1 hd rfl rfl) rfl x2);unfold lg;cases hl:(f p).lead with
 |false =>
  rw[hl] at t1;exact aP 0 (aN t1 (tq am))
 |true =>
  rw[hl] at t1;rw[VJ rfl];refine aP 0 ((a8 t1).trans (bv ?_));unfold b7;have e0:mOverL (mCall bQ (a5 (a4 2) (a5 (a6 gIdx (a4 0) (a4 2)) mNil))) [some (.lst ds),some e,some (.int p)] U=.ok (iL ((f p).goals p)) U:=iU (aj (a7 rfl (a7 (uG hd rfl rfl) am)) (N4 hs p U));show((mOverL (mCall bQ (a5 (a4 2) (a5 (a6 gIdx (a4 0) (a4 2)) mNil))) [some (.lst ds),some e,some (.int p)] U).bind _)=_;rw[e0,ae,VJ (by have:=d8 (f p) p;rw[iL,VS];omega)];show(aA (gN 0) fh _ _ [none,some e] U []).bind _=_;rw[Jn he _ hA];rfl
end
def eA (f:Nat->Vw) (n m:Nat):List (Nat×Nat):=(List.range m).map fun i=>(n-1-i,Ed f n (n-1-i))
theorem Da (f:Nat->Vw) (n m:Nat):eA f n (m+1)=eA f n m++[(n-1-m,Ed f n (n-1-m))]:=by unfold eA;rw[List.range_succ,WW];rfl
theorem ID (q:Nat):∀(A:List (Nat×Nat)) (r:List (Nat×Nat)),List.lookup q (A++r)=(List.lookup q A).or (List.lookup q r)
 |[],r=>rfl
 |(a,b)::A,r=>by
  rw[Xe,Wc,Wc];cases q==a<;>simp[ID q A r]
theorem wp :∀{m q:Nat},m<=n->n-m<=q->q<n->List.lookup q (eA f n m)=some (Ed f n q)
 |0,q,_,h1,h2=>by omega
 |m+1,q,hm,h1,h2=>by
  rw[Da,ID];by_cases z:n-m<=q
  ·rw[wp (by omega) z h2];rfl
  ·have e:q=n-1-m:=by omega
   subst e;have:List.lookup (n-1-m) (eA f n m)=none:=by
    rw[List.lookup_eq_none_iff];intro p hp;unfold eA at hp;obtain⟨i,hi,rfl⟩:=List.mem_map.mp hp;have:=List.mem_range.mp hi;simp;omega
   rw[this,Xq];rfl
theorem Qw (hm:m<n):((nK (eA f n m)).any fun k=>decide (k=.inl ((n-1-m:Nat):Int)))=false:=by
 rw[List.any_eq_false];intro k hk;unfold nK eA at hk;rw[Xj] at hk;obtain⟨i,hi,rfl⟩:=List.mem_map.mp hk;have:=List.mem_range.mp hi;simp only[Function.comp,Xv];intro z;have:=Sum.inl.inj z;omega
section
variable {ds:ZE}{f:Nat->Vw}{U0:Mu}
abbrev cN (A:List (Nat×Nat)):Cell:=.dic (nK A) (nV A)
theorem mw (c:Cell):(U0++[c])[U0.length]? =some c:=by rw[VQ (VL _),Wm];rfl
theorem Jq (A:List (Nat×Nat)):ai (U0++[cN A]) (.ref U0.length)=dN A:=by
 show(match(U0++[cN A])[List.length U0]? with
  |some (.lst ds)=>D.lst ds
  |some (.dic ks vs)=>D.dic ks vs
  | _=>D.ref (List.length U0))=_
 rw[mw];rfl
theorem SA (hp:p<n):∃b,
  (∀(c0 c1 c2:ZF) (c4:ZF) (U:Mu),mAndV (a6 yP (mCallB bM (a5 (a4 3) mNil)) (mC (.int 0))) (a6 bB (a6 gIdx (a4 3) (mC (.int 0))) (a6 gIdx (a4 3) (mNeg (mC (.int 1))))) [c0,c1,c2,some (gI (lg f n p)),c4] U=.ok (.bl b) U) /\
  (∀(c0 c1:ZF) (U:Mu),mIf (mTru (a4 4)) (a6 gIdx (a4 3) (mC (.int 0))) (a4 2) [c0,c1,some (.int p),some (gI (lg f n p)),some (.bl b)] U=.ok (.int (Ed f n p)) U):=by
 cases e:f p with
 |jp k =>
  refine⟨true,fun c0 c1 c2 c4 U=>?_,fun c0 c1 U=>?_⟩
  ·have:lg f n p=[Ed f n (p+1+k)]:=by unfold lg;rw[e];rfl
   rw[this];refine(gZ rfl).trans (ac rfl rfl ?_);exact(Ta (Ed f n (p+1+k)) (Ed f n (p+1+k))).trans (by rw[YX])
  ·have:lg f n p=[Ed f n (p+1+k)]:=by unfold lg;rw[e];rfl
   rw[this,CT hp e];rfl
 |br k m =>
  have h1:lg f n p=[Ed f n (p+1+k),Ed f n (p+1+m)]:=by unfold lg;rw[e];rfl
  refine⟨Ed f n (p+1+k)==Ed f n (p+1+m),fun c0 c1 c2 c4 U=>?_,fun c0 c1 U=>?_⟩
  ·rw[h1];exact(gZ rfl).trans (ac rfl rfl (Ta _ _))
  ·rw[h1,yU hp e];by_cases z:Ed f n (p+1+k)=Ed f n (p+1+m)
   ·rw[VJ z,beq_iff_eq.mpr z];rfl
   ·rw[VN z,beq_eq_false_iff_ne.mpr z];rfl
 |_ =>
  have h1:lg f n p=[]:=by unfold lg;rw[e];rfl
  refine⟨false,fun c0 c1 c2 c4 U=>by rw[h1];rfl,fun c0 c1 U=>by rw[h1,CS (by rw[e];rfl)];rfl⟩
theorem G3 (hv:mv ρ (U0++[.dic ks vs])=.ok v (U0++[.dic ks vs])) (ho:mo ρ (U0++[.dic ks vs])=.ok (.ref U0.length) (U0++[.dic ks vs])) (hi:mi ρ (U0++[.dic ks vs])=.ok (.int g) (U0++[.dic ks vs])) (hl:ks.length<16777216) :
  mPut mo mi mv ρ (U0++[.dic ks vs])=.ok (.nx ρ) (U0++[if(ks.any fun k=>decide (k=.inl (g:Int)))=true then .dic ks (eW ks vs (.inl (g:Int)) v) else .dic (ks++[.inl (g:Int)]) (vs++[v])]):=by
 unfold mPut;rw[hv,ae,ho,ae,hi,ae];unfold uT;dsimp only;rw[mw];show(if ks.length<16777216 then(if(ks.any fun k=>decide (k=.inl (g:Int)))=true then Res.ok (Out.nx ρ) ((U0++[Cell.dic ks vs]).set U0.length (.dic ks (eW ks vs (.inl (g:Int)) v))) else .ok (.nx ρ) ((U0++[Cell.dic ks vs]).set U0.length (.dic (ks++[.inl (g:Int)]) (vs++[v])))) else .bad)=_;rw[VJ hl,iz,iz];split<;>rfl
theorem CQ (hc:Code ds f) (G:In f ds.length) (hn:ds.length<100000):∀(r m:Nat),m+r=ds.length->∀(x2 x3 x4:ZF),∃y2 y3 y4,forGo (gN 2) l6 ((List.range' m r).map fun k=>.int ((ds.length-1-k:Nat):Int)) [some (.lst ds),some (.ref U0.length),x2,x3,x4] (U0++[cN (eA f ds.length m)]) =
  .ok (.nx [some (.lst ds),some (.ref U0.length),y2,y3,y4]) (U0++[cN (eA f ds.length ds.length)])
 |0,m,hm,x2,x3,x4=>⟨x2,x3,x4,by rw[show m=ds.length by omega];rfl⟩
 |r+1,m,hm,x2,x3,x4=>by
  have hp:ds.length-1-m<ds.length:=by omega
  obtain⟨d,hd⟩:∃d,ds[ds.length-1-m]? =some d:=⟨_,VI hp⟩
  obtain⟨b,b1,b2⟩:=SA (f:=f) (n:=ds.length) hp;obtain⟨y2,y3,y4,ih⟩:=CQ hc G hn r (m+1) (by omega) (some (.int (ds.length-1-m:Nat))) (some (gI (lg f ds.length (ds.length-1-m)))) (some (.bl b));refine⟨y2,y3,y4,?_⟩;rw[Xd,VW];refine(la ?_).trans ih;have e1:=AY (n:=ds.length) (A:=eA f ds.length m) hd (hc _ _ hd) (Jq (U0:=U0) (eA f ds.length m)) fun q hq=>wp (by omega) (by have:=iJ hq;omega) (G _ hp q hq)
  refine(ar 3 (aj (a7 rfl (a7 rfl (a7 rfl am))) e1)).trans ((ar 4 (b1 _ _ _ _ _)).trans ((G3 (b2 _ _ _) rfl rfl (by rw[nK,VS,eA,VS,List.length_range];omega)).trans ?_));rw[VN (by rw[Qw (by omega)];simp)];rw[Da];show Res.ok _ (U0++[Cell.dic _ _])=.ok _ (U0++[Cell.dic _ _]);unfold nK nV;rw[WW,WW];rfl
theorem Mg (hc:Code ds f) (G:In f ds.length) (hn:ds.length<100000) (h1:1<=ds.length):hW [.lst ds] U0=.ok (dN (eA f ds.length ds.length)) (U0++[.dead]):=by
 obtain⟨y2,y3,y4,e⟩:=CQ (U0:=U0) hc G hn ds.length 0 (by omega) none none none;refine aP 4 ((ar 1 (m:=mDic0) (d:=.ref U0.length) (U1:=U0++[cN (eA f ds.length 0)]) rfl).trans ((b8 ((fI (ds:=(List.range' 0 ds.length).map fun k=>.int ((ds.length-1-k:Nat):Int)) ?_).trans e)).trans ?_))
 ·unfold mRange3;rw[show a5 (a6 dn (mCallB bM (a5 (a4 0) mNil)) (mC (.int 1))) (a5 (mNeg (mC (.int 1))) (a5 (mNeg (mC (.int 1))) mNil)) [some (.lst ds),some (.ref U0.length),none,none,none] (U0++[cN (eA f ds.length 0)])=.ok [.int ((ds.length:Int)-1),.int (-1),.int (-1)] (U0++[cN (eA f ds.length 0)]) from rfl,ae];unfold wI;dsimp only;rw[VJ (by refine⟨rfl,?_,?_,?_,?_⟩<;>omega)];unfold downD;rw[show((ds.length:Int)-1 - -1).toNat=ds.length by omega,List.range_eq_range'];show Res.ok _ _=.ok _ _;congr 1;refine List.map_congr_left fun k hk=>?_
  have:=(List.mem_range'_1.mp hk).2;congr 1;omega
 ·show mFrz 1 (av (a4 1)) [some (.lst ds),some (.ref U0.length),y2,y3,y4] (U0++[cN (eA f ds.length ds.length)])=_;unfold mFrz;show(match((U0++[cN (eA f ds.length ds.length)])[U0.length]?).bind frzC with
   |some d=>av (a4 1) (([some (.lst ds),some (.ref U0.length),y2,y3,y4]:En).set 1 (some d)) ((U0++[cN (eA f ds.length ds.length)]).set U0.length .dead)
   | none=>.bad)=_
  rw[mw];show av (a4 1) [some (.lst ds),some (dN (eA f ds.length ds.length)),y2,y3,y4] ((U0++[cN (eA f ds.length ds.length)]).set U0.length .dead)=_;rw[iz];rfl
end
def own (f:Nat->Vw) (n m r:Nat):Zu:=(List.range' m r).filter fun p=>decide (Ed f n p=p)
section
variable {ds:ZE}{f:Nat->Vw}{n:Nat}{A:List (Nat×Nat)}{e:D}{U:Mu}
theorem HL (he:ai U e=dN A):∀(r m:Nat),(∀q,m<=q->q<m+r->List.lookup q A=some (Ed f n q))->∀(a:ZF) (acc:ZE),aA (gN 0) (a9 (a6 bB (a6 gDGet (a4 1) (a4 0)) (a4 0))) (a4 0) (iL (List.range' m r)) [a,some e] U acc=.ok (acc++iL (own f n m r)) U
 |0,m,_,_,acc=>by simp[aA,iL,own]
 |r+1,m,h,a,acc=>by
  have e1:a9 (a6 bB (a6 gDGet (a4 1) (a4 0)) (a4 0)) [some (.int m),some e] U=.ok (Ed f n m==m) U:=aC (ac (x:=.int (Ed f n m)) (ac rfl rfl (by rw[show ai U e=dN A from he];exact k9 (h m (VL _) (by omega)))) rfl (Ta _ _));have ih:=HL he r (m+1) (fun q a b=>h q (by omega) (by omega)) (some (.int m));rw[gh,aA,show gN 0 (.int m) [a,some e]=some [some (.int m),some e] from rfl];show(noX (a9 (a6 bB (a6 gDGet (a4 1) (a4 0)) (a4 0)) [some (.int m),some e] U)).bind _=_;rw[e1];show(if(Ed f n m==m)=true then _ else _)=_;unfold own;rw[Xd,List.filter_cons];by_cases z:Ed f n m=m
  ·rw[VJ (beq_iff_eq.mpr z),VJ (by simpa using z)];show aA _ _ _ _ _ _ (acc++[.int m])=_;rw[ih,VU,Wf];rfl
  ·rw[VN (by simpa using z),VN (by simpa using z),ih];rfl
theorem Pm (he:ai U e=dN A) (hn:n<100000) (hA:∀q,q<n->List.lookup q A=some (Ed f n q)):dE [e,.int n] U=.ok (gI (own f n 0 n)) U:=by
 refine aP 0 (bv ?_);unfold b7;rw[gY (n:=n) rfl (by omega),ae,VJ (by rw[iL,VS,YG];omega)];show(aA (gN 0) _ _ _ [none,some e] U []).bind _=_;rw[HL he n 0 fun q _ h=>hA q (by omega)];rfl
end
def lK (L:Zu):List DK:=L.map fun(g:Nat)=>.inl (g:Int)
def lV (L:Zu):ZE:=L.map fun _=>.bl true
abbrev cL (L:Zu):Cell:=.dic (lK L) (lV L)
theorem Cn (q:Nat):∀L:Zu,(aF (lK L) (lV L) (.inl (q:Int))).isSome=decide (q∈L)
 |[]=>rfl
 |g::L=>by
  show(if(Sum.inl (g:Int):DK)=.inl (q:Int) then some (D.bl true) else aF (lK L) (lV L) (.inl (q:Int))).isSome=_;by_cases z:g=q
  ·subst z;rw[VJ rfl];simp
  ·rw[VN (nY z),Cn q L];have:q≠g:=fun h=>z h.symm
   simp[this]
theorem JM (q:Nat):∀L:Zu,((lK L).any fun k=>decide (k=.inl (q:Int)))=decide (q∈L)
 |[]=>rfl
 |g::L=>by
  show(decide ((Sum.inl (g:Int):DK)=.inl (q:Int))||(lK L).any _)=_;rw[JM q L];by_cases z:g=q
  ·subst z;simp
  ·rw[VY (nY z)];have:q≠g:=fun h=>z h.symm
   simp[this]
theorem GR (q:DK):∀L:Zu,eW (lK L) (lV L) q (.bl true)=lV L
 |[]=>rfl
 |g::L=>by
  show(if(Sum.inl (g:Int):DK)=q then D.bl true else .bl true)::eW (lK L) (lV L) q (.bl true)=_;rw[GR q L];split<;>rfl
section
variable {U0:Mu}
theorem Cp:∀(gs L:Zu) (x1 x2:ZF),L.length+gs.length<16777216->∃y2,forGo (gN 2) qY (iL gs) [some (.ref U0.length),x1,x2] (U0++[cL L])=.ok (.nx [some (.ref U0.length),x1,y2]) (U0++[cL (gs.foldl ins L)])
 |[],L,x1,x2,_=>⟨x2,rfl⟩
 |g::gs,L,x1,x2,h=>by
  rw[W1] at h;obtain⟨y2,ih⟩:=Cp gs (ins L g) x1 (some (.int g)) (by have:=pf (L:=L) (g:=g);omega);refine⟨y2,(la (d:=.int g) (ds:=iL gs) ?_).trans ih⟩;refine(G3 (v:=.bl true) rfl rfl rfl (by rw[lK,VS];omega)).trans ?_;rw[JM,GR];unfold ins;by_cases z:g∈L
  ·rw[VJ (by simpa using z),VJ z];rfl
  ·rw[VN (by simpa using z),VN z];show Res.ok _ (U0++[Cell.dic (lK L++[.inl (g:Int)]) (lV L++[.bl true])])=.ok _ (U0++[Cell.dic (lK (L++[g])) (lV (L++[g]))]);unfold lK lV;rw[WW,WW];rfl
theorem LU (gs L:Zu) (h:L.length+gs.length<16777216):gL [.ref U0.length,gI gs] (U0++[cL L])=.ok .non (U0++[cL (gs.foldl ins L)]):=by
 obtain⟨y2,e⟩:=Cp (U0:=U0) gs L (some (gI gs)) none h;exact kU 1 ((fI (iU rfl)).trans e)
theorem Oh (ho:mo ρ (U0++[.lst L]++ν)=.ok (.ref U0.length) (U0++[.lst L]++ν)) (hm:m ρ (U0++[.lst L]++ν)=.ok y (U0++[.lst L]++ν)) (hl:L.length<16777216):mAppend mo m ρ (U0++[.lst L]++ν)=.ok .non (U0++[.lst (L++[y])]++ν):=by
 unfold mAppend;rw[ho,ae,zd,VJ (show Cz (.lst L)=true from rfl),hm,ae];unfold JL;have:(U0++[Cell.lst L]++ν)[U0.length]? =some (.lst L):=by rw[VU,VQ (VL _),Wm];rfl
 dsimp only;rw[this];dsimp only;rw[VJ hl];congr 1;rw[VU,WH _ _ (VL _),Wm,VU];rfl
theorem Fo {ds:ZE}{p:Nat}{d:D}(hd:ds[p]? =some d) (hs:Sh d v):cM [.lst ds,.int p] U=.ok (gI (if v.tel=true then[] else[p])) U:=by
 obtain⟨x,x1,_,_,x4,_⟩:=xw hs;have t1:a9 (a6 ek (a6 gIdx (a6 gIdx (a4 0) (a4 1)) (mC (.int 0))) (mC c_TELLING)) [some (.lst ds),some (.int p)] U=.ok v.tel U:=aC (ac (uF hs x1 hd rfl rfl) rfl x4);refine aP 0 (bv ?_);cases ht:v.tel with
 |true=>rw[ht] at t1;exact(iy t1).trans (tq am)
 |false=>rw[ht] at t1;exact(jh t1).trans (tq (a7 rfl am))
end
def V9:Option Nat->D
 |some q=>.int q
 |none=>.non
theorem Oa (h:n ρ U=.ok (.ct ρ1) U1):ag n r ρ U=.ok (.ct ρ1) U1:=by unfold ag;rw[h];rfl
theorem Uf (h:n (ρ.set i (some d)) U=.ok (.ct ρ1) U1):forGo (gN i) n (d::ds) ρ U=forGo (gN i) n ds ρ1 U1:=by rw[gB,h];rfl
theorem MP (h:ρ[i]? =some (some (.ref U0.length))) (hc:frzC c=some d):mFrz i n ρ (U0++[c]++ν)=n (ρ.set i (some d)) (U0++[.dead]++ν):=by
 have g1:(U0++[c]++ν)[U0.length]? =some c:=by rw[VU,VQ (VL _),Wm];rfl
 have g2:(U0++[c]++ν).set U0.length .dead=U0++[.dead]++ν:=by rw[VU,WH _ _ (VL _),Wm,VU];rfl
 unfold mFrz;rw[h];dsimp only;rw[g1,Wl,hc];dsimp only;rw[g2]
theorem O9 (i:Nat) (h:m ρ U=.ok d U1):mSet i m ρ U=.ok (.nx (ρ.set i (some d))) U1:=by unfold mSet;rw[h];rfl
theorem yI (gs L:Zu):(gs.foldl ins L).length<=L.length+gs.length:=mr
theorem IE (f:Nat->Vw) (n p:Nat):(lg f n p).length<=2:=by
 unfold lg;split
 ·rw[VS];exact d8 _ _
 ·exact WK _
theorem JE (f:Nat->Vw) (n p:Nat):(bg f n p).length<=1:=by unfold bg;split<;>simp
theorem zl (f:Nat->Vw) (n p:Nat) (S:PS):(brid f n S p).left.length<=S.left.length+1/\(brid f n S p).led.length<=S.led.length+1:=by
 unfold brid;split
 ·split
  ·exact⟨Y0 _,Y0 _⟩
  ·rename_i q _ _;have:=yI (bg f n q) S.led;have:=JE f n q;exact⟨by simp,by show((bg f n q).foldl ins S.led).length<=_;omega⟩
 ·exact⟨Y0 _,Y0 _⟩
theorem oZ (f:Nat->Vw) (n:Nat):∀p,(stg f n p).left.length<=2*p/\(stg f n p).led.length<=3*p
 |0=>⟨VL _,VL _⟩
 |p+1=>by
  obtain⟨h1,h2⟩:=oZ f n p;unfold stg;split
  ·unfold turn;split
   ·obtain⟨h3,h4⟩:=zl f n p (stg f n p);have:=yI (lg f n p) (brid f n (stg f n p) p).led;have:=IE f n p;unfold GU;simp only[Wy,Yc];constructor<;>omega
   ·constructor<;>omega
  ·constructor<;>omega
section
variable {ds:ZE}{f:Nat->Vw}{A:List (Nat×Nat)}{U0:Mu}{p:Nat}{x6:ZF}
abbrev ni (U0:Mu) (S:PS):Mu:=U0++[.lst (iL S.left)]++[cL S.led]
abbrev FE (ds:ZE) (A:List (Nat×Nat)) (U0:Mu) (on:Option Nat) (x5 x6:ZF):En:=[some (.lst ds),some (dN A),some (.ref U0.length),some (.ref (U0.length+1)),some (V9 on),x5,x6]
theorem Qd (c:Cell):(U0++[c]).length=U0.length+1:=by simp
theorem F9 (S:PS):ai (ni U0 S) (.ref (U0.length+1))=.dic (lK S.led) (lV S.led):=by
 rw[←Qd (.lst (iL S.left))];show(match(U0++[Cell.lst (iL S.left)]++[cL S.led])[List.length (U0++[Cell.lst (iL S.left)])]? with
  |some (.lst ds)=>D.lst ds
  |some (.dic ks vs)=>D.dic ks vs
  | _=>D.ref _)=_
 rw[mw]
theorem M3 (S:PS) (hA:∀q,q<ds.length->List.lookup q A=some (Ed f ds.length q)) (ho:∀q,S.on=some q->q<ds.length) (U:Mu):mAndV (mNotN (a4 4)) (a6 bB (a6 gDGet (a4 1) (a4 4)) (a4 5)) (FE ds A U0 S.on (some (.int p)) x6) U=.ok (.bl (here f ds.length S.on p)) U:=by
 unfold here;cases h:S.on with
 |none=>exact uH rfl
 |some q =>
  refine(gZ rfl).trans (ac (x:=.int (Ed f ds.length q)) (ac rfl rfl (k9 (hA q (ho q h)))) rfl ?_);exact(Ta _ _).trans (by rw[show(Ed f ds.length q==p)=decide (Ed f ds.length q=p) from rfl])
theorem yq (h0:ρ[3]? =some (some (.ref (U0.length+1)))) (hm:m ρ (ni U0 S)=.ok (gI gs) (ni U0 S)) (hl:S.led.length+gs.length<16777216) :
  mDrop (mCall gL (a5 (a4 3) (a5 m mNil))) ρ (ni U0 S)=.ok (.nx ρ) (ni U0 ⟨S.left,gs.foldl ins S.led,S.on⟩):=by
 refine fj (d:=.non) (aj (ds:=[.ref (U0.length+1),gI gs]) (a7 (bz 3 h0) (a7 hm am)) ?_);rw[←Qd (.lst (iL S.left))];exact LU gs S.led hl
theorem zv {S:PS}{x:Nat}(h0:ρ[2]? =some (some (.ref U0.length))) (hm:m ρ (ni U0 S)=.ok (.int x) (ni U0 S)) (hl:S.left.length<16777216) :
  mDrop (mAppend (a4 2) m) ρ (ni U0 S)=.ok (.nx ρ) (ni U0 ⟨S.left++[x],S.led,S.on⟩):=by
 refine fj (d:=.non) ((Oh (bz 2 h0) hm (by rw[iL,VS];exact hl)).trans ?_);unfold ni iL;rw[WW];rfl
theorem Mt (hc:Code ds f) (G:In f ds.length) (hA:∀q,q<ds.length->List.lookup q A=some (Ed f ds.length q)) (ho:∀q,S.on=some q->q<ds.length) (h1:S.left.length+10<16777216) (h2:S.led.length+10<16777216) :
  mIte (mAnd (a9 (mNotN (a4 4))) (mNot (mTru (a4 6)))) (ag (mDrop (mAppend (a4 2) (a4 4))) (mDrop (mCall gL (a5 (a4 3) (a5 (mCall cM (a5 (a4 0) (a5 (a6 gDGet (a4 1) (a4 4)) mNil))) mNil))))) mSkip
   (FE ds A U0 S.on (some (.int p)) (some (.bl (here f ds.length S.on p)))) (ni U0 S)=.ok (.nx (FE ds A U0 S.on (some (.int p)) (some (.bl (here f ds.length S.on p))))) (ni U0 (brid f ds.length S p)):=by
 unfold brid;cases h:S.on with
 |none=>exact aT (dZ rfl)
 |some q =>
  dsimp only;cases hh:here f ds.length (some q) p with
  |true=>rw[VJ rfl];exact aT ((dy rfl).trans rfl)
  |false =>
   rw[VN (by simp)];have hq:=ho q h;have he:=uo G q hq;obtain⟨d,hd⟩:∃d,ds[Ed f ds.length q]? =some d:=⟨_,VI he⟩
   refine(bw ((dy rfl).trans rfl)).trans ((b8 (zv (x:=q) rfl rfl (by omega))).trans ?_);have hb:=JE f ds.length q;refine(yq (S:=⟨S.left++[q],S.led,S.on⟩) (gs:=bg f ds.length q) rfl ?_ (by show S.led.length+_<_;omega)).trans ?_
   ·exact aj (a7 rfl (a7 (ac rfl rfl (k9 (hA q hq))) am)) (Fo hd (hc _ _ hd))
   ·rw[h]
theorem Kg (hc:Code ds f) (G:In f ds.length) (hA:∀q,q<ds.length->List.lookup q A=some (Ed f ds.length q)) (ho:∀q,S.on=some q->q<ds.length) (h1:S.left.length+10<16777216) (h2:S.led.length+10<16777216) (hp:p<ds.length) :
  ∃y6,dh (FE ds A U0 S.on (some (.int p)) x6) (ni U0 S)=.ok (.nx (FE ds A U0 (turn f ds.length S p).on (some (.int p)) y6)) (ni U0 (turn f ds.length S p)) \/
   dh (FE ds A U0 S.on (some (.int p)) x6) (ni U0 S)=.ok (.ct (FE ds A U0 (turn f ds.length S p).on (some (.int p)) y6)) (ni U0 (turn f ds.length S p)):=by
 obtain⟨d,hd⟩:∃d,ds[p]? =some d:=⟨_,VI hp⟩
 have hs:=hc _ _ hd;have t0:=M3 (U0:=U0) (x6:=x6) (p:=p) S hA ho (ni U0 S);have t1:a9 (a6 (gi true) (a4 5) (a4 3)) (FE ds A U0 S.on (some (.int p)) (some (.bl (here f ds.length S.on p)))) (ni U0 S)=.ok (!decide (p∈S.led)) (ni U0 S):=by
  refine aC (ac rfl rfl ?_);rw[F9];show some (D.bl (!(aF (lK S.led) (lV S.led) (.inl (p:Int))).isSome))=_;rw[Cn]
 refine⟨some (.bl (here f ds.length S.on p)),?_⟩;unfold turn;by_cases hz:here f ds.length S.on p=true\/p∈S.led
 ·left
  rw[VJ hz];have t2:mAnd (mNot (mTru (a4 6))) (a9 (a6 (gi true) (a4 5) (a4 3))) (FE ds A U0 S.on (some (.int p)) (some (.bl (here f ds.length S.on p)))) (ni U0 S)=.ok false (ni U0 S):=by
   cases hh:here f ds.length S.on p with
   |true=>exact dZ rfl
   |false =>
    have hl:=hz.resolve_left (by rw[hh];simp);rw[hh,VX hl] at t1;exact(dy rfl).trans t1
  have hb:=zl f ds.length p S;have hlg:=IE f ds.length p;obtain⟨x,w1,w2,w3,w4,w5⟩:=xw hs;refine(ar 6 t0).trans ((a8 t2).trans ((b8 (Mt hc G hA ho h1 h2)).trans ((b8 (zv (x:=p) rfl rfl (by omega))).trans ((b8 (yq (S:=⟨(brid f ds.length S p).left++[p],(brid f ds.length S p).led,(brid f ds.length S p).on⟩) (gs:=lg f ds.length p) rfl ?_ (by show(brid f ds.length S p).led.length+_<_;omega))).trans ?_))))
  ·exact aj (a7 rfl (a7 rfl (a7 rfl am))) (AY hd hs rfl fun q hq=>hA q (G p hp q hq))
  ·refine(O9 (d:=V9 (if((f p).lead||(f p).tel)=true then none else some (p+1))) 4 ?_).trans rfl;have e1:∀ρ:En,∀U:Mu,ρ[0]? =some (some (.lst ds))->ρ[5]? =some (some (.int p))->a9 (a6 ek (a6 gIdx (a6 gIdx (a4 0) (a4 5)) (mC (.int 0))) (a6 bi (mC c_LEADING) (mC c_TELLING))) ρ U=.ok ((f p).lead||(f p).tel) U:=fun ρ U a b=>aC (ac (uF hs w1 hd a b) (ac rfl rfl rfl) (w5 _ rfl))
   cases hlt:((f p).lead||(f p).tel) with
   |true=>rw[hlt] at e1;exact(iy (e1 _ _ rfl rfl)).trans rfl
   |false =>
    rw[hlt] at e1;refine(jh (e1 _ _ rfl rfl)).trans ?_;rfl
 ·right
  rw[VN hz];have hh:here f ds.length S.on p=false:=by cases q:here f ds.length S.on p with
   |false=>rfl
   |true=>exact absurd (.inl q) hz
  have hl:p∉S.led:=fun z=>hz (.inr z)
  rw[hh] at t0 t1 ⊢;rw[VY hl] at t1;exact(ar 6 t0).trans (Oa ((bw ((dy rfl).trans t1)).trans rfl))
theorem vp (hc:Code ds f) (G:In f ds.length) (hA:∀q,q<ds.length->List.lookup q A=some (Ed f ds.length q)) (hn:0<ds.length) (hn2:ds.length<100000):∀(r m:Nat),m+r=ds.length->∀(x5 x6:ZF),∃y5 y6,
  forGo (gN 5) dh (iL (own f ds.length m r)) (FE ds A U0 (stg f ds.length m).on x5 x6) (ni U0 (stg f ds.length m))=.ok (.nx (FE ds A U0 (stg f ds.length ds.length).on y5 y6)) (ni U0 (stg f ds.length ds.length))
 |0,m,hm,x5,x6=>⟨x5,x6,by rw[show m=ds.length by omega];rfl⟩
 |r+1,m,hm,x5,x6=>by
  unfold own;rw[Xd,List.filter_cons];have I:=Iv.stg G hn m (by omega);have hl:=oZ f ds.length m;by_cases ho:Ed f ds.length m=m
  ·rw[VJ (by simpa using ho)];obtain⟨y6,h⟩:=Kg (p:=m) (x6:=x6) (U0:=U0) hc G hA (fun q e=>(I.on q e).2.2.1) (by omega) (by omega) (by omega);have es:stg f ds.length (m+1)=turn f ds.length (stg f ds.length m) m:=by rw[stg,VJ ho]
   rw[←es] at h;obtain⟨z5,z6,ih⟩:=vp hc G hA hn hn2 r (m+1) (by omega) (some (.int m)) y6;refine⟨z5,z6,Wx ?_ ih⟩;rcases h with h|h
   ·exact la (d:=.int m) h
   ·exact Uf (d:=.int m) h
  ·rw[VN (by simpa using ho)];have es:stg f ds.length (m+1)=stg f ds.length m:=by rw[stg,VN ho]
   obtain⟨z5,z6,ih⟩:=vp hc G hA hn hn2 r (m+1) (by omega) x5 x6;rw[es] at ih;exact⟨z5,z6,ih⟩
theorem LS (hc:Code ds f) (G:In f ds.length) (hA:∀q,q<ds.length->List.lookup q A=some (Ed f ds.length q)) (hn:0<ds.length) (hn2:ds.length<100000):∃c,eC [.lst ds,dN A] U0=.ok (gI (stg f ds.length ds.length).left) (U0++[.dead]++[c]):=by
 obtain⟨y5,y6,e⟩:=vp (U0:=U0) (A:=A) hc G hA hn hn2 ds.length 0 (by omega) none none;refine⟨cL (stg f ds.length ds.length).led,?_⟩;have e1:mSet 3 mDic0 [some (.lst ds),some (dN A),some (.ref U0.length),none,none,none,none] (U0++[.lst []])=.ok (.nx [some (.lst ds),some (dN A),some (.ref U0.length),some (.ref (U0.length+1)),none,none,none]) (ni U0 (stg f ds.length 0)):=by
  rw[←Qd (.lst [])];rfl
 have e2:=Pm (f:=f) (n:=ds.length) (U:=ni U0 (stg f ds.length 0)) (e:=dN A) (A:=A) rfl hn2 hA;have e3:mOverL (mCall dE (a5 (a4 1) (a5 (mCallB bM (a5 (a4 0) mNil)) mNil))) (FE ds A U0 (some 0) none none) (ni U0 (stg f ds.length 0))=.ok (iL (own f ds.length 0 ds.length)) (ni U0 (stg f ds.length 0)) :=
  iU (aj (a7 rfl (a7 (bh (d:=.int ds.length) (a7 rfl am) rfl) am)) e2)
 have e0:∀ρ:En,mLstC mNil ρ U0=.ok (.ref U0.length) (U0++[.lst []]):=fun _=>rfl
 refine aP 5 (Wx (ar 2 (e0 _)) (Wx (b8 e1) (Wx (ar 4 (d:=.int 0) rfl) (Wx (b8 (Wx (fI e3) e)) ?_))));exact(MP (c:=.lst (iL (stg f ds.length ds.length).left)) (ν:=[cL (stg f ds.length ds.length).led]) rfl rfl).trans (bv (bz 2 rfl))
end
def pA:Nat->Zu->List (Nat×Nat)
 |_,[]=>[]
 |k,x::L=>(x,k)::pA (k+1) L
def pD (k:Nat) (L:Zu):ZE:=(pA k L).map fun p=>.tup [.int p.1,.int p.2]
theorem C6:∀(k:Nat) (L:Zu),nK (pA k L)=L.map fun(x:Nat)=>.inl (x:Int)
 |_,[]=>rfl
 |k,x::L=>by show(Sum.inl (x:Int):DK)::nK (pA (k+1) L)=_;rw[C6 (k+1) L];rfl
theorem p0 :∀(k:Nat) (L:Zu),x∈L->List.lookup x (pA k L)=some (k+L.idxOf x)
 |k,y::L,h=>by
  show List.lookup x ((y,k)::pA (k+1) L)=_;rw[Wc];by_cases z:x=y
  ·subst z;simp
  ·rw[show(x==y)=false from by simpa using z,List.idxOf_cons,show(y==x)=false from by simpa using fun h=>z h.symm];have:=p0 (k+1) L ((List.mem_cons.mp h).resolve_left z);dsimp only;rw[this,cond_false];congr 1;omega
theorem Nf (k:Nat):∀L:Zu,pairsOf (pD k L)=some (nK (pA k L),nV (pA k L))
 |[]=>rfl
 |x::L=>by
  show(pairsOf (pD (k+1) L)).map _=_;rw[Nf (k+1) L];rfl
theorem Ml (h:L.Nodup):vP [.lst (pD 0 L)]=some (dN (pA 0 L)):=by
 show(pairsOf (pD 0 L)).bind _=_;rw[Nf,Wl,VJ]
 ·rfl
 ·dsimp only;rw[C6];exact List.Pairwise.map _ (fun a b hab z=>hab (by have:=Sum.inl.inj z;omega)) h
theorem Hr (U:Mu):∀(L:Zu) (k:Nat) (a b:ZF) (acc:ZE),aA (gTupT (cr (gN 0) (cr (gN 1) gsNil))) fh (mTup (a5 (a4 1) (a5 (a4 0) mNil))) (dG k (iL L)) [a,b] U acc=.ok (acc++pD k L) U
 |[],k,a,b,acc=>by simp[aA,iL,dG,pD,pA]
 |x::L,k,a,b,acc=>by
  have ih:=Hr U L (k+1) (some (.int k)) (some (.int x)) (acc++[.tup [.int x,.int k]]);refine(eU (d:=.tup [.int k,.int x]) (ds:=dG (k+1) (iL L)) (ρ1:=[some (.int k),some (.int x)]) rfl rfl).trans (ih.trans ?_);rw[VU,Wf];rfl
def setBr (d:D) (a b:Nat):D:=match d with
 |.tup xs=>.tup (xs.take (xs.length-2)++[.int a,.int b])
 |d=>d
def nd (ds:ZE) (f:Nat->Vw) (n:Nat) (L:Zu) (x:Nat):D :=
 if Ed f n x=x then(match f x with
  |.br k m=>setBr (ds.getD x .non) (L.idxOf (Ed f n (x+1+k))-(L.idxOf x+1)) (L.idxOf (Ed f n (x+1+m))-(L.idxOf x+1))
  | _=>ds.getD x .non)
 else if(f (Ed f n x)).tel=true then ds.getD (Ed f n x) .non else .tup [.str bA,.int ((L.idxOf (Ed f n x)-(L.idxOf x+1):Nat):Int)]
theorem RO (h:Sh d (.br k m)) (ha:a<=2000) (hb:b<=2000):Sh (setBr d a b) (.br a b):=by
 cases h with
 |if_ h1 h2 _ _=>exact .if_ h1 h2 ha hb
 |ifx h1 _ _=>exact .ifx h1 ha hb
theorem RI {k m a b:Nat}(h:Sh d (.br k m)):∃y,TY d none (some (-2))=some y/\bi y (.tup [.int a,.int b])=some (setBr d a b):=by cases h<;>exact⟨_,rfl,rfl⟩
theorem Vu (i s:Nat):kQ (.int i) (.int s)=some (.bl (!(i==s))):=by
 show some (D.bl (!((i:Int)==(s:Int))))=_;by_cases z:i=s
 ·subst z;simp
 ·have:((i:Int)==(s:Int))=false:=by rw[WJ];omega
  rw[this,beq_eq_false_iff_ne.mpr z]
section
variable {ds:ZE}{f:Nat->Vw}{L:Zu}{A:List (Nat×Nat)}{U:Mu}
theorem yM (h:p<ds.length):ds[p]? =some (ds.getD p .non):=by rw[W7,VI h];rfl
theorem GH :∀(gs:Zu),(∀g∈gs,g∈L/\w<=L.idxOf g)->∀(a:ZF) (acc:ZE),aA (gN 0) fh (a6 dn (a6 gDGet (a4 2) (a4 0)) (a4 1)) (iL gs) [a,some (.int w),some (dN (pA 0 L))] U acc=.ok (acc++gs.map fun(g:Nat)=>D.int ((L.idxOf g-w:Nat):Int)) U
 |[],_,_,acc=>by simp[aA,iL]
 |g::gs,h,a,acc=>by
  obtain⟨h1,h2⟩:=h g (Wg ..);have e1:a6 dn (a6 gDGet (a4 2) (a4 0)) (a4 1) [some (.int g),some (.int w),some (dN (pA 0 L))] U=.ok (.int ((L.idxOf g-w:Nat):Int)) U:=by
   refine ac (x:=.int ((0+L.idxOf g:Nat):Int)) (ac rfl rfl (k9 (p0 0 L h1))) rfl ?_;show some (D.int (((0+L.idxOf g:Nat):Int)-(w:Int)))=_;congr 2;omega
  have ih:=GH (w:=w) gs (fun q hq=>h q (W6 _ hq)) (some (.int g)) (acc++[.int ((L.idxOf g-w:Nat):Int)]);refine(eU (ds:=iL gs) rfl e1).trans (ih.trans ?_);rw[VU,Wf];rfl
theorem Kq (hc:Code ds f) (G:In f ds.length) (hA:∀q,q<ds.length->List.lookup q A=some (Ed f ds.length q)) (hx:x∈L) (hb:x<ds.length) (N:Nw f ds.length L x) :
  dL [.lst ds,dN A,.int x,dN (pA 0 L)] U=.ok (nd ds f ds.length L x) U:=by
 have hd:=yM hb;have hs:=hc _ _ hd;have he:=uo G x hb;have hd2:=yM he;have hs2:=hc _ _ hd2;obtain⟨u,u1,_,u3,_⟩:=xw hs;obtain⟨v,v1,_,_,v4,_⟩:=xw hs2
 let ρ:En:=[some (.lst ds),some (dN A),some (.int x),some (dN (pA 0 L)),some (ds.getD x .non),some (.int (Ed f ds.length x)),some (.int ((L.idxOf x+1:Nat):Int))]
 have t1:a9 (a6 kQ (a4 5) (a4 2)) ρ U=.ok (!(Ed f ds.length x==x)) U:=aC (ac rfl rfl (Vu _ _));have t2:a9 (a6 ek (a6 gIdx (a6 gIdx (a4 0) (a4 5)) (mC (.int 0))) (mC c_TELLING)) ρ U=.ok (f (Ed f ds.length x)).tel U:=aC (ac (uF hs2 v1 hd2 rfl rfl) rfl v4);have t3:a9 (a6 ek (a6 gIdx (a4 4) (mC (.int 0))) (mC c_LEADING)) ρ U=.ok (f x).lead U:=aC (ac (x:=.str u) (ac (x:=ds.getD x .non) rfl rfl (by rw[jC hs];exact u1)) rfl u3);have pre:∀{r:Res Out},(ag (mIte (mAnd (a9 (a6 kQ (a4 5) (a4 2))) (a9 (a6 ek (a6 gIdx (a6 gIdx (a4 0) (a4 5)) (mC (.int 0))) (mC c_TELLING)))) (av (a6 gIdx (a4 0) (a4 5))) mSkip)
  (ag (mIte (a9 (a6 kQ (a4 5) (a4 2))) (av (mTup (a5 (mC (.str bA)) (a5 (a6 dn (a6 gDGet (a4 3) (a4 5)) (a4 6)) mNil)))) mSkip)
  (ag (mIte (a9 (a6 ek (a6 gIdx (a4 4) (mC (.int 0))) (mC c_LEADING)))
  (av (a6 bi (mSl (a4 4) mNoP (mPart (mNeg (mC (.int 2))))) (mCallB J8 (a5 (b7 1 [6,3] (gN 0) (mOverL (mCall bN (a5 (a4 0) (a5 (a4 1) (a5 (a4 2) mNil))))) fh (a6 dn (a6 gDGet (a4 2) (a4 0)) (a4 1))) mNil))))
  mSkip)
  (av (a4 4))))) ρ U=r->mU ([D.lst ds,dN A,.int x,dN (pA 0 L)].map some++List.replicate 3 none) U=r:=fun h =>
  (ar 4 (uG hd rfl rfl)).trans ((ar 5 (ac rfl rfl (k9 (hA x hb)))).trans ((ar 6 (ac (x:=.int ((0+L.idxOf x:Nat):Int)) (ac rfl rfl (k9 (p0 0 L hx))) rfl (by
   show some (D.int (((0+L.idxOf x:Nat):Int)+1))=some (.int ((L.idxOf x+1:Nat):Int));congr 2;omega))).trans h))
 refine aP 3 (pre ?_);unfold nd;by_cases ho:Ed f ds.length x=x
 ·rw[VJ ho];have t1':a9 (a6 kQ (a4 5) (a4 2)) ρ U=.ok false U:=by rw[t1,beq_iff_eq.mpr ho];rfl
  refine(a8 (dZ t1')).trans ((a8 t1').trans ?_);cases hl:(f x).lead with
  |false =>
   rw[hl] at t3;refine(a8 t3).trans (bv ?_);cases hv:f x<;>first|rfl|(rw[hv] at hl;cases hl)
  |true =>
   rw[hl] at t3;obtain⟨k,m,ev,_⟩:=xP hb ho hl;cases N with
   |pl y a b=>rw[ev] at b;cases b
   |tl a b=>rw[ev] at b;cases b
   |bt a=>exact absurd ho a
   |bj a=>exact absurd ho a
   |br k' m' a b c d e g1 g2 j =>
    rw[ev] at b;cases b;rw[ev];have hsb:Sh (ds.getD x .non) (.br k m):=by rw[←ev];exact hs
    obtain⟨y,y1,y2⟩:=RI (a:=L.idxOf (Ed f ds.length (x+1+k))-(L.idxOf x+1)) (b:=L.idxOf (Ed f ds.length (x+1+m))-(L.idxOf x+1)) hsb;have hlg:lg f ds.length x=[Ed f ds.length (x+1+k),Ed f ds.length (x+1+m)]:=by unfold lg;rw[VJ hl,ev];rfl
    have e0:mOverL (mCall bN (a5 (a4 0) (a5 (a4 1) (a5 (a4 2) mNil)))) ρ U=.ok (iL (lg f ds.length x)) U:=iU (aj (a7 rfl (a7 rfl (a7 rfl am))) (AY hd hs rfl fun q hq=>hA q (G x hb q hq)));have e1:b7 1 [6,3] (gN 0) (mOverL (mCall bN (a5 (a4 0) (a5 (a4 1) (a5 (a4 2) mNil))))) fh (a6 dn (a6 gDGet (a4 2) (a4 0)) (a4 1)) ρ U=.ok (.lst [.int ((L.idxOf (Ed f ds.length (x+1+k))-(L.idxOf x+1):Nat):Int),.int ((L.idxOf (Ed f ds.length (x+1+m))-(L.idxOf x+1):Nat):Int)]) U:=by
     unfold b7;rw[e0,ae,VJ (by rw[iL,VS,hlg];exact(show 2<=16777216 by decide))];show(aA (gN 0) fh _ _ [none,some (.int ((L.idxOf x+1:Nat):Int)),some (dN (pA 0 L))] U []).bind _=_;rw[hlg,GH _ fun g hg=>by
      simp only[Wd,VR,WL] at hg;rcases hg with rfl|rfl
      ·exact⟨c,g1⟩
      ·exact⟨d,g2⟩]
     rfl
    refine aN t3 (ac (x:=y) (y:=.tup [.int ((L.idxOf (Ed f ds.length (x+1+k))-(L.idxOf x+1):Nat):Int),.int ((L.idxOf (Ed f ds.length (x+1+m))-(L.idxOf x+1):Nat):Int)]) ?_ (bh (a7 e1 am) rfl) ?_)
    ·show ofO U (TY (ai U (ds.getD x .non)) none (some (-2)))=_;rw[jC hs,y1];rfl
    ·have:ai U y=y:=by
      cases y with
      |ref z=>cases y2
      |_=>rfl
     rw[this];exact y2
 ·rw[VN ho];have t1':a9 (a6 kQ (a4 5) (a4 2)) ρ U=.ok true U:=by rw[t1,show(Ed f ds.length x==x)=false from by simpa using ho];rfl
  cases ht:(f (Ed f ds.length x)).tel with
  |true =>
   rw[ht] at t2;exact aN ((dy t1').trans t2) (uG hd2 rfl rfl)
  |false =>
   rw[ht] at t2;rw[VN (by simp)];cases N with
   |pl y a=>exact absurd a ho
   |tl a=>exact absurd a ho
   |br _ _ a=>exact absurd a ho
   |bt a b=>rw[ht] at b;cases b
   |bj a b c d e =>
    refine(a8 ((dy t1').trans t2)).trans (aN t1' (cY (a7 rfl (a7 ?_ am))));refine ac (x:=.int ((0+L.idxOf (Ed f ds.length x):Nat):Int)) (ac rfl rfl (k9 (p0 0 L c))) rfl ?_;show some (D.int (((0+L.idxOf (Ed f ds.length x):Nat):Int)-((L.idxOf x+1:Nat):Int)))=_;congr 2;omega
end
section
variable {ds:ZE}{f:Nat->Vw}
theorem lA (h:eu f ds.length):first f ds.length ds.length=none:=by
 unfold first
 rw[List.find?_eq_none];intro p hp;rw[h p (by have:=List.mem_range'_1.mp hp;omega)];simp
theorem B2 (h:first f ds.length ds.length=none):eu f ds.length:=fun p hp=>by
 unfold first at h
 rw[List.find?_eq_none] at h;have:=h p (List.mem_range'_1.mpr (by omega));simpa using this
theorem rR (hc:Code ds f) (hn:ds.length<100) (h1:1<=ds.length):Vj ds (first f ds.length ds.length):=fun U=>by
 obtain⟨ν,e⟩:=Qr (b:=none) ⟨fun i d hd _=>hc i d hd,fun _ _ _ z=>(nomatch z)⟩ hn h1 (fun _ z=>(nomatch z)) U;refine⟨ν,e.trans ?_⟩;unfold FU qm;simp
theorem LQ (hc:Code ds f) (hg:eu f ds.length) (hn:ds.length<100) (h1:1<=ds.length) (U:Mu):∃ν,mD [.lst ds] U=.ok .non (U++ν):=by
 obtain⟨ν,e⟩:=rR hc hn h1 U;rw[lA hg] at e;exact⟨ν,kU 1 ((ar 1 (aj (a7 rfl am) e)).trans ((aT rfl).trans rfl))⟩
theorem oX (h:ms ρ U=.ok ds U1) (hf:φ ds U1=r):jR φ ms ρ U=r:=by unfold jR;rw[h];exact hf
section
variable {ρ:En}{U U1:Mu}{x:TM}{m:MX}{n r:bD}{es:ZE}
theorem Rl (j:Nat) (h:n (es.map some++List.replicate j none) U=.exc x U1):fnOf j n es U=.exc x U1:=by rw[lC,h];rfl
theorem Rk (h:n ρ U=.exc x U1):ag n r ρ U=.exc x U1:=by unfold ag;rw[h];rfl
theorem O0 (h:m ρ U=.exc x U1):mDrop m ρ U=.exc x U1:=by unfold mDrop;rw[h];rfl
theorem EH {p:Nat}(h:p<100000):(p:Int).natAbs.log2<1920:=by
 have h1:(p:Int).natAbs=p:=Int.natAbs_natCast p;rw[h1];by_cases h0:p=0
 ·subst h0;decide
 ·exact(Nat.log2_lt h0).mpr (W4 h (Wh (by decide:100000<=2 ^ 17) (Nat.pow_le_pow_right (by decide) (by decide))))
theorem K9 {p:Nat}(k:Nat) (h:m ρ U=.ok (.int p) U1) (hp:p<100000):qU k m ρ U=.exc ⟨k,.int p⟩ U1:=by
 unfold qU;rw[h,ae];dsimp only;rw[VJ (EH hp)]
end
theorem Jh (h:first f n n=some q):q<n:=by
 have:=List.mem_of_find?_eq_some h;rw[List.mem_range'_1] at this;omega
theorem Ap (hc:Code ds f) (hq:first f ds.length ds.length=some q) (hn:ds.length<100) (h1:1<=ds.length) (U:Mu):∃ν,eF [.lst ds] U=.exc ⟨0,.int q⟩ (U++ν):=by
 obtain⟨ν,e⟩:=rR hc hn h1 U;rw[hq] at e;have:=Jh hq;exact⟨ν,Rl 3 (Rk (O0 (oX (a7 rfl am) (Rl 1 ((ar 1 (aj (a7 rfl am) e)).trans ((bw rfl).trans (K9 0 (bz 1 rfl) (by omega))))))))⟩
abbrev Lf (f:Nat->Vw) (n:Nat):Zu:=(stg f n n).left
theorem HU (hc:Code ds f) (G:In f ds.length) (hA:∀q,q<ds.length->List.lookup q A=some (Ed f ds.length q)) (I:Iv f ds.length ds.length (stg f ds.length ds.length)):∀(xs:Zu),(∀x∈xs,x∈Lf f ds.length)->∀(a:ZF) (acc:ZE),
  aA (gN 0) fh (mCall dL (a5 (a4 1) (a5 (a4 2) (a5 (a4 0) (a5 (a4 3) mNil))))) (iL xs) [a,some (.lst ds),some (dN A),some (dN (pA 0 (Lf f ds.length)))] U acc=.ok (acc++xs.map (nd ds f ds.length (Lf f ds.length))) U
 |[],_,_,acc=>by simp[aA,iL]
 |x::xs,h,a,acc=>by
  have hx:=h x (Wg ..);have e1:mCall dL (a5 (a4 1) (a5 (a4 2) (a5 (a4 0) (a5 (a4 3) mNil)))) [some (.int x),some (.lst ds),some (dN A),some (dN (pA 0 (Lf f ds.length)))] U=.ok (nd ds f ds.length (Lf f ds.length) x) U :=
   aj (a7 rfl (a7 rfl (a7 rfl (a7 rfl am)))) (Kq hc G hA hx (I.bd x hx) (I.nw G hx))
  refine(eU (ds:=iL xs) rfl e1).trans ((HU hc G hA I xs (fun y hy=>h y (W6 _ hy)) (some (.int x)) (acc++[nd ds f ds.length (Lf f ds.length) x])).trans ?_);rw[VU,Wf];rfl
theorem DX (hc:Code ds f) (hg:eu f ds.length) (hn:ds.length<100) (h1:1<=ds.length) (U:Mu):∃ν,eF [.lst ds] U=.ok (.lst ((Lf f ds.length).map (nd ds f ds.length (Lf f ds.length)))) (U++ν):=by
 have G:=hg.io;have I:=Iv.stg G h1 ds.length (VL _);have hA:∀q,q<ds.length->List.lookup q (eA f ds.length ds.length)=some (Ed f ds.length q):=fun q hq=>wp (VL _) (by omega) hq
 obtain⟨ν1,e1⟩:=LQ hc hg hn h1 U;have e2:=Mg (U0:=U++ν1) hc G (by omega) h1;obtain⟨c,e3⟩:=LS (U0:=U++ν1++[Cell.dead]) (A:=eA f ds.length ds.length) hc G hA h1 (by omega);have hl:(Lf f ds.length).length<=2*ds.length:=(oZ f ds.length ds.length).1;refine⟨ν1++[Cell.dead]++[Cell.dead]++[c],?_⟩;have e4:b7 2 [] (gTupT (cr (gN 0) (cr (gN 1) gsNil))) (mEnum (a4 2)) fh (mTup (a5 (a4 1) (a5 (a4 0) mNil))) [some (.lst ds),some (dN (eA f ds.length ds.length)),some (gI (Lf f ds.length)),none] (U++ν1++[Cell.dead]++[Cell.dead]++[c])=.ok (.lst (pD 0 (Lf f ds.length))) (U++ν1++[Cell.dead]++[Cell.dead]++[c]):=by
  unfold b7;rw[show mEnum (a4 2) [some (.lst ds),some (dN (eA f ds.length ds.length)),some (gI (Lf f ds.length)),none] (U++ν1++[Cell.dead]++[Cell.dead]++[c])=.ok (dG 0 (iL (Lf f ds.length))) (U++ν1++[Cell.dead]++[Cell.dead]++[c]) from rfl,ae,VJ]
  ·show(aA _ fh _ _ [none,none] _ []).bind _=_;rw[Hr];rfl
  ·have:∀(k:Nat) (xs:ZE),(dG k xs).length=xs.length:=fun k xs=>by
    induction xs generalizing k with
    |nil=>rfl
    |cons x xs ih=>simp[dG,ih]
   rw[this,iL,VS];omega
 have e5:b7 1 [0,1,3] (gN 0) (mOverL (a4 2)) fh (mCall dL (a5 (a4 1) (a5 (a4 2) (a5 (a4 0) (a5 (a4 3) mNil))))) [some (.lst ds),some (dN (eA f ds.length ds.length)),some (gI (Lf f ds.length)),some (dN (pA 0 (Lf f ds.length)))] (U++ν1++[Cell.dead]++[Cell.dead]++[c]) =
   .ok (.lst ((Lf f ds.length).map (nd ds f ds.length (Lf f ds.length)))) (U++ν1++[Cell.dead]++[Cell.dead]++[c]):=by
  unfold b7;rw[show mOverL (a4 2) [some (.lst ds),some (dN (eA f ds.length ds.length)),some (gI (Lf f ds.length)),some (dN (pA 0 (Lf f ds.length)))] (U++ν1++[Cell.dead]++[Cell.dead]++[c])=.ok (iL (Lf f ds.length)) (U++ν1++[Cell.dead]++[Cell.dead]++[c]) from rfl,ae,VJ (by rw[iL,VS];omega)];show(aA (gN 0) fh _ _ [none,some (.lst ds),some (dN (eA f ds.length ds.length)),some (dN (pA 0 (Lf f ds.length)))] _ []).bind _=_;rw[HU hc G hA I _ (fun x hx=>hx)];rfl
 have e6:U++(ν1++[Cell.dead]++[Cell.dead]++[c])=U++ν1++[Cell.dead]++[Cell.dead]++[c]:=by simp
 rw[e6];exact aP 3 (Wx (b8 (fj (oX (a7 rfl am) e1))) (Wx (ar 1 (aj (a7 rfl am) e2)) (Wx (ar 2 (aj (a7 rfl (a7 rfl am)) e3)) (Wx (ar 3 (bh (a7 e4 am) (Ml I.nd))) (bv e5)))))
theorem OJ (hc:Code ds f) (G:In f ds.length) (hb:x<ds.length) (N:Nw f ds.length L x) (hx:x∈L) (hl:L.length<=2000):Sh (nd ds f ds.length L x) (nv f ds.length L x):=by
 have hs:=hc _ _ (yM hb);have he:=uo G x hb;have hs2:=hc _ _ (yM he);unfold nd nv;split
 ·rename_i ho;cases hv:f x with
  |br k m =>
   rw[hv] at hs;cases N with
   |pl y a b=>rw[hv] at b;cases b
   |tl a b=>rw[hv] at b;cases b
   |bt a=>exact absurd ho a
   |bj a=>exact absurd ho a
   |br k' m' a b c d e g1 g2 j =>
    rw[hv] at b;cases b;have:=Wo c;have:=Wo d;exact RO hs (by omega) (by omega)
  |_=>rw[hv] at hs;exact hs
 ·rename_i ho;split
  ·rename_i ht;rw[By ht] at hs2;exact hs2
  ·rename_i ht;cases N with
   |pl y a=>exact absurd a ho
   |tl a=>exact absurd a ho
   |br _ _ a=>exact absurd a ho
   |bt a b=>exact absurd b ht
   |bj a b c d e =>
    have:=Wo c;exact .jump (by omega)
structure Fd (es:ZE) (g:Nat->Vw):Prop where
 code:Code es g
 good:eu g es.length
 tg:Tg g es.length
 pos:1<=es.length
theorem PK (hc:Code ds f) (hg:eu f ds.length) (hn:ds.length<50) (h1:1<=ds.length):Fd ((Lf f ds.length).map (nd ds f ds.length (Lf f ds.length))) (K1 f ds.length (Lf f ds.length)):=by
 have G:=hg.io;have I:=Iv.stg G h1 ds.length (VL _);have hl:=(oZ f ds.length ds.length).1;have e:((Lf f ds.length).map (nd ds f ds.length (Lf f ds.length))).length=(Lf f ds.length).length:=VS ..;refine⟨fun i d hd=>?_,by rw[e];exact hg.new I,by rw[e];exact I.tg G,?_⟩
 ·rw[Wk] at hd;cases hq:(Lf f ds.length)[i]? with
  |none=>rw[hq] at hd;cases hd
  |some x =>
   rw[hq] at hd;cases hd;have hx:x∈Lf f ds.length:=WF hq;have:(Lf f ds.length).getD i 0=x:=by rw[W7,hq];rfl
   unfold K1;rw[this];exact OJ hc G (I.bd x hx) (I.nw G hx) hx (by show(stg f ds.length ds.length).left.length<=_;omega)
 ·rw[e];have:=I.non (I.off G);cases h:(Lf f ds.length) with
  |nil=>exact absurd h this
  |cons a t=>simp
end
local macro_rules | `(tactic| walk_at "ev")=> `(tactic| simp only[z9,sx,sw,sj,sd,Tc,vV,pG,Ba,ur,uq,D8,D6,vZ,wf,pL,CU,w8,D9,Mh,CY,wl,D3,wb,wo,CW,vY,pQ,wa,pK,Mi,D4,yY,o8,kH,kG,yV,D0,z0,sk,wd,su,mK,kh,D7,wg,wn,pP,CZ,wc,vW,yX,mH,pH,pJ,pI,CV,w9,vX,wm,pO,yW,sq,D5,we,yZ,wj,kf,iN,mG,pF,mJ,mI,pM,pN,lC,ae,mS,mT,iG,m9,vc,kI,km,aL,iQ,iP,kJ,fB,VW,X7,Xe,WU,Wu,XM,WC,WN,WO,yN,CH,dc,ka,gK,cS,CK,M7,CG,J6,B3,EU,vN,rP,rM,CJ,vM,rO,vK,vJ,ui,CI,rN,vL,Xt,XO,Int.reduceLT,Int.reduceNeg,nh,IW,Yo,Y4,XA,XD,Xk,reduceIte,XV,Wl,Yi,Xu])
local macro_rules | `(tactic| walk_at "evd")=> `(tactic| simp(config:={decide:=true}) only[NH,NG,YX,z9,sx,sw,sj,sd,Tc,vV,pG,Ba,ur,uq,D8,D6,vZ,wf,pL,CU,w8,D9,Mh,CY,wl,D3,wb,wo,CW,vY,pQ,wa,pK,Mi,D4,yY,o8,kH,kG,yV,D0,z0,sk,wd,su,mK,kh,D7,wg,wn,pP,CZ,wc,vW,yX,mH,pH,pJ,pI,CV,w9,vX,wm,pO,yW,sq,D5,we,yZ,wj,kf,iN,mG,pF,mJ,mI,pM,pN,lC,ae,mS,mT,iG,m9,vc,kI,km,aL,iQ,iP,kJ,fB,VW,X7,Xe,WU,Wu,XM,WC,WN,WO,yN,CH,dc,ka,gK,cS,CK,M7,CG,J6,B3,EU,vN,rP,rM,CJ,vM,rO,vK,vJ,ui,CI,rN,vL,Xt,XO,Int.reduceLT,Int.reduceNeg,nh,IW,Yo,Y4,XA,XD,Xk,reduceIte,XV,Wl,Yi,Xu])
theorem Vz (U:Mu):∀(n:Nat) (f:Nat->D) (a b:Int) (x4 x5 x6:ZF) (x3:ZF),∃x3',forGo (gN 3) c7 ((List.range n).map f) [some (.str aH),some (.int a),some (.int b),x3,x4,x5,x6] U
  =.ok (.nx [some (.str aH),some (.int (a*2 ^ n)),some (.int b),x3',x4,x5,x6]) U:=by
 intro n
 induction n with
 |zero=>intro f a b x4 x5 x6 x3;exact⟨x3,by simp[forGo]⟩
 |succ n ih =>
  intro f a b x4 x5 x6 x3;obtain⟨y,h⟩:=ih (fun k=>f (k+1)) (a*2) b x4 x5 x6 (some (f 0));refine⟨y,?_⟩;rw[WY,VW,Xj,gB];have e1:c7 (List.set [some (.str aH),some (.int a),some (.int b),x3,x4,x5,x6] 3 (some (f 0))) U=.ok (.nx [some (.str aH),some (.int (a*2)),some (.int b),some (f 0),x4,x5,x6]) U:=by
   show c7 [some (.str aH),some (.int a),some (.int b),some (f 0),x4,x5,x6] U=_;have:eM (.int a) (.int 2)=some (.int (a*2)):=ka a 2 (by decide) (by decide);unfold c7
   walk_at "evd"
  rw[e1];simp only[ae,vU];have e2:(f ∘ Nat.succ)=fun k=>f (k+1):=rfl
  rw[e2,h,Int.mul_assoc,show(2:Int)*2 ^ n=2 ^ (n+1) by rw[Zd,Int.mul_comm]]
theorem hlv (U:Mu):∀(n:Nat) (f:Nat->D) (a b:Int) (x4 x5 x6:ZF) (x3:ZF),∃x3',forGo (gN 3) c7 ((List.range n).map f) [some (.str aD),some (.int a),some (.int b),x3,x4,x5,x6] U
  =.ok (.nx [some (.str aD),some (.int (a / 2 ^ n)),some (.int b),x3',x4,x5,x6]) U:=by
 intro n
 induction n with
 |zero=>intro f a b x4 x5 x6 x3;exact⟨x3,by simp[forGo]⟩
 |succ n ih =>
  intro f a b x4 x5 x6 x3;obtain⟨y,h⟩:=ih (fun k=>f (k+1)) (a / 2) b x4 x5 x6 (some (f 0));refine⟨y,?_⟩;rw[WY,VW,Xj,gB];have e1:c7 (List.set [some (.str aD),some (.int a),some (.int b),x3,x4,x5,x6] 3 (some (f 0))) U=.ok (.nx [some (.str aD),some (.int (a / 2)),some (.int b),some (f 0),x4,x5,x6]) U:=by
   show c7 [some (.str aD),some (.int a),some (.int b),some (f 0),x4,x5,x6] U=_;unfold c7
   walk_at "evd"
  rw[e1];simp only[ae,vU];have e2:(f ∘ Nat.succ)=fun k=>f (k+1):=rfl
  rw[e2,h,Int.ediv_ediv_of_nonneg (by decide),show(2:Int)*2 ^ n=2 ^ (n+1) by rw[Zd,Int.mul_comm]]
theorem Dj (A k:Nat):((A:Int) / 2 ^ k) % 2=((A / 2 ^ k % 2:Nat):Int):=by
 rw[show(2:Int) ^ k=((2 ^ k:Nat):Int) by simp,←Int.natCast_ediv];rfl
def Dk (o:Zu) (p q:Bool):Bool:=if o=bx then p&&q else if o=dv then p||q else xor p q
def me (o:Zu) (A B:Nat):Nat:=if o=bx then A &&& B else if o=dv then A ||| B else A ^^^ B
theorem Ey (o:Zu) (A B k:Nat):(me o A B).testBit k=Dk o (A.testBit k) (B.testBit k):=by
 unfold me Dk;split
 ·exact Nat.testBit_and ..
 ·split
  ·exact Nat.testBit_or ..
  ·exact Nat.testBit_xor ..
theorem Uc:¬dv=bx:=by decide
theorem Ub:¬cg=bx:=by decide
theorem Ua:¬cg=dv:=by decide
theorem Ui (x y:Int):bB (.tup [.int x,.int y]) (.tup [.int 1,.int 1])=some (.bl (x==1&&y==1)):=by
 show some (D.bl (eqD _ _))=_;simp[eqD,eqDs]
theorem Uh (x y:Int):kQ (.tup [.int x,.int y]) (.tup [.int 0,.int 0])=some (.bl (!(x==0&&y==0))):=by
 show some (D.bl (!eqD _ _))=_;simp[eqD,eqDs]
theorem VD (x y:D):atI [x,y] 0=some x:=rfl
theorem VC (x y:D):atI [x,y] 1=some y:=rfl
theorem UQ (a b c:D):gDGet (.dic [.inr bx,.inr dv,.inr cg] [a,b,c]) (.str bx)=some a:=rfl
theorem VA (a b c:D):gDGet (.dic [.inr bx,.inr dv,.inr cg] [a,b,c]) (.str dv)=some b:=rfl
theorem UO (a b c:D):gDGet (.dic [.inr bx,.inr dv,.inr cg] [a,b,c]) (.str cg)=some c:=rfl
def JD (o:Zu) (x y:Int):Bool:=if o=bx then(x==1&&y==1) else if o=dv then !(x==0&&y==0) else !(x==y)
theorem UP (o:Zu) (ho:o=bx\/o=dv\/o=cg) (x y:Int):gDGet (.dic [.inr bx,.inr dv,.inr cg] [.bl (x==1&&y==1),.bl (!(x==0&&y==0)),.bl (!(x==y))]) (.str o)=some (.bl (JD o x y)):=by
 unfold JD;rcases ho with rfl|rfl|rfl
 ·rw[UQ,VJ rfl]
 ·rw[VA,VN Uc,VJ rfl]
 ·rw[UO,VN Ub,VN Ua]
theorem Ro (o:Zu) (ho:o=bx\/o=dv\/o=cg) (A B p F:Int) (f:D) (x6:ZF) (U:Mu) (q1:dq (.int A) (.int p)=some (.int (A / p))) (q2:dq (.int B) (.int p)=some (.int (B / p))) (q3:∀j,eM (.int p) (.int j)=some (.int (p*j))) :
  f8 [some (.str o),some (.int A),some (.int B),some f,some (.int F),some (.int p),x6] U
   =.ok (.nx [some (.str o),some (.int A),some (.int B),some f,some (.int (F+p*(if JD o (A / p % 2) (B / p % 2)=true then 1 else 0))),some (.int (p*2)),some (.tup [.int (A / p % 2),.int (B / p % 2)])]) U:=by
 unfold f8;simp only[q1,q2,q3,Ui,Uh,VD,VC,z9,sx,sw,sj,sd,Tc,o8,kH,kG,yY,yV,sk,z0,su,mK,kh,yW,sq,yX,mH,ae,iG,aL,km,iQ,iP,fB,rO,rM,yN,cS,Int.reduceLT,VW,X7,WN,WO,UP o ho,rN]
theorem JC (o:Zu) (A B k:Nat):(if JD o ((A:Int) / 2 ^ k % 2) ((B:Int) / 2 ^ k % 2)=true then(1:Int) else 0)=((Dk o (A.testBit k) (B.testBit k)).toNat:Int):=by
 rw[Y7,Y7,Dj,Dj];have ha:A / 2 ^ k % 2=0\/A / 2 ^ k % 2=1:=by omega
 have hb:B / 2 ^ k % 2=0\/B / 2 ^ k % 2=1:=by omega
 unfold JD Dk;by_cases h1:o=bx
 ·simp only[VJ h1];rcases ha with ha|ha<;>rcases hb with hb|hb<;>rw[ha,hb]<;>rfl
 ·simp only[VN h1];by_cases h2:o=dv
  ·simp only[VJ h2];rcases ha with ha|ha<;>rcases hb with hb|hb<;>rw[ha,hb]<;>rfl
  ·simp only[VN h2];rcases ha with ha|ha<;>rcases hb with hb|hb<;>rw[ha,hb]<;>rfl
theorem DM (k:Nat) (hk:k<32):(2:Int) ^ k<18446744073709551616:=by
 have h1:(2:Nat) ^ k<2 ^ 64:=Nat.pow_lt_pow_right (by decide) (by omega);have h2:(2:Int) ^ k=((2 ^ k:Nat):Int):=by simp
 rw[h2];omega
theorem EF (o:Zu) (ho:o=bx\/o=dv\/o=cg) (A B:Nat) (U:Mu):∀(n k:Nat) (f:Nat->D) (x3 x6:ZF),k+n<=32->∃x3' x6',
  forGo (gN 3) f8 ((List.range n).map f) [some (.str o),some (.int A),some (.int B),x3,some (.int ((me o A B % 2 ^ k:Nat):Int)),some (.int (2 ^ k)),x6] U
   =.ok (.nx [some (.str o),some (.int A),some (.int B),x3',some (.int ((me o A B % 2 ^ (k+n):Nat):Int)),some (.int (2 ^ (k+n))),x6']) U:=by
 intro n
 induction n with
 |zero=>intro k f x3 x6 _;exact⟨x3,x6,rfl⟩
 |succ n ih =>
  intro k f x3 x6 hk;have hp:(0:Int)<2 ^ k:=Int.pow_pos (by decide);have hp2:=DM k (by omega);obtain⟨y3,y6,h⟩:=ih (k+1) (fun j=>f (j+1)) (some (f 0)) (some (.tup [.int ((A:Int) / 2 ^ k % 2),.int ((B:Int) / 2 ^ k % 2)])) (by omega);refine⟨y3,y6,?_⟩;rw[WY,VW,Xj,gB];simp only[WN,WO];rw[Ro o ho A B (2 ^ k) _ (f 0) x6 U (gK _ _ hp hp2) (gK _ _ hp hp2) fun j=>dc _ _ (by omega) hp2];simp only[ae,vU];rw[JC,←Ey];have e1:((me o A B % 2 ^ k:Nat):Int)+2 ^ k*(((me o A B).testBit k).toNat:Int)=((me o A B % 2 ^ (k+1):Nat):Int):=by
   rw[Yj,Y8];simp
  rw[e1,show(2:Int) ^ k*2=2 ^ (k+1) from(Zd 2 k).symm,show(f ∘ Nat.succ)=fun j=>f (j+1) from rfl,h,show k+1+n=k+(n+1) by omega]
section
variable (a b:Int) (U:Mu)
theorem Pg:ay [.str bW,.int a,.int b] U=.ok (.int ((a+b) % 4294967296)) U:=by rfl
theorem L6:ay [.str bo,.int a,.int b] U=.ok (.int ((a-b) % 4294967296)) U:=by rfl
theorem Sl:ay [.str bx,.int a,.int b] U=.ok (.int (Builtin.bitAnd a b % 4294967296)) U:=by rfl
theorem UD:ay [.str dv,.int a,.int b] U=.ok (.int (Builtin.bitOr a b % 4294967296)) U:=by rfl
theorem Sd:ay [.str cg,.int a,.int b] U=.ok (.int (Builtin.bitXor a b % 4294967296)) U:=by rfl
theorem L5:ay [.str aI,.int a,.int 0] U=.ok .non U:=by rfl
theorem L4:ay [.str aM,.int a,.int 0] U=.ok .non U:=by rfl
theorem rB (o:Zu):ek (.str o) c_DIVIDING=if sO o then some (.bl (aI==o||aM==o)) else none:=by
 show(if inOk _ _ then some (D.bl (if false=true then _ else inD _ _)) else none)=_;have e1:inOk (.str o) [.str aI,.str aM]=sO o:=by
  simp only[inOk,au,plainDs,kl,sO];have h1:aI.all (fun x=>decide (x<0x110000))=true:=rfl;have h2:aM.all (fun x=>decide (x<0x110000))=true:=rfl;rw[h1,h2];simp
 rw[e1];simp[inD,eqD]
variable {a b}
theorem sS (ha:-18446744073709551616<a) (ha2:a<18446744073709551616):aB [.str aZ,.int a,.int b] U=.ok (.int (a*b)) U:=by
 unfold aB bR
 walk_at "evd"
 rw[dc _ _ ha ha2]
 walk_at "ev"
theorem KY (ha:-18446744073709551616<a) (ha2:a<18446744073709551616):ay [.str aZ,.int a,.int b] U=.ok (.int (a*b % 4294967296)) U:=by
 unfold ay ff
 walk_at "ev"
 simp only[show ai U c_DIVIDING=c_DIVIDING from rfl,rB,show sO aZ=true from rfl,show(aI==aZ||aM==aZ)=false from rfl]
 walk_at "ev"
 rw[sS U ha ha2];rfl
theorem Ph (hb:0<b) (hb2:b<18446744073709551616):ay [.str aI,.int a,.int b] U=.ok (.int (a / b % 4294967296)) U:=by
 have h0:(b==0)=false:=by simp;omega
 have h1:aB [.str aI,.int a,.int b] U=.ok (.int (a / b)) U:=by
  unfold aB bR
  walk_at "evd"
  rw[gK _ _ hb hb2]
  walk_at "ev"
 unfold ay ff
 walk_at "ev"
 simp only[show ai U c_DIVIDING=c_DIVIDING from rfl,rB,show sO aI=true from rfl,show(aI==aI||aM==aI)=true from rfl]
 walk_at "ev"
 simp only[h0]
 walk_at "ev"
 rw[h1];rfl
theorem Pf (hb:0<b):ay [.str aM,.int a,.int b] U=.ok (.int (a % b % 4294967296)) U:=by
 have h0:(b==0)=false:=by simp;omega
 have h1:aB [.str aM,.int a,.int b] U=.ok (.int (a % b)) U:=by
  unfold aB bR
  walk_at "evd"
  rw[cS _ _ hb]
  walk_at "ev"
 unfold ay ff
 walk_at "ev"
 simp only[show ai U c_DIVIDING=c_DIVIDING from rfl,rB,show sO aM=true from rfl,show(aI==aM||aM==aM)=true from rfl]
 walk_at "ev"
 simp only[h0]
 walk_at "ev"
 rw[h1];rfl
def QX (o:Zu) (a b:Int):Int:=if b≥32 then 0 else if o=aH then a*2 ^ b.toNat else a / 2 ^ b.toNat
theorem BZ (o:Zu) (ho:o=aH\/o=aD) (hb:0<=b) (ha:a.natAbs<18446744073709551616):ay [.str o,.int a,.int b] U=.ok (.int (QX o a b % 4294967296)) U:=by
 have hw:¬aD=aH:=by decide
 have h1:dD [.str o,.int a,.int b] U=.ok (.int (QX o a b)) U:=by
  unfold dD oJ;have hc:c_WIDTH=.int 32:=rfl;rw[hc]
  walk_at "ev"
  unfold QX;by_cases h:32<=b
  ·simp only[h,XA,ge_iff_le,Xt]
   walk_at "ev"
  ·have hm:(if(0:Int)>b then 0 else b)=b:=VN (by omega);simp only[h,XD,ge_iff_le,XO,hm]
   walk_at "ev"
   rw[hm];rcases ho with rfl|rfl
   ·rw[show bB (.str aH) (.str aH)=some (.bl true) from rfl]
    walk_at "ev"
    rw[NF _ _ hb (by omega) ha]
    walk_at "ev"
   ·rw[show bB (.str aD) (.str aH)=some (.bl false) from rfl]
    walk_at "ev"
    rw[NE _ _ hb];simp only[VN hw]
    walk_at "ev"
 have h2:aB [.str o,.int a,.int b] U=.ok (.int (QX o a b)) U:=by
  unfold aB bR;rcases ho with rfl|rfl
  ·walk_at "evd"
   rw[h1]
   walk_at "ev"
  ·walk_at "evd"
   rw[h1]
   walk_at "ev"
 unfold ay ff
 walk_at "ev"
 have h3:(sO o=true)/\(aI==o||aM==o)=false:=by rcases ho with rfl|rfl<;>exact⟨rfl,rfl⟩
 simp only[show ai U c_DIVIDING=c_DIVIDING from rfl,rB,h3.1,h3.2,Xt]
 walk_at "ev"
 rw[h2];rfl
theorem iA (o:Zu) (ho:sO o=true):ek (.str o) (.tup [.str aI,.str aM])=some (.bl (aI==o||aM==o)):=by
 have:=rB o;rw[ho] at this;exact this
theorem iB (o:Zu) (ho:sO o=true):ek (.str o) (.tup [.str aH,.str aD])=some (.bl (aH==o||aD==o)):=by
 show(if inOk _ _ then some (D.bl (if false=true then _ else inD _ _)) else none)=_;have e1:inOk (.str o) [.str aH,.str aD]=sO o:=by
  simp only[inOk,au,plainDs,kl,sO];have h1:aH.all (fun x=>decide (x<0x110000))=true:=rfl;have h2:aD.all (fun x=>decide (x<0x110000))=true:=rfl;rw[h1,h2];simp
 rw[e1,ho];simp[inD,eqD]
theorem iC (o:Zu) (ho:sO o=true):ek (.str o) (.tup [.str bx,.str dv,.str cg])=some (.bl (bx==o||(dv==o||cg==o))):=by
 show(if inOk _ _ then some (D.bl (if false=true then _ else inD _ _)) else none)=_;have e1:inOk (.str o) [.str bx,.str dv,.str cg]=sO o:=by
  simp only[inOk,au,plainDs,kl,sO];have h1:bx.all (fun x=>decide (x<0x110000))=true:=rfl;have h2:dv.all (fun x=>decide (x<0x110000))=true:=rfl;have h3:cg.all (fun x=>decide (x<0x110000))=true:=rfl;rw[h1,h2,h3];simp
 rw[e1,ho];simp[inD,eqD]
theorem dP (x y z:D):gDGet (.dic [.inr bW,.inr bo,.inr aZ] [x,y,z]) (.str bW)=some x:=rfl
theorem dM (x y z:D):gDGet (.dic [.inr bW,.inr bo,.inr aZ] [x,y,z]) (.str bo)=some y:=rfl
theorem dT (x y z:D):gDGet (.dic [.inr bW,.inr bo,.inr aZ] [x,y,z]) (.str aZ)=some z:=rfl
theorem OR (ha:-18446744073709551616<a) (ha2:a<18446744073709551616):aJ [.str bW,.int a,.int b] U=.ok (.int ((a+b) % 4294967296)) U:=by
 have h:eM (.int a) (.int b)=some (.int (a*b)):=dc _ _ ha ha2;unfold aJ dH
 walk_at "ev"
 simp only[iA bW rfl,show(aI==bW||aM==bW)=false from rfl]
 walk_at "ev"
 simp only[iB bW rfl,show(aH==bW||aD==bW)=false from rfl]
 walk_at "ev"
 simp only[iC bW rfl,show(bx==bW||(dv==bW||cg==bW))=false from rfl]
 walk_at "ev"
 rw[h]
 walk_at "ev"
 rw[dP]
 walk_at "ev"
theorem KD (ha:-18446744073709551616<a) (ha2:a<18446744073709551616):aJ [.str bo,.int a,.int b] U=.ok (.int ((a-b) % 4294967296)) U:=by
 have h:eM (.int a) (.int b)=some (.int (a*b)):=dc _ _ ha ha2;unfold aJ dH
 walk_at "ev"
 simp only[iA bo rfl,show(aI==bo||aM==bo)=false from rfl]
 walk_at "ev"
 simp only[iB bo rfl,show(aH==bo||aD==bo)=false from rfl]
 walk_at "ev"
 simp only[iC bo rfl,show(bx==bo||(dv==bo||cg==bo))=false from rfl]
 walk_at "ev"
 rw[h]
 walk_at "ev"
 rw[dM]
 walk_at "ev"
theorem KA (ha:-18446744073709551616<a) (ha2:a<18446744073709551616):aJ [.str aZ,.int a,.int b] U=.ok (.int (a*b % 4294967296)) U:=by
 have h:eM (.int a) (.int b)=some (.int (a*b)):=dc _ _ ha ha2;unfold aJ dH
 walk_at "ev"
 simp only[iA aZ rfl,show(aI==aZ||aM==aZ)=false from rfl]
 walk_at "ev"
 simp only[iB aZ rfl,show(aH==aZ||aD==aZ)=false from rfl]
 walk_at "ev"
 simp only[iC aZ rfl,show(bx==aZ||(dv==aZ||cg==aZ))=false from rfl]
 walk_at "ev"
 rw[h]
 walk_at "ev"
 rw[dT]
 walk_at "ev"
theorem KC:aJ [.str aI,.int a,.int 0] U=.ok .non U:=by rfl
theorem KB:aJ [.str aM,.int a,.int 0] U=.ok .non U:=by rfl
theorem OS (hb:0<b) (hb2:b<18446744073709551616):aJ [.str aI,.int a,.int b] U=.ok (.int (a / b)) U:=by
 have h0:(b==0)=false:=by simp;omega
 unfold aJ dH
 walk_at "ev"
 simp only[iA aI rfl,show(aI==aI||aM==aI)=true from rfl]
 walk_at "ev"
 simp only[h0]
 walk_at "ev"
 rw[show bB (.str aI) (.str aI)=some (.bl true) from rfl]
 walk_at "ev"
 rw[gK _ _ hb hb2]
 walk_at "ev"
theorem OQ (hb:0<b) (hb2:b<18446744073709551616):aJ [.str aM,.int a,.int b] U=.ok (.int (a-a / b*b)) U:=by
 have h0:(b==0)=false:=by simp;omega
 unfold aJ dH
 walk_at "ev"
 simp only[iA aM rfl,show(aI==aM||aM==aM)=true from rfl]
 walk_at "ev"
 simp only[h0]
 walk_at "ev"
 rw[show bB (.str aM) (.str aI)=some (.bl false) from rfl]
 walk_at "ev"
 rw[gK _ _ hb hb2]
 walk_at "ev"
 rw[ka _ _ (by omega) hb2]
 walk_at "ev"
theorem BN (o:Zu) (ho:o=aH\/o=aD) (hb:0<=b) (hb2:b<4294967296):aJ [.str o,.int a,.int b] U=.ok (.int ((if o=aH then a*2 ^ (min b.toNat 33) else a / 2 ^ (min b.toNat 33)) % 4294967296)) U:=by
 have h3:sO o=true/\(aI==o||aM==o)=false/\(aH==o||aD==o)=true:=by rcases ho with rfl|rfl<;>exact⟨rfl,rfl,rfl⟩
 have hm:(if(33:Int)<b then 33 else b)=((min b.toNat 33:Nat):Int):=by split<;>omega
 have hr:gz [.int ((min b.toNat 33:Nat):Int)]=some (rangeD (min b.toNat 33)):=oM _ (by omega);unfold aJ dH
 walk_at "ev"
 simp only[iA o h3.1,h3.2.1]
 walk_at "ev"
 simp only[iB o h3.1,h3.2.2]
 walk_at "ev"
 rw[hm,hr]
 walk_at "ev"
 unfold rangeD;rcases ho with rfl|rfl
 ·obtain⟨x,e⟩:=Vz U (min b.toNat 33) (fun k=>.int (k:Nat)) a b none none none none;rw[e]
  walk_at "ev"
 ·obtain⟨x,e⟩:=hlv U (min b.toNat 33) (fun k=>.int (k:Nat)) a b none none none none;rw[e]
  walk_at "ev"
  rw[VN (show ¬aD=aH by decide)]
theorem uS (o:Zu) (ho:o=bx\/o=dv\/o=cg) (A B:Nat):aJ [.str o,.int A,.int B] U=.ok (.int ((me o A B % 2 ^ 32:Nat):Int)) U:=by
 have h3:sO o=true/\(aI==o||aM==o)=false/\(aH==o||aD==o)=false/\(bx==o||(dv==o||cg==o))=true:=by rcases ho with rfl|rfl|rfl<;>exact⟨rfl,rfl,rfl,rfl⟩
 have hr:gz [.int 32]=some (rangeD 32):=rfl;unfold aJ dH
 walk_at "ev"
 simp only[iA o h3.1,h3.2.1]
 walk_at "ev"
 simp only[iB o h3.1,h3.2.2.1]
 walk_at "ev"
 simp only[iC o h3.1,h3.2.2.2]
 walk_at "ev"
 rw[hr]
 walk_at "ev"
 obtain⟨x,y,e⟩:=EF o ho A B U 32 0 (fun k=>.int (k:Nat)) none none (by decide);have e0:((me o A B % 2 ^ 0:Nat):Int)=0:=by rw[Nat.pow_zero,Nat.mod_one];rfl
 rw[e0] at e;have e':forGo (gN 3) f8 (rangeD 32) [some (D.str o),some (D.int A),some (D.int B),none,some (D.int 0),some (D.int 1),none] U=_:=e;rw[e']
 walk_at "ev"
end
theorem Ht (A B:Nat):∀k:Nat,(A ||| B) % 2 ^ k=(A ^^^ B) % 2 ^ k+(A &&& B) % 2 ^ k:=by
 intro k
 induction k with
 |zero=>simp[Nat.mod_one]
 |succ k ih =>
  rw[Yj,Yj,Yj,ih,←Y8,←Y8,←Y8,Nat.testBit_or,Nat.testBit_xor,Nat.testBit_and];cases A.testBit k<;>cases B.testBit k<;>simp<;>omega
theorem QP (A B:Nat):Builtin.bitAnd (A:Int) (B:Int)=((A &&& B:Nat):Int):=PyProof.Rows.bitAnd_pp (YC _) (YC _)
theorem Vf (A B:Nat):Builtin.bitOr (A:Int) (B:Int)=((A ||| B:Nat):Int):=by
 unfold Builtin.bitOr;have h:∀n:Nat,¬0<=Builtin.bitNot (n:Int):=fun n=>by unfold Builtin.bitNot;omega
 have e:∀n:Int,Builtin.bitNot (Builtin.bitNot n)=n:=fun n=>by unfold Builtin.bitNot;omega
 rw[PyProof.Rows.bitAnd_nn (h A) (h B),e,e,e];simp
theorem US (A B:Nat) (hA:A<2 ^ 32) (hB:B<2 ^ 32):Builtin.bitXor (A:Int) (B:Int)=((A ^^^ B:Nat):Int):=by
 unfold Builtin.bitXor;rw[Vf,QP];have h:=Ht A B 32;rw[Yk (Nat.or_lt_two_pow hA hB),Yk (Nat.xor_lt_two_pow hA hB),Yk (Nat.and_lt_two_pow _ hB)] at h;omega
theorem both (o:Zu) (ho:o∈xR) (a b:Int) (ha:0<=a) (ha2:a<4294967296) (hb:0<=b) (hb2:b<4294967296) :
  (∀U,ay [.str o,.int a,.int b] U=.ok .non U/\aJ [.str o,.int a,.int b] U=.ok .non U)\/∃i,∀U,ay [.str o,.int a,.int b] U=.ok (.int i) U/\aJ [.str o,.int a,.int b] U=.ok (.int i) U:=by
 have a1:-18446744073709551616<a:=by omega
 have a2:a<18446744073709551616:=by omega
 have b2:b<18446744073709551616:=by omega
 have hs:∀o',o'=aH\/o'=aD->QX o' a b % 4294967296=(if o'=aH then a*2 ^ (min b.toNat 33) else a / 2 ^ (min b.toNat 33)) % 4294967296:=fun o' ho'=>by
  unfold QX;by_cases h:b≥32
  ·rw[VJ h];rcases ho' with rfl|rfl
   ·rw[VJ rfl];obtain⟨c,hc⟩:∃c,min b.toNat 33=32+c:=⟨min b.toNat 33-32,by omega⟩
    rw[hc,Int.pow_add,←Int.mul_assoc,Int.mul_right_comm];have:(2:Int) ^ 32=4294967296:=by decide
    rw[this];omega
   ·rw[VN (show ¬aD=aH by decide)];have:a / 2 ^ (min b.toNat 33)=0:=by
     refine Int.ediv_eq_zero_of_lt ha (Int.lt_of_lt_of_le ha2 ?_);have h2:(2:Nat) ^ 32<=2 ^ (min b.toNat 33):=Nat.pow_le_pow_right (by decide) (by omega);have h3:(2:Int) ^ (min b.toNat 33)=((2 ^ (min b.toNat 33):Nat):Int):=by simp
     rw[h3];omega
    rw[this]
  ·rw[VN h,show min b.toNat 33=b.toNat by omega]
 obtain⟨A,rfl⟩:=Xf ha;obtain⟨B,rfl⟩:=Xf hb;have hA:A<2 ^ 32:=by omega
 have hB:B<2 ^ 32:=by omega
 simp only[xR,Wd,VR,WL] at ho;rcases ho with rfl|rfl|rfl|rfl|rfl|rfl|rfl|rfl|rfl|rfl
 ·exact .inr ⟨_,fun U=>⟨Pg _ _ U,OR U a1 a2⟩⟩
 ·exact .inr ⟨_,fun U=>⟨L6 _ _ U,KD U a1 a2⟩⟩
 ·exact .inr ⟨_,fun U=>⟨KY U a1 a2,KA U a1 a2⟩⟩
 ·by_cases h:B=0
  ·subst h;exact .inl fun U=>⟨L5 _ U,KC U⟩
  ·refine .inr ⟨_,fun U=>⟨Ph U (by omega) b2,?_⟩⟩;rw[OS U (by omega) b2,Int.emod_eq_of_lt (Int.ediv_nonneg ha hb) (Int.lt_of_le_of_lt (Int.ediv_le_self _ ha) ha2)]
 ·by_cases h:B=0
  ·subst h;exact .inl fun U=>⟨L4 _ U,KB U⟩
  ·refine .inr ⟨_,fun U=>⟨Pf U (by omega),?_⟩⟩;have h1:=Ws (A:Int) (show(B:Int)≠0 by omega);have h2:=Wz (A:Int) (show(0:Int)<B by omega);rw[OQ U (by omega) b2,Int.emod_eq_of_lt h1 (by omega)];have h3:=Int.mul_ediv_add_emod (A:Int) B;rw[Int.mul_comm (A / B:Int) B];have:(A:Int)-B*(A / B:Int)=A % B:=by omega
   rw[this]
 ·refine .inr ⟨_,fun U=>⟨Sl _ _ U,?_⟩⟩;rw[uS U bx (.inl rfl),QP];rfl
 ·refine .inr ⟨_,fun U=>⟨UD _ _ U,?_⟩⟩;rw[uS U dv (.inr (.inl rfl)),Vf];rfl
 ·refine .inr ⟨_,fun U=>⟨Sd _ _ U,?_⟩⟩;rw[uS U cg (.inr (.inr rfl)),US A B hA hB];rfl
 ·refine .inr ⟨_,fun U=>⟨BZ U aH (.inl rfl) hb (by omega),?_⟩⟩;rw[BN U aH (.inl rfl) hb hb2,hs _ (.inl rfl)]
 ·refine .inr ⟨_,fun U=>⟨BZ U aD (.inr rfl) hb (by omega),?_⟩⟩;rw[BN U aD (.inr rfl) hb hb2,hs _ (.inr rfl)]
end K30
namespace K30
open PySem PySem.Spec PyProof.Rows L2 M
theorem pz :∀{ns:Zv}{ds:List β}{i:Nat},ns.Nodup->ns.length=ds.length->ns[i]? =some nm->kP nm ns ds=ds[i]?
 |[],ds,i,_,_,h=>by simp at h
 |n::ns,[],i,_,hl,_=>by simp at hl
 |n::ns,d::ds,0,_,_,h=>by
  have:n=nm:=by simpa using h
  unfold kP;rw[VJ this];rfl
 |n::ns,d::ds,i+1,hd,hl,h=>by
  have h':ns[i]? =some nm:=by simpa using h
  have hne:n≠nm:=fun z=>by
   have:=(List.nodup_cons.mp hd).1;exact this (z▸WF h')
  unfold kP;rw[VN hne,pz (List.nodup_cons.mp hd).2 (by simpa using hl) h'];rfl
theorem BP :∀{ns:Zv}{ds:List β}{i:Nat},ns.Nodup->ns.length=ds.length->ns[i]? =some nm->putN nm v ns ds=(ns,ds.set i v)
 |[],ds,i,_,_,h=>by simp at h
 |n::ns,[],i,_,hl,_=>by simp at hl
 |n::ns,d::ds,0,_,_,h=>by
  have:n=nm:=by simpa using h
  unfold putN;rw[VJ this];rfl
 |n::ns,d::ds,i+1,hd,hl,h=>by
  have h':ns[i]? =some nm:=by simpa using h
  have hne:n≠nm:=fun z=>by
   have:=(List.nodup_cons.mp hd).1;exact this (z▸WF h')
  unfold putN;rw[VN hne,BP (List.nodup_cons.mp hd).2 (by simpa using hl) h'];rfl
theorem xK :∀{ns:Zv}{ds:List β},nm∉ns->ns.length=ds.length->putN nm v ns ds=(ns++[nm],ds++[v])
 |[],[],_,_=>rfl
 |[],_::_,_,hl=>by simp at hl
 |n::ns,[],_,hl=>by simp at hl
 |n::ns,d::ds,h,hl=>by
  rw[Wd,not_or] at h;unfold putN;rw[VN (fun z=>h.1 z.symm),xK h.2 (by simpa using hl)];rfl
def ya:Zv:=["hand","other","slots","place","done","told"]
theorem ve:ya.Nodup:=by decide +kernel
abbrev zF:Str->Bool:=aq
theorem Cc:zF "Machine"=true:=by decide +kernel
def cR (U0:Mu) (h o:Int) (ks:List DK) (ds:ZE) (p n:Int) (t:D):Mu:=U0++[.obj "Machine" ya [.int h,.int o,.ref (U0.length+1),.int p,.int n,t],.dic ks ds]
section
variable {U0:Mu}{h o:Int}{ks:List DK}{ds:ZE}{p n:Int}{t:D}{ρ:En}{mo mv:MX}
theorem LN:(cR U0 h o ks ds p n t)[U0.length]? =some (.obj "Machine" ya [.int h,.int o,.ref (U0.length+1),.int p,.int n,t]):=by
 unfold cR;rw[VQ (VL _),Wm];rfl
theorem Ck:(cR U0 h o ks ds p n t)[U0.length+1]? =some (.dic ks ds):=by
 unfold cR;rw[VQ (by omega),show U0.length+1-U0.length=1 by omega];rfl
theorem mn:ny zF (.ref U0.length) (cR U0 h o ks ds p n t)=some (U0.length,("Machine":Str),ya,[.int h,.int o,.ref (U0.length+1),.int p,.int n,t]):=by
 unfold ny;dsimp only;rw[LN];dsimp only;rw[VJ Cc]
theorem mV (i:Nat) (hm:mo ρ (cR U0 h o ks ds p n t)=.ok (.ref U0.length) (cR U0 h o ks ds p n t)) (hn:ya[i]? =some nm) (hv:([.int h,.int o,.ref (U0.length+1),.int p,.int n,t]:ZE)[i]? =some v) :
  mAttr zF nm mo ρ (cR U0 h o ks ds p n t)=.ok v (cR U0 h o ks ds p n t):=by
 unfold mAttr;rw[hm,ae,mn];show ofO _ (kP nm ya ([.int h,.int o,.ref (U0.length+1),.int p,.int n,t]:ZE))=_;rw[pz (ds:=([.int h,.int o,.ref (U0.length+1),.int p,.int n,t]:ZE)) ve rfl hn,hv];rfl
theorem LM (c:Cell):(cR U0 h o ks ds p n t).set U0.length c=U0++[c,.dic ks ds]:=by
 unfold cR;rw[WH _ _ (VL _),Wm];rfl
theorem yk (c:Cell):(cR U0 h o ks ds p n t).set (U0.length+1) c=U0++[.obj "Machine" ya [.int h,.int o,.ref (U0.length+1),.int p,.int n,t],c]:=by
 unfold cR;rw[WH _ _ (by omega),show U0.length+1-U0.length=1 by omega];rfl
theorem BD (i:Nat) (hn:ya[i]? =some nm):xy zF nm ρ (.ref U0.length) v (cR U0 h o ks ds p n t)=.ok (.nx ρ) (U0++[.obj "Machine" ya (([.int h,.int o,.ref (U0.length+1),.int p,.int n,t]:ZE).set i v),.dic ks ds]):=by
 unfold xy;rw[mn];dsimp only;rw[VJ (show ya.length<900 by decide),BP (ds:=([.int h,.int o,.ref (U0.length+1),.int p,.int n,t]:ZE)) ve rfl hn,LM]
theorem uE (i:Nat) (hv:mv ρ (cR U0 h o ks ds p n t)=.ok v (cR U0 h o ks ds p n t)) (hm:mo ρ (cR U0 h o ks ds p n t)=.ok (.ref U0.length) (cR U0 h o ks ds p n t)) (hn:ya[i]? =some nm) :
  mSetA zF nm mo mv ρ (cR U0 h o ks ds p n t)=.ok (.nx ρ) (U0++[.obj "Machine" ya (([.int h,.int o,.ref (U0.length+1),.int p,.int n,t]:ZE).set i v),.dic ks ds]):=by
 unfold mSetA;rw[hv,ae,hm,ae,BD i hn]
theorem NP (i:Nat) (hm:mo ρ (cR U0 h o ks ds p n t)=.ok (.ref U0.length) (cR U0 h o ks ds p n t)) (hn:ya[i]? =some nm) (ha:([.int h,.int o,.ref (U0.length+1),.int p,.int n,t]:ZE)[i]? =some (.int a)) (hv:mv ρ (cR U0 h o ks ds p n t)=.ok (.int b) (cR U0 h o ks ds p n t)) :
  mAugA zF nm mo mv ρ (cR U0 h o ks ds p n t)=.ok (.nx ρ) (U0++[.obj "Machine" ya (([.int h,.int o,.ref (U0.length+1),.int p,.int n,t]:ZE).set i (.int (a+b))),.dic ks ds]):=by
 unfold mAugA;have e:((ny zF (.ref U0.length) (cR U0 h o ks ds p n t)).bind fun q=>kP nm q.2.2.1 q.2.2.2)=some (.int a):=by
  rw[mn];exact(pz (ds:=([.int h,.int o,.ref (U0.length+1),.int p,.int n,t]:ZE)) ve rfl hn).trans ha
 rw[hm,ae,e];dsimp only;rw[hv,ae];exact BD i hn
end
def wU (d:D):Prop:=∃i:Int,d=.int i/\0<=i/\i<4294967296
theorem qV (r:DK):∀(ks:List DK) (ds:ZE),aF ks (eW ks ds q v) r=if r=q then(aF ks ds q).map (fun _=>v) else aF ks ds r
 |[],ds=>by unfold eW;simp[aF]
 |k::ks,[]=>by unfold eW;simp[aF]
 |k::ks,d::ds=>by
  have ih:=qV (q:=q) (v:=v) r ks ds;show(if k=r then some (if k=q then v else d) else aF ks (eW ks ds q v) r)=if r=q then(if k=q then some d else aF ks ds q).map (fun _=>v) else(if k=r then some d else aF ks ds r)
  rw[ih];by_cases h1:k=r
  ·subst h1;by_cases h2:k=q
   ·subst h2;simp
   ·simp[h2]
  ·by_cases h2:r=q
   ·subst h2;simp[h1]
   ·simp[h1,h2]
theorem qW :∀{ks:List DK}{ds:ZE},ks.length=ds.length->(aF ks ds q).isSome=ks.any fun k=>decide (k=q)
 |[],[],_=>rfl
 |[],_::_,h=>by simp at h
 |_::_,[],h=>by simp at h
 |k::ks,d::ds,h=>by
  show(if k=q then some d else aF ks ds q).isSome=_;rw[WZ,←qW (q:=q) (ks:=ks) (ds:=ds) (by simpa using h)];by_cases z:k=q<;>simp[z]
theorem nC :∀{ks:List DK}{ds:ZE},ks.length=ds.length->aF (ks++[q]) (ds++[v]) r=(aF ks ds r).or (if q=r then some v else none)
 |[],[],_=>by simp[aF]
 |[],_::_,h=>by simp at h
 |_::_,[],h=>by simp at h
 |k::ks,d::ds,h=>by
  show(if k=r then some d else aF (ks++[q]) (ds++[v]) r)=_;rw[nC (by simpa using h)];show _=Option.or (if k=r then some d else aF ks ds r) _;by_cases z:k=r<;>simp[z]
theorem E1 (h:ks.length=ds.length):ks.length=(eW ks ds q v).length:=by unfold eW;rw[XG,←h,YA]
theorem wU.mod (r:Int):wU (.int (r % 4294967296)):=⟨_,rfl,Ws _ (by decide),Wz _ (by decide)⟩
section
variable {a b r:Int}{U:Mu}{x:Zu}
theorem l0 (hx:mAnd (a9 (a6 ek (a4 0) (mC c_DIVIDING))) (a9 (a6 bB (a4 2) (mC (.int 0)))) [some (.str x),some (.int a),some (.int b)] U=.ok false U) (hp:aB [.str x,.int a,.int b] U=.ok (.int r) U) :
  ay [.str x,.int a,.int b] U=.ok (.int (r % 4294967296)) U:=aP 0 ((a8 hx).trans (bv (ac (aj rfl hp) rfl (cS _ _ (by decide)))))
theorem GN (hx:a9 (a6 ek (a4 0) (mC c_DIVIDING)) [some (.str x),some (.int a),some (.int b)] U=.ok true U) (hb:0<b):mAnd (a9 (a6 ek (a4 0) (mC c_DIVIDING))) (a9 (a6 bB (a4 2) (mC (.int 0)))) [some (.str x),some (.int a),some (.int b)] U=.ok false U:=by
 refine(dy hx).trans (aC (ac rfl rfl ?_));rw[aL,aL,rP,show(b==0)=false by rw[WJ];omega]
theorem RK (ha:0<=a) (ha2:a<4294967296) (hb:0<=b) (hx:x=aH\/x=aD):∃r,dD [.str x,.int a,.int b] U=.ok (.int r) U:=by
 by_cases h:32<=b
 ·refine⟨0,aP 1 (aN (aC (ac rfl rfl ?_)) rfl)⟩;show t7 (.int b) (.int 32)=_;rw[vN,VX h]
 ·have h1:a9 (a6 t7 (a4 2) (mC c_WIDTH)) [some (.str x),some (.int a),some (.int b),none] U=.ok false U:=by
   refine aC (ac rfl rfl ?_);show t7 (.int b) (.int 32)=_;rw[vN,VY h]
  have h2:mCallB t5 (a5 (a4 2) (a5 (mC (.int 0)) mNil)) [some (.str x),some (.int a),some (.int b),none] U=.ok (.int b) U:=by
   refine bh rfl ?_;show t5 [.int b,.int 0]=_;rw[ui,VN (by omega)]
  rcases hx with rfl|rfl
  ·exact⟨_,aP 1 ((a8 h1).trans ((ar 3 h2).trans (bv ((iy rfl).trans (ac rfl rfl (NF _ _ hb (by omega) (by omega)))))))⟩
  ·exact⟨_,aP 1 ((a8 h1).trans ((ar 3 h2).trans (bv ((jh rfl).trans (ac rfl rfl (NE _ _ hb))))))⟩
theorem Uy (hx:x∈xR) (ha:0<=a) (ha2:a<4294967296) (hb:0<=b) (hb2:b<4294967296) (U:Mu):∃d,ay [.str x,.int a,.int b] U=.ok d U/\(d=.non\/wU d):=by
 have z:b=0\/0<b:=by omega
 have sh:∀y,y=aH\/y=aD->∃r,dD [.str y,.int a,.int b] U=.ok (.int r) U:=fun y hy=>RK ha ha2 hb hy
 revert hx;revert x;show ∀x∈xR,_;refine qI ⟨⟨_,l0 (dZ rfl) rfl,.inr (wU.mod _)⟩,⟨_,l0 (dZ rfl) rfl,.inr (wU.mod _)⟩,?_,?_,?_,⟨_,l0 (dZ rfl) rfl,.inr (wU.mod _)⟩,⟨_,l0 (dZ rfl) rfl,.inr (wU.mod _)⟩,⟨_,l0 (dZ rfl) rfl,.inr (wU.mod _)⟩,?_,?_⟩
 ·exact⟨_,l0 (dZ rfl) (aP 0 ((a8 rfl).trans ((a8 rfl).trans (aN rfl (ac rfl rfl (dc _ _ (by omega) (by omega))))))),.inr (wU.mod _)⟩
 ·rcases z with rfl|z
  ·exact⟨.non,rfl,.inl rfl⟩
  ·exact⟨_,l0 (GN rfl z) (aP 0 ((a8 rfl).trans ((a8 rfl).trans ((a8 rfl).trans (aN rfl (ac rfl rfl (gK _ _ z (by omega)))))))),.inr (wU.mod _)⟩
 ·rcases z with rfl|z
  ·exact⟨.non,rfl,.inl rfl⟩
  ·exact⟨_,l0 (GN rfl z) (aP 0 ((a8 rfl).trans ((a8 rfl).trans ((a8 rfl).trans ((a8 rfl).trans (aN rfl (ac rfl rfl (cS _ _ z)))))))),.inr (wU.mod _)⟩
 ·obtain⟨r,e⟩:=sh aH (.inl rfl);exact⟨_,l0 (dZ rfl) (aP 0 ((a8 rfl).trans ((a8 rfl).trans ((a8 rfl).trans ((a8 rfl).trans ((a8 rfl).trans ((a8 rfl).trans ((a8 rfl).trans ((a8 rfl).trans (bv (aj rfl e))))))))))),.inr (wU.mod _)⟩
 ·obtain⟨r,e⟩:=sh aD (.inr rfl);exact⟨_,l0 (dZ rfl) (aP 0 ((a8 rfl).trans ((a8 rfl).trans ((a8 rfl).trans ((a8 rfl).trans ((a8 rfl).trans ((a8 rfl).trans ((a8 rfl).trans ((a8 rfl).trans (bv (aj rfl e))))))))))),.inr (wU.mod _)⟩
theorem N9 (hx:x∈xR) (ha:0<=a) (ha2:a<4294967296) (hb:0<=b) (hb2:b<4294967296):∃d,(d=.non\/wU d)/\(∀U,ay [.str x,.int a,.int b] U=.ok d U)/\∀U,aJ [.str x,.int a,.int b] U=.ok d U:=by
 obtain⟨d,e,hd⟩:=Uy hx ha ha2 hb hb2 [];rcases both x hx a b ha ha2 hb hb2 with h|⟨i,h⟩
 ·exact⟨.non,.inl rfl,fun U=>(h U).1,fun U=>(h U).2⟩
 ·have:=e.symm.trans (h []).1;cases this;exact⟨_,hd,fun U=>(h U).1,fun U=>(h U).2⟩
theorem IZ (hx:x∈Om) (ha:0<=a) (ha2:a<4294967296) (hb:0<=b) (hb2:b<4294967296):∃k,(∀U,iK [.str x,.int a,.int b] U=.ok (.bl k) U)/\∀U,mE [.str x,.int a,.int b] U=.ok (.bl k) U:=by
 revert hx;revert x;show ∀x∈Om,_;refine A5 ⟨⟨_,fun _=>rfl,fun _=>rfl⟩,⟨_,fun _=>rfl,fun _=>rfl⟩,⟨_,fun _=>rfl,fun _=>rfl⟩,?_⟩;obtain⟨A,rfl⟩:=Xf ha;obtain⟨B,rfl⟩:=Xf hb;have hB:B<2 ^ 32:=by omega
 have hm:(A &&& B) % 2 ^ 32=A &&& B:=Yk (Nat.and_lt_two_pow _ hB);refine⟨!((((A &&& B:Nat):Int))==0),fun U=>?_,fun U=>?_⟩
 ·have e:EW (.int A) (.int B)=some (.int ((A &&& B:Nat):Int)):=by
   show some (D.int (Builtin.bitAnd (A:Int) (B:Int)))=_;rw[QP]
  exact aP 0 ((a8 rfl).trans ((a8 rfl).trans ((a8 rfl).trans (bv (ac (ac rfl rfl e) rfl (rM _ _))))))
 ·have e:aJ [.str bx,.int A,.int B] U=.ok (.int ((A &&& B:Nat):Int)) U:=by
   rw[uS U bx (.inl rfl)];show Res.ok (D.int (((A &&& B) % 2 ^ 32:Nat):Int)) U=_;rw[hm]
  refine aP 0 (aN rfl (ac (aj rfl e) rfl ?_));rw[aL,aL,EU];generalize A &&& B=c;have:decide ((0:Int)<(c:Int))= !((c:Int)==0):=by
   rw[Bool.eq_iff_iff];simp;omega
  rw[this]
end
def QZ:Int->Int->Int:=fun v i=>v*256+i
theorem nD :∀(xs:ZC) (k:Nat) (v:Int) (x4:ZF),(∀i∈xs,0<=i/\i<256)->0<=v->v<256 ^ k->k+xs.length<=4->∃y4,
  forGo (gN 4) gf (xs.map .int) [a,b,c,some (.int v),x4] U=.ok (.nx [a,b,c,some (.int (xs.foldl QZ v)),y4]) U/\0<=xs.foldl QZ v/\xs.foldl QZ v<256 ^ (k+xs.length)
 |[],k,v,x4,_,h0,h1,_=>⟨x4,rfl,h0,h1⟩
 |i::xs,k,v,x4,hx,h0,h1,hk=>by
  obtain⟨⟨i0,i1⟩,hx'⟩:=List.forall_mem_cons.mp hx;rw[W1] at hk;have hv:v<4294967296:=by
   have:(256:Int) ^ k<=256 ^ 4:=by
    have hk4:k=0\/k=1\/k=2\/k=3\/k=4:=by omega
    rcases hk4 with rfl|rfl|rfl|rfl|rfl<;>decide
   have h4:(256:Int) ^ 4=4294967296:=by decide
   omega
  have e1:gf [a,b,c,some (.int v),some (.int i)] U=.ok (.nx [a,b,c,some (.int (v*256+i)),some (.int i)]) U:=by
   unfold gf mSet;rw[ac (x:=.int (v*256)) (y:=.int i) (z:=.int (v*256+i)) (ac rfl rfl (dc _ _ (by omega) (by omega))) rfl rfl];rfl
  obtain⟨y4,e,h2,h3⟩:=nD xs (k+1) (v*256+i) (some (.int i)) hx' (by omega) (by rw[Zd];omega) (by omega);refine⟨y4,(la e1).trans e,h2,?_⟩;rw[W1,show k+(xs.length+1)=k+1+xs.length by omega];exact h3
theorem Ue (h:m ρ U=.ok (.lst xs) U) (hl:ml ρ U=.ok (.int i) U) (hh:mh ρ U=.ok (.int j) U):mSl m (mPart ml) (mPart mh) ρ U=.ok (.lst (M.cutD xs (some i) (some j))) U:=by
 unfold mSl mPart;rw[h,ae,hl,ae];dsimp only;rw[ae,hh,ae];rfl
abbrev pk (bs:ZC):D:=.lst (bs.map .int)
def sN (bs:ZC):Prop:=(∀i∈bs,0<=i/\i<256)/\bs.length<1000
theorem QB {bs:ZC}(h:i+z<=bs.length):M.cutD (bs.map .int) (some (i:Int)) (some ((i+z:Nat):Int))=((bs.drop i).take z).map D.int:=by
 unfold M.cutD;rw[HT.sIx_nat,HT.sIx_nat,VS,Nat.min_eq_left (by omega),Nat.min_eq_left (by omega),show i+z-i=z by omega,←List.map_drop,←List.map_take]
abbrev UT:MX:=a6 eM (a6 gIdx (a4 1) (a6 bi (a4 2) (a4 0))) (a6 gIdx (mLst (a5 (mC (.int 1)) (a5 (mC (.int 256)) (a5 (mC (.int 65536)) (a5 (mC (.int 16777216)) mNil))))) (a6 dn (a6 dn (a4 3) (mC (.int 1))) (a4 0)))
section
variable {bs:ZC}{st:Nat}{U:Mu}
theorem Bk (k:Nat) (hx:(bs.drop st)[k]? =some x) (hb:0<=x/\x<256)
  (hw:a6 gIdx (mLst (a5 (mC (.int 1)) (a5 (mC (.int 256)) (a5 (mC (.int 65536)) (a5 (mC (.int 16777216)) mNil))))) (a6 dn (a6 dn (a4 3) (mC (.int 1))) (a4 0)) [some (.int k),some (pk bs),some (.int st),some (.int z)] U=.ok (.int w) U) :
  UT [some (.int k),some (pk bs),some (.int st),some (.int z)] U=.ok (.int (x*w)) U:=by
 refine ac (x:=.int x) (y:=.int w) (ac (x:=pk bs) (y:=.int ((st+k:Nat):Int)) rfl (ac rfl rfl ?_) (gy ?_)) hw (dc _ _ (by omega) (by omega))
 ·show some (D.int ((st:Int)+(k:Int)))=_;rw[Int.natCast_add]
 ·rw[Wk,←List.getElem?_drop,hx];rfl
theorem Q8 (hB:sN bs) (hs:sz=1\/sz=2\/sz=4):∃d,(d=.non\/wU d)/\(∀U,j7 [pk bs,.int sz,.int st] U=.ok d U)/\∀U,mF [pk bs,.int st,.int sz] U=.ok d U:=by
 have t1:∀U,a9 (a6 t6 (a4 2) (mC (.int 0))) [some (pk bs),some (.int sz),some (.int st),none,none] U=.ok false U:=fun U=>by
  refine aC (ac rfl rfl ?_);rw[aL,aL,J6,VY (by omega)]
 have hl:(bs.map D.int).length=bs.length:=VS _;have t2:∀U,a9 (a6 yP (a6 bi (a4 2) (a4 1)) (mCallB bM (a5 (a4 0) mNil))) [some (pk bs),some (.int sz),some (.int st),none,none] U=.ok (decide ((bs.length:Int)<st+sz)) U:=fun U=>by
  rw[←hl];exact aC (ac (x:=.int (st+sz)) (y:=.int (bs.map D.int).length) rfl rfl rfl)
 have t3:∀U,a9 (a6 yP (a6 bi (a4 1) (a4 2)) (mCallB bM (a5 (a4 0) mNil))) [some (pk bs),some (.int st),some (.int sz)] U=.ok (decide ((bs.length:Int)<st+sz)) U:=fun U=>by
  rw[←hl];exact aC (ac (x:=.int (st+sz)) (y:=.int (bs.map D.int).length) rfl rfl rfl)
 by_cases h:(bs.length:Int)<st+sz
 ·rw[VX h] at t2 t3;exact⟨.non,.inl rfl,fun U=>aP 2 (aN ((tm (t1 U)).trans (t2 U)) rfl),fun U=>aP 0 (aN (t3 U) rfl)⟩
 ·rw[VY h] at t2 t3;obtain⟨z,rfl,hz⟩:∃z:Nat,sz=z/\z<=4:=⟨sz.toNat,by omega,by omega⟩
  have hc:=QB (bs:=bs) (i:=st) (z:=z) (by omega);have hm:∀i∈(bs.drop st).take z,0<=i/\i<256:=fun i hi=>hB.1 i (List.mem_of_mem_drop (List.mem_of_mem_take hi))
  have hlen:((bs.drop st).take z).length<=4:=Wh (List.length_take_le _ _) hz;refine⟨.int (((bs.drop st).take z).foldl QZ 0),.inr ?_,fun U=>?_,fun U=>?_⟩
  ·obtain⟨y4,e,h2,h3⟩:=nD (a:=none) (b:=none) (c:=none) (U:=[]) ((bs.drop st).take z) 0 0 none hm (by decide) (by decide) (by omega);refine⟨_,rfl,h2,?_⟩;have:(256:Int) ^ (0+((bs.drop st).take z).length)<=256 ^ 4:=by
    generalize ((bs.drop st).take z).length=k at hlen;have hk4:k=0\/k=1\/k=2\/k=3\/k=4:=by omega
    rcases hk4 with rfl|rfl|rfl|rfl|rfl<;>decide
   have h4:(256:Int) ^ 4=4294967296:=by decide
   omega
  ·obtain⟨y4,e,h2,h3⟩:=nD (a:=some (pk bs)) (b:=some (.int z)) (c:=some (.int st)) (U:=U) ((bs.drop st).take z) 0 0 none hm (by decide) (by decide) (by omega);rw[←hc] at e;refine aP 2 ((a8 ((tm (t1 U)).trans (t2 U))).trans ((ar 3 (d:=.int 0) rfl).trans ((b8 ((fI (iU (Ue (j:=((st+z:Nat):Int)) rfl rfl (ac rfl rfl ?_)))).trans e)).trans (bv rfl))));show some (D.int ((st:Int)+(z:Int)))=_;rw[Int.natCast_add]
  ·have hb:∀(k:Nat) (x:Int),(bs.drop st)[k]? =some x->0<=x/\x<256:=fun k x e=>hB.1 x (List.mem_of_mem_drop (WF e))
   have hd:z<=(bs.drop st).length:=by rw[YS];omega
   have fin:∀L:ZC,aA (gN 0) fh UT (rangeD z) [none,some (pk bs),some (.int st),some (.int z)] U []=.ok (L.map .int) U->intsOf (L.map .int)=some L->L.sum=((bs.drop st).take z).foldl QZ 0->mF [pk bs,.int st,.int z] U=.ok (.int (((bs.drop st).take z).foldl QZ 0)) U:=fun L e1 e2 e3=>by
    refine aP 0 ((a8 (t3 U)).trans (bv (bh (a7 (d:=.lst (L.map .int)) ?_ am) ?_)))
    ·unfold b7;rw[show mRange1 (a4 2) [some (pk bs),some (.int st),some (.int z)] U=.ok (rangeD z) U by
      unfold mRange1;rw[bz 2 rfl,ae,oM _ (by omega)];rfl,ae,VJ (by unfold rangeD;rw[VS,List.length_range];omega)]
     show(aA (gN 0) fh UT _ [none,some (pk bs),some (.int st),some (.int z)] U []).bind _=_;rw[e1];rfl
    ·show(intsOf (L.map .int)).map _=_;rw[e2,←e3];rfl
   have hz':z=1\/z=2\/z=4:=by omega
   rcases hz' with rfl|rfl|rfl
   ·obtain⟨a,r,er⟩:∃a r,bs.drop st=a::r:=by
     cases e:bs.drop st with
     |nil=>rw[e] at hd;simp at hd
     |cons a r=>exact⟨a,r,rfl⟩
    have h0:(bs.drop st)[0]? =some a:=by rw[er];rfl
    refine fin [a*1] ((eU rfl (Bk 0 h0 (hb 0 a h0) rfl)).trans rfl) rfl ?_;rw[er];show a*1+0=0*256+a;omega
   ·obtain⟨a,b,r,er⟩:∃a b r,bs.drop st=a::b::r:=by
     match e:bs.drop st,hd with
     |[],hd=>simp at hd
     |[_],hd=>simp at hd
     |a::b::r,_=>exact⟨a,b,r,rfl⟩
    have h0:(bs.drop st)[0]? =some a:=by rw[er];rfl
    have h1:(bs.drop st)[1]? =some b:=by rw[er];rfl
    refine fin [a*256,b*1] ((eU rfl (Bk 0 h0 (hb 0 a h0) rfl)).trans ((eU rfl (Bk 1 h1 (hb 1 b h1) rfl)).trans rfl)) rfl ?_;rw[er];show a*256+(b*1+0)=(0*256+a)*256+b;omega
   ·obtain⟨a,b,c,d,r,er⟩:∃a b c d r,bs.drop st=a::b::c::d::r:=by
     match e:bs.drop st,hd with
     |[],hd=>simp at hd
     |[_],hd=>simp at hd
     |[_,_],hd=>simp at hd
     |[_,_,_],hd=>simp at hd
     |a::b::c::d::r,_=>exact⟨a,b,c,d,r,rfl⟩
    have h0:(bs.drop st)[0]? =some a:=by rw[er];rfl
    have h1:(bs.drop st)[1]? =some b:=by rw[er];rfl
    have h2:(bs.drop st)[2]? =some c:=by rw[er];rfl
    have h3:(bs.drop st)[3]? =some d:=by rw[er];rfl
    refine fin [a*16777216,b*65536,c*256,d*1] ((eU rfl (Bk 0 h0 (hb 0 a h0) rfl)).trans ((eU rfl (Bk 1 h1 (hb 1 b h1) rfl)).trans ((eU rfl (Bk 2 h2 (hb 2 c h2) rfl)).trans ((eU rfl (Bk 3 h3 (hb 3 d h3) rfl)).trans rfl)))) rfl ?_;rw[er];show a*16777216+(b*65536+(c*256+(d*1+0)))=(((0*256+a)*256+b)*256+c)*256+d;omega
end
structure SN (ks:List DK) (ds:ZE):Prop where
 len:ks.length=ds.length
 num:∀q d,aF ks ds q=some d->wU d
def sK (ks:List DK) (q:DK):List DK:=if(ks.any fun k=>decide (k=q))=true then ks else ks++[q]
def sD (ks:List DK) (ds:ZE) (q:DK) (v:D):ZE:=if(ks.any fun k=>decide (k=q))=true then eW ks ds q v else ds++[v]
theorem SN.put (h:SN ks ds) (q:DK) (hv:wU v):SN (sK ks q) (sD ks ds q v):=by
 unfold sK sD;by_cases z:(ks.any fun k=>decide (k=q))=true
 ·rw[VJ z,VJ z];refine⟨E1 h.len,fun r d e=>?_⟩;rw[qV] at e;split at e
  ·cases e2:aF ks ds q with
   |none=>rw[e2] at e;cases e
   |some y=>rw[e2] at e;cases e;exact hv
  ·exact h.num r d e
 ·rw[VN z,VN z];refine⟨by simp[h.len],fun r d e=>?_⟩;rw[nC h.len] at e;cases e2:aF ks ds r with
  |none =>
   rw[e2,Option.none_or] at e;split at e
   ·cases e;exact hv
   ·cases e
  |some y=>rw[e2,Option.some_or] at e;cases e;exact h.num r _ e2
theorem OM (ks:List DK) (q:DK):(sK ks q).length<=ks.length+1:=by
 unfold sK;split
 ·omega
 ·simp
def lm (ν:Mu) (ks:List DK) (ds:ZE):Mu:=ν++[.dic ks ds]
section
variable {ν U0:Mu}{h o:Int}{ks:List DK}{ds:ZE}{p n:Int}{t:D}{cs:ZE}{ρ:En}
theorem IB:(lm ν ks ds)[ν.length]? =some (.dic ks ds):=by
 unfold lm;rw[VQ (VL _),Wm];rfl
theorem IC:ai (lm ν ks ds) (.ref ν.length)=.dic ks ds:=by
 unfold ai;dsimp only;rw[IB]
theorem S4 (hk:ks.length<16777216):uT ρ (.ref ν.length) (.int s) v (lm ν ks ds)=.ok (.nx ρ) (lm ν (sK ks (.inl s)) (sD ks ds (.inl s) v)):=by
 unfold uT;dsimp only;rw[IB];show(if ks.length<16777216 then(if(ks.any fun k=>decide (k=.inl (s:Int)))=true then _ else _) else _)=_;rw[VJ hk];have e:∀c,(lm ν ks ds).set ν.length c=ν++[c]:=fun c=>by
  unfold lm;rw[WH _ _ (VL _),Wm];rfl
 unfold sK sD;by_cases z:(ks.any fun k=>decide (k=.inl (s:Int)))=true
 ·rw[VJ z,VJ z,VJ z,e];rfl
 ·rw[VN z,VN z,VN z,e];rfl
theorem S3 (hk:ks.length<16777216):uT ρ (.ref (U0.length+1)) (.int s) v (cR U0 h o ks ds p n t)=.ok (.nx ρ) (cR U0 h o (sK ks (.inl s)) (sD ks ds (.inl s) v) p n t):=by
 unfold uT;dsimp only;rw[Ck];show(if ks.length<16777216 then(if(ks.any fun k=>decide (k=.inl (s:Int)))=true then _ else _) else _)=_;rw[VJ hk];unfold sK sD;by_cases z:(ks.any fun k=>decide (k=.inl (s:Int)))=true
 ·rw[VJ z,VJ z,VJ z,yk];rfl
 ·rw[VN z,VN z,VN z,yk];rfl
end
def MV:D->Bool
 |.tup (.str x::_)=>[eP,dX,eI,dW,lL,jg].contains x
 |_=>false
section
variable {h o:Int}{bs:ZC}
theorem Ud (hs:Sh d v) (hT:MV d=true) (h0:0<=h) (h1:h<4294967296) (o0:0<=o) (o1:o<4294967296) (hB:sN bs) :
  ∃d',(d'=.non\/wU d')/\(∀(U0:Mu) (ks:List DK) (ds:ZE) (p n:Int) (t:D),dJ [.ref U0.length,d,pk bs] (cR U0 h o ks ds p n t)=.ok d' (cR U0 h o ks ds p n t))/\∀U,lB [d,.tup [.int h,.int o],pk bs] U=.ok (.tup [d',.int o]) U:=by
 have ah:∀{ρ:En}{U0:Mu}{ks:List DK}{ds:ZE}{p n:Int}{t:D},ρ[0]? =some (some (.ref U0.length))->mAttr zF "hand" (a4 0) ρ (cR U0 h o ks ds p n t)=.ok (.int h) (cR U0 h o ks ds p n t):=fun hρ=>mV 0 (bz 0 hρ) rfl rfl
 have ao:∀{ρ:En}{U0:Mu}{ks:List DK}{ds:ZE}{p n:Int}{t:D},ρ[0]? =some (some (.ref U0.length))->mAttr zF "other" (a4 0) ρ (cR U0 h o ks ds p n t)=.ok (.int o) (cR U0 h o ks ds p n t):=fun hρ=>mV 1 (bz 0 hρ) rfl rfl
 have hl:(bs.map D.int).length=bs.length:=VS _;cases hs with
 | @load a b c ha hb hc =>
  cases ha with
  | @size sz hz =>
   cases hc with
   | @num i i0 i1 =>
    cases hb with
    | @base y hy =>
     have key:∃q:Nat,∃w:Int,(∀(U0:Mu) (ks:List DK) (ds:ZE) (p n:Int) (t:D),mIf (a9 (a6 bB (a6 gIdx (a4 1) (mC (.int 2))) (mC (.str FD)))) (mAttr zF "other" (a4 0)) (mC (.int 0)) [some (.ref U0.length),some (.tup [.str eP,.int sz,.str y,.int i]),some (pk bs),none] (cR U0 h o ks ds p n t)=.ok (.int w) (cR U0 h o ks ds p n t))/\w+i=q /\
       ∀U,a6 bi (a6 gIdx (a4 0) (mC (.int 3))) (a6 eM (a4 4) (mCallB kc (a5 (a6 bB (a6 gIdx (a4 0) (mC (.int 2))) (mC (.str FD))) mNil))) [some (.tup [.str eP,.int sz,.str y,.int i]),some (.tup [.int h,.int o]),some (pk bs),some (.int h),some (.int o)] U=.ok (.int q) U:=by
      clear hT;revert hy;revert y;show ∀y∈TZ,_;refine Bl ⟨⟨i.toNat,0,fun _ _ _ _ _ _=>jh rfl,by omega,fun U=>?_⟩,⟨(o+i).toNat,o,fun _ _ _ _ _ _=>(iy rfl).trans (ao rfl),by omega,fun U=>?_⟩⟩
      ·refine ac (x:=.int i) (y:=.int (o*0)) rfl (ac (x:=.int o) (y:=.int 0) rfl rfl (dc _ _ (by omega) (by omega))) ?_;show some (D.int (i+o*0))=_;congr 2;omega
      ·refine ac (x:=.int i) (y:=.int (o*1)) rfl (ac (x:=.int o) (y:=.int 1) rfl rfl (dc _ _ (by omega) (by omega))) ?_;show some (D.int (i+o*1))=_;congr 2;omega
     obtain⟨q,w,e,hq,e2⟩:=key;obtain⟨d',hd',l1,l2⟩:=Q8 (st:=q) hB hz;refine⟨d',hd',fun U0 ks ds p n t=>aP 1 (l9 ((bw rfl).trans ((ar 3 (e U0 ks ds p n t)).trans (bv (aj (a7 rfl (a7 rfl (a7 (ac rfl rfl ?_) am))) (l1 _)))))),fun U=>?_⟩
     ·show some (D.int (w+i))=_;rw[hq]
     ·exact aP 2 ((ar 3 (d:=.int h) rfl).trans ((ar 4 (d:=.int o) rfl).trans (aN rfl (cY (a7 (aj (a7 rfl (a7 (e2 U) (a7 rfl am))) (l2 U)) (a7 rfl am))))))
 |len =>
  refine⟨.int (bs.map D.int).length,.inr ⟨_,rfl,by omega,by have:=hB.2;omega⟩,fun U0 ks ds p n t=>aP 1 ((a8 rfl).trans (aN rfl rfl)),fun U=>?_⟩;exact aP 2 ((ar 3 (d:=.int h) rfl).trans ((ar 4 (d:=.int o) rfl).trans ((a8 rfl).trans ((a8 rfl).trans (aN rfl (cY (a7 (ac (x:=.dic [.inr dX,.inr eI,.inr dW] [.int (bs.map D.int).length,.str dX,.int o]) (y:=.str dX) (G9 (a7 (d:=.int (bs.map D.int).length) rfl (a7 (d:=.str dX) rfl (a7 (d:=.int o) rfl am)))) rfl rfl) (a7 rfl am))))))))
 | @set a ha =>
  cases ha with
  | @num i i0 i1 =>
   refine⟨.int i,.inr ⟨_,rfl,i0,i1⟩,fun U0 ks ds p n t=>aP 1 ((a8 rfl).trans ((a8 rfl).trans (aN rfl rfl))),fun U=>?_⟩;exact aP 2 ((ar 3 (d:=.int h) rfl).trans ((ar 4 (d:=.int o) rfl).trans ((a8 rfl).trans ((a8 rfl).trans (aN rfl (cY (a7 (ac (x:=.dic [.inr dX,.inr eI,.inr dW] [.int (bs.map D.int).length,.int i,.int o]) (y:=.str eI) (G9 (a7 (d:=.int (bs.map D.int).length) rfl (a7 (d:=.int i) rfl (a7 (d:=.int o) rfl am)))) rfl rfl) (a7 rfl am))))))))
 |txa =>
  refine⟨.int o,.inr ⟨_,rfl,o0,o1⟩,fun U0 ks ds p n t=>aP 1 ((a8 rfl).trans ((a8 rfl).trans ((a8 rfl).trans (aN rfl (ao rfl))))),fun U=>?_⟩;exact aP 2 ((ar 3 (d:=.int h) rfl).trans ((ar 4 (d:=.int o) rfl).trans ((a8 rfl).trans ((a8 rfl).trans (aN rfl (cY (a7 (ac (x:=.dic [.inr dX,.inr eI,.inr dW] [.int (bs.map D.int).length,.str dW,.int o]) (y:=.str dW) (G9 (a7 (d:=.int (bs.map D.int).length) rfl (a7 (d:=.str dW) rfl (a7 (d:=.int o) rfl am)))) rfl rfl) (a7 rfl am))))))))
 | @do_ x k hx k0 k1 _ =>
  obtain⟨d',hd',r1,r2⟩:=N9 hx h0 h1 k0 k1;exact⟨d',hd',fun U0 ks ds p n t=>aP 1 ((a8 rfl).trans ((a8 rfl).trans ((a8 rfl).trans ((a8 rfl).trans (aN rfl (aj (a7 rfl (a7 (ah rfl) (a7 rfl am))) (r1 _))))))),fun U=>aP 2 ((ar 3 (d:=.int h) rfl).trans ((ar 4 (d:=.int o) rfl).trans ((a8 rfl).trans (aN rfl (cY (a7 (aj (a7 rfl (a7 rfl (a7 ((iy rfl).trans rfl) am))) (r2 U)) (a7 rfl am)))))))⟩
 | @dox a ha =>
  cases ha with
  |op hx =>
   obtain⟨d',hd',r1,r2⟩:=N9 hx h0 h1 o0 o1;exact⟨d',hd',fun U0 ks ds p n t=>aP 1 ((a8 rfl).trans ((a8 rfl).trans ((a8 rfl).trans ((a8 rfl).trans ((a8 rfl).trans (aN rfl (aj (a7 rfl (a7 (ah rfl) (a7 (ao rfl) am))) (r1 _)))))))),fun U=>aP 2 ((ar 3 (d:=.int h) rfl).trans ((ar 4 (d:=.int o) rfl).trans ((a8 rfl).trans (aN rfl (cY (a7 (aj (a7 rfl (a7 rfl (a7 ((jh rfl).trans rfl) am))) (r2 U)) (a7 rfl am)))))))⟩
 |_=>exact Bool.noConfusion (show false=true from hT)
end
inductive Oc|tell (t:Int)|on (h o:Int) (ks:List DK) (ds:ZE) (z:Nat)
structure Im (h o:Int) (ks:List DK) (ds:ZE):Prop where
 h0:0<=h
 h1:h<4294967296
 o0:0<=o
 o1:o<4294967296
 sl:SN ks ds
def Oc.gv (v:Vw) (ks:List DK) (ds:ZE):Oc->Prop
 |.on h' o' ks' ds' z=>Im h' o' ks' ds'/\ks'.length<=ks.length+1/\z=0/\v.tel=false/\∀s:Nat,aF ks' ds' (.inl (s:Int))=none->aF ks ds (.inl (s:Int))=none/\v.isK s=false
 |_=>True
theorem pw (I:Im h' o' ks ds) (ht:v.tel=false) (hv:∀s,v.isK s=false):(Oc.on h' o' ks ds 0).gv v ks ds:=⟨I,by omega,rfl,ht,fun s e=>⟨e,hv s⟩⟩
section
variable (cs:ZE) (bs:ZC) (d:D) (h o:Int) (ks:List DK) (ds:ZE)
def PO:Oc->Prop
 |.tell t=>∀(U0:Mu) (p:Nat) (n:Int),∃h' o' ks' ds' g,cE [.ref U0.length,d,pk bs] (cR U0 h o ks ds p n .non)=.ok .non (cR U0 h' o' ks' ds' g (n+1) (.int t))
 |.on h' o' ks' ds' z=>∀(U0:Mu) (p:Nat) (n:Int),cE [.ref U0.length,d,pk bs] (cR U0 h o ks ds p n .non)=.ok .non (cR U0 h' o' ks' ds' ((p+1+z:Nat):Int) (n+1) .non)
abbrev lE (ν:Mu) (p m:D) (x6 x7 x8:ZF):En:=[some (.lst cs),some (pk bs),some (.tup [.int h,.int o]),some (.ref ν.length),some p,some m,x6,x7,x8]
def LO (ν:Mu) (p m:D):Oc->Prop
 |.tell t=>∀x6 x7 x8,kC (lE cs bs h o ν p m x6 x7 x8) (lm ν ks ds)=.ok (.rt (.tup [.int t,m])) (lm ν ks ds)
 |.on h' o' ks' ds' z=>∀x6 x7 x8,∃y6 y7 y8,∃p':Nat,p=.int p'/\kC (lE cs bs h o ν p m x6 x7 x8) (lm ν ks ds)=.ok (.nx (lE cs bs h' o' ν (.int ((p'+1+z:Nat):Int)) m y6 y7 y8)) (lm ν ks' ds')
end
abbrev N8:bD:=(mIte (a9 (a6 bB (a6 gIdx (a4 1) (mC (.int 0))) (mC (.str bE))))
  (mSetA aq "told" (a4 0) (a6 gIdx (a4 1) (mC (.int 1))))
  (mIte (a9 (a6 bB (a6 gIdx (a4 1) (mC (.int 0))) (mC (.str be))))
  (mSetA aq "told" (a4 0) (mAttr aq "hand" (a4 0)))
  (mIte (a9 (a6 ek (a6 gIdx (a4 1) (mC (.int 0))) (mTup (a5 (mC (.str du)) (a5 (mC (.str fH)) (a5 (mC (.str ba)) mNil))))))
  (mDrop (mCall gk (a5 (a4 0) (a5 (a4 1) mNil))))
  (mIte (a9 (a6 fy (a6 gIdx (a4 1) (mC (.int 0))) (mTup (a5 (mC (.str bA)) (a5 (mC (.str fR)) (a5 (mC (.str dw)) mNil))))))
  (mDrop (mCall bG (a5 (a4 0) (a5 (mCall dJ (a5 (a4 0) (a5 (a4 1) (a5 (a4 2) mNil)))) mNil))))
  mSkip))))
theorem G4 (hv:mv ρ U=.ok v U) (ho:mo ρ U=.ok c U) (hi:mi ρ U=.ok i U):mPut mo mi mv ρ U=uT ρ c i v U:=by
 unfold mPut;rw[hv,ae,ho,ae,hi,ae]
section
variable {bs:ZC}{d:D}{h o h' o':Int}{ks ks':List DK}{ds ds':ZE}{U0:Mu}{n:Int}{t':D}
theorem jZ {p z:Nat}(hz:∀n,f9 [.ref U0.length,d] (cR U0 h' o' ks' ds' p n t')=.ok (.int z) (cR U0 h' o' ks' ds' p n t'))
  (e:N8 [some (.ref U0.length),some d,some (pk bs)] (cR U0 h o ks ds p n .non)=.ok (.nx [some (.ref U0.length),some d,some (pk bs)]) (cR U0 h' o' ks' ds' p n t')) :
  cE [.ref U0.length,d,pk bs] (cR U0 h o ks ds p n .non)=.ok .non (cR U0 h' o' ks' ds' ((p+1+z:Nat):Int) (n+1) t'):=by
 have:((p+1+z:Nat):Int)=p+(1+z):=by omega
 rw[this];exact kU 0 ((b8 e).trans ((b8 (NP 4 (bz 0 rfl) rfl rfl rfl)).trans (NP 3 (bz 0 rfl) rfl rfl (ac rfl (aj rfl (hz _)) rfl))))
theorem oC {v:Vw}(hs:Sh d v) (hv:∀z,v.goals z=[z+1]\/v.goals z=[]) {p t:D}{U:Mu}:f9 [.ref U0.length,d] U=.ok (.int ((0:Nat):Int)) U:=by
 cases hs with
 |jump _=>exact((hv 0).elim (fun z=>by simp[Vw.goals] at z;subst z;rfl) (fun z=>by simp[Vw.goals] at z))
 |if_ _ _ _ _=>exact((hv 0).elim (fun z=>by simp[Vw.goals] at z) (fun z=>by simp[Vw.goals] at z))
 |ifx _ _ _=>exact((hv 0).elim (fun z=>by simp[Vw.goals] at z) (fun z=>by simp[Vw.goals] at z))
 |_=>exact aP 0 ((a8 rfl).trans ((a8 rfl).trans ((a8 rfl).trans rfl)))
end
abbrev lR:bD:=(ag (mIte (a9 (a6 ek (a6 gIdx (a4 6) (mC (.int 0))) (mTup (a5 (mC (.str bE)) (a5 (mC (.str be)) mNil)))))
  (av (mTup (a5 (mIf (a9 (a6 bB (a6 gIdx (a4 6) (mC (.int 0))) (mC (.str bE)))) (a6 gIdx (a4 6) (mC (.int 1))) (a6 gIdx (a4 2) (mC (.int 0)))) (a5 (a4 5) mNil))))
  mSkip)
  (ag (mSet 7 (mCall dm (a5 (a4 6) (a5 (a4 4) mNil))))
  (ag (mIte (a9 (a6 ek (a6 gIdx (a4 6) (mC (.int 0))) (mTup (a5 (mC (.str fR)) (a5 (mC (.str dw)) mNil)))))
  (ag (mSet 8 (mCall mE (a5 (a6 gIdx (a4 6) (mC (.int 1))) (a5 (a6 gIdx (a4 2) (mC (.int 0))) (a5 (mIf (a9 (a6 bB (a6 gIdx (a4 6) (mC (.int 0))) (mC (.str fR)))) (a6 gIdx (a4 6) (mC (.int 2))) (a6 gIdx (a4 2) (mC (.int 1)))) mNil)))))
  (mSet 7 (mLst (a5 (a6 gIdx (a4 7) (mCallB kc (a5 (mNotV (a4 8)) mNil))) mNil))))
  mSkip)
  (ag (mIte (a9 (a6 bB (a6 gIdx (a4 6) (mC (.int 0))) (mC (.str ba))))
  (mPut (a4 3) (a6 gIdx (a4 6) (mC (.int 1))) (a6 gIdx (a4 2) (mC (.int 0))))
  mSkip)
  (ag (mSet 2 (mCall lB (a5 (a4 6) (a5 (a4 2) (a5 (a4 1) mNil)))))
  (ag (mIte (a9 (a6 bB (a6 gIdx (a4 6) (mC (.int 0))) (mC (.str bf))))
  (mSet 2 (mTup (a5 (a6 gDGet (a4 3) (a6 gIdx (a4 6) (mC (.int 1)))) (a5 (a6 gIdx (a4 2) (mC (.int 1))) mNil))))
  mSkip)
  (ag (mIte (a9 (mIsN (a6 gIdx (a4 2) (mC (.int 0)))))
  (av (mTup (a5 (mC (.int 0)) (a5 (a4 5) mNil))))
  mSkip)
  (mSet 4 (a6 gIdx (a4 7) (mC (.int 0)))))))))))
section
variable {bs:ZC}{d:D}{h o:Int}{ks:List DK}{ds:ZE}{ν:Mu}{cs:ZE}{p:Nat}{m:D}{x6 x7 x8:ZF}
theorem SC (k:Bool) (hk:decide ((cs.length:Int)<=p)=k):a9 (a6 t7 (a4 4) (mCallB bM (a5 (a4 0) mNil))) (lE cs bs h o ν (.int p) m x6 x7 x8) (lm ν ks ds)=.ok k (lm ν ks ds):=by
 refine aC (ac (x:=.int p) (y:=.int cs.length) rfl (bh (a7 rfl am) rfl) ?_);rw[aL,aL,vN,hk]
theorem vt (hp:cs[p]? =some d):a6 gIdx (a4 0) (a4 4) (lE cs bs h o ν (.int p) m x6 x7 x8) (lm ν ks ds)=.ok d (lm ν ks ds):=ac (x:=.lst cs) (y:=.int p) rfl rfl (gy hp)
theorem SD (hp:cs[p]? =some d)
  (hf:mAnd (a9 (a6 bB (a6 gIdx (a6 gIdx (a4 0) (a4 4)) (mC (.int 0))) (mC (.str bf)))) (a9 (a6 (gi true) (a6 gIdx (a6 gIdx (a4 0) (a4 4)) (mC (.int 1))) (a4 3))) (lE cs bs h o ν (.int p) m x6 x7 x8) (lm ν ks ds)=.ok false (lm ν ks ds)) :
  kC (lE cs bs h o ν (.int p) m x6 x7 x8) (lm ν ks ds)=lR (lE cs bs h o ν (.int p) m (some d) x7 x8) (lm ν ks ds):=by
 have hl:p<cs.length:=(List.getElem?_eq_some_iff.mp hp).1;exact(a8 ((tm (SC false (VY (by omega)))).trans hf)).trans (ar 6 (vt hp))
theorem j5 (y:D) (r:ZE):gIdx (.tup (y::r)) (.int 0)=some y:=by
 show atI (y::r) 0=_;rw[jb (by decide)];rfl
theorem yr (hp:cs[p]? =some (.tup (.str x::r))) (hx:bB (.str x) (.str bf)=some (.bl false)) :
  kC (lE cs bs h o ν (.int p) m x6 x7 x8) (lm ν ks ds)=lR (lE cs bs h o ν (.int p) m (some (.tup (.str x::r))) x7 x8) (lm ν ks ds) :=
 SD hp (dZ (aC (ac (x:=.str x) (ac (vt hp) rfl (j5 _ _)) rfl hx)))
theorem tX (hg:gs[0]? =some g) :
  (ag (mIte (a9 (mIsN (a6 gIdx (a4 2) (mC (.int 0)))))
  (av (mTup (a5 (mC (.int 0)) (a5 (a4 5) mNil))))
  mSkip)
  (mSet 4 (a6 gIdx (a4 7) (mC (.int 0))))) [some (.lst cs),some (pk bs),some (.tup [.int i,.int o']),some (.ref ν.length),some (.int p),some m,x6,some (.lst gs),x8] U=.ok (.nx [some (.lst cs),some (pk bs),some (.tup [.int i,.int o']),some (.ref ν.length),some g,some m,x6,some (.lst gs),x8]) U:=by
 refine(a8 (t:=a9 (mIsN (a6 gIdx (a4 2) (mC (.int 0))))) rfl).trans ?_;unfold mSet;rw[ac (x:=.lst gs) (y:=.int ((0:Nat):Int)) (z:=g) rfl rfl (gy hg)];rfl
end
section
variable {bs:ZC}{d:D}{v:Vw}{h o:Int}{ks:List DK}{ds:ZE}
def zE (v:Vw) (bs:ZC) (d:D) (h o:Int) (ks:List DK) (ds:ZE):Prop:=∃oc:Oc,oc.gv v ks ds/\PO bs d h o ks ds oc/\∀(ν:Mu) (cs:ZE) (p:Nat) (m:D),cs[p]? =some d->LO cs bs h o ks ds ν (.int p) m oc
theorem rE (hρ:ρ[0]? =some (some (.ref U0.length))):mAttr zF "hand" (a4 0) ρ (cR U0 h o ks ds p n t)=.ok (.int h) (cR U0 h o ks ds p n t):=mV 0 (bz 0 hρ) rfl rfl
theorem Nk (hρ:ρ[0]? =some (some (.ref U0.length))):mAttr zF "other" (a4 0) ρ (cR U0 h o ks ds p n t)=.ok (.int o) (cR U0 h o ks ds p n t):=mV 1 (bz 0 hρ) rfl rfl
theorem GF (hρ:ρ[0]? =some (some (.ref U0.length))):mAttr zF "slots" (a4 0) ρ (cR U0 h o ks ds p n t)=.ok (.ref (U0.length+1)) (cR U0 h o ks ds p n t):=mV 2 (bz 0 hρ) rfl rfl
theorem ym :ai (cR U0 h o ks ds p n t) (.ref (U0.length+1))=.dic ks ds:=by
 unfold ai;dsimp only;rw[Ck]
theorem Fp (i0:0<=i) (i1:i<4294967296):zE .tl bs (.tup [.str bE,.int i]) h o ks ds :=
 ⟨.tell i,trivial,fun U0 p n=>⟨h,o,ks,ds,_,jZ (z:=0) (fun _=>oC (.tell (fU i0 i1)) (fun _=>.inr rfl) (p:=.non) (t:=.non)) ((bw rfl).trans (uE 5 rfl (bz 0 rfl) rfl))⟩,
  fun ν cs p m hp x6 x7 x8=>(yr hp rfl).trans (aN rfl (cY (a7 ((iy rfl).trans rfl) (a7 rfl am))))⟩
theorem Bf:zE .tl bs (.tup [.str be]) h o ks ds :=
 ⟨.tell h,trivial,fun U0 p n=>⟨h,o,ks,ds,_,jZ (z:=0) (fun _=>oC .tella (fun _=>.inr rfl) (p:=.non) (t:=.non)) ((aT rfl).trans ((bw rfl).trans (uE 5 (rE rfl) (bz 0 rfl) rfl)))⟩,
  fun ν cs p m hp x6 x7 x8=>(yr hp rfl).trans (aN rfl (cY (a7 ((jh rfl).trans rfl) (a7 rfl am))))⟩
theorem vq (hs:Sh (.tup (.str x::r)) v) (hv:∀z,v.goals z=[z+1]) (hx:bB (.str x) (.str bf)=some (.bl false))
  (h1:ek (.str x) (.tup [.str bE,.str be])=some (.bl false)) (h2:ek (.str x) (.tup [.str fR,.str dw])=some (.bl false)) (h3:bB (.str x) (.str ba)=some (.bl false))
  (hd:∀U,lB [.tup (.str x::r),.tup [.int h,.int o],pk bs] U=.ok (.tup [.int i,.int o']) U) {cs:ZE}{p:Nat}{m:D}(hp:cs[p]? =some (.tup (.str x::r))):LO cs bs h o ks ds ν (.int p) m (.on i o' ks ds 0):=by
 intro x6 x7 x8;have hg:dm [.tup (.str x::r),.int p] (lm ν ks ds)=.ok (.lst [.int ((p+1:Nat):Int)]) (lm ν ks ds):=by
  rw[kX hs,hv];rfl
 refine⟨_,_,_,p,rfl,(yr hp hx).trans ((a8 (aC (ac (x:=.str x) (ac rfl rfl (j5 _ _)) rfl h1))).trans ((ar 7 (aj rfl hg)).trans ((a8 (aC (ac (x:=.str x) (ac rfl rfl (j5 _ _)) rfl h2))).trans ((a8 (aC (ac (x:=.str x) (ac rfl rfl (j5 _ _)) rfl h3))).trans ((ar 2 (aj rfl (hd _))).trans ((a8 (aC (ac (x:=.str x) (ac rfl rfl (j5 _ _)) rfl hx))).trans (tX rfl)))))))⟩
theorem Fs (I:Im h o ks ds) (i0:0<=i) (i1:i<4294967296):zE .ot bs (.tup [.str du,.int i]) h o ks ds :=
 ⟨.on h i ks ds 0,pw ⟨I.h0,I.h1,i0,i1,I.sl⟩ rfl fun _=>rfl,fun U0 p n=>jZ (fun _=>oC (.setx (fU i0 i1)) (fun _=>.inl rfl) (p:=.non) (t:=.non)) ((aT rfl).trans ((aT rfl).trans ((bw rfl).trans (fj (aj rfl (kU 0 ((bw rfl).trans (uE 1 rfl (bz 0 rfl) rfl)))))))),
  fun ν cs p m hp=>vq (.setx (fU i0 i1)) (fun _=>rfl) rfl rfl rfl rfl (fun U=>aP 2 ((ar 3 (d:=.int h) rfl).trans ((ar 4 (d:=.int o) rfl).trans ((a8 rfl).trans ((a8 rfl).trans ((a8 rfl).trans (aN rfl (cY (a7 rfl (a7 ((iy rfl).trans rfl) am)))))))))) hp⟩
theorem JA (I:Im h o ks ds):zE .ot bs (.tup [.str fH]) h o ks ds :=
 ⟨.on h h ks ds 0,pw ⟨I.h0,I.h1,I.h0,I.h1,I.sl⟩ rfl fun _=>rfl,fun U0 p n=>jZ (fun _=>oC .tax (fun _=>.inl rfl) (p:=.non) (t:=.non)) ((aT rfl).trans ((aT rfl).trans ((bw rfl).trans (fj (aj rfl (kU 0 ((aT rfl).trans ((bw rfl).trans (uE 1 (rE rfl) (bz 0 rfl) rfl))))))))),
  fun ν cs p m hp=>vq .tax (fun _=>rfl) rfl rfl rfl rfl (fun U=>aP 2 ((ar 3 (d:=.int h) rfl).trans ((ar 4 (d:=.int o) rfl).trans ((a8 rfl).trans ((a8 rfl).trans ((a8 rfl).trans (aN rfl (cY (a7 rfl (a7 ((jh rfl).trans rfl) am)))))))))) hp⟩
theorem iO (h1:bB (.str x) (.str eP)=some (.bl false)) (h2:ek (.str x) (.tup [.str lL,.str jg])=some (.bl false)) (h3:ek (.str x) (.tup [.str dX,.str eI,.str dW])=some (.bl false)) (h4:ek (.str x) (.tup [.str du,.str fH])=some (.bl false)) (U:Mu) :
  lB [.tup (.str x::r),.tup [.int h,.int o],pk bs] U=.ok (.tup [.int h,.int o]) U :=
 aP 2 ((ar 3 (d:=.int h) rfl).trans ((ar 4 (d:=.int o) rfl).trans ((a8 (aC (ac (x:=.str x) (ac rfl rfl (j5 _ _)) rfl h1))).trans ((a8 (aC (ac (x:=.str x) (ac rfl rfl (j5 _ _)) rfl h2))).trans ((a8 (aC (ac (x:=.str x) (ac rfl rfl (j5 _ _)) rfl h3))).trans ((a8 (aC (ac (x:=.str x) (ac rfl rfl (j5 _ _)) rfl h4))).trans rfl))))))
theorem Iz (hl:ks.length=ds.length) (q r:DK) (v:D):aF (sK ks q) (sD ks ds q v) r=if r=q then some v else aF ks ds r:=by
 unfold sK sD;by_cases z:(ks.any fun k=>decide (k=q))=true
 ·rw[VJ z,VJ z,qV];split
  ·have hs:∃y,aF ks ds q=some y:=Option.isSome_iff_exists.mp ((qW hl).trans z);obtain⟨y,e⟩:=hs;rw[e];rfl
  ·rfl
 ·rw[VN z,VN z,nC hl];have hs:aF ks ds q=none:=by
   have:=qW (q:=q) hl;rw[Bool.not_eq_true] at z;rw[z] at this;simpa using this
  by_cases e:r=q
  ·subst e;rw[hs,VJ rfl];rfl
  ·rw[VN e,VN (Wr e)];cases aF ks ds r<;>rfl
theorem EG {s s':Nat}{x:D}(hl:ks.length=ds.length) (e:aF (sK ks (.inl (s:Int))) (sD ks ds (.inl (s:Int)) x) (.inl (s':Int))=none):aF ks ds (.inl (s':Int))=none/\(Vw.kp s).isK s'=false:=by
 rw[Iz hl] at e;by_cases z:s'=s
 ·subst z;rw[VJ rfl] at e;cases e
 ·rw[VN (fun q=>z (by have:=Sum.inl.inj q;omega))] at e;exact⟨e,by show(s==s')=false;simp;omega⟩
theorem Ft (I:Im h o ks ds) (hk:ks.length<1000) (hs:s<8):zE (.kp s) bs (.tup [.str ba,.int s]) h o ks ds :=
 ⟨.on h o (sK ks (.inl s)) (sD ks ds (.inl s) (.int h)) 0,⟨⟨I.h0,I.h1,I.o0,I.o1,I.sl.put _ ⟨h,rfl,I.h0,I.h1⟩⟩,OM _ _,rfl,rfl,fun s' e=>EG I.sl.len e⟩,
  fun U0 p n=>jZ (fun _=>oC (.keep hs) (fun _=>.inl rfl) (p:=.non) (t:=.non)) ((aT rfl).trans ((aT rfl).trans ((bw rfl).trans (fj (aj rfl (kU 0 ((aT rfl).trans ((aT rfl).trans ((G4 (rE rfl) (GF rfl) rfl).trans (S3 (by omega))))))))))),
  fun ν cs p m hp x6 x7 x8=>⟨_,_,_,p,rfl,(yr hp rfl).trans ((a8 rfl).trans ((ar 7 (d:=.lst [.int ((p+1:Nat):Int)]) (aj rfl (kX (.keep hs) p _))).trans ((a8 rfl).trans ((b8 ((bw rfl).trans ((G4 rfl rfl rfl).trans (S4 (by omega))))).trans ((ar 2 (aj rfl (iO rfl rfl rfl rfl _))).trans ((a8 rfl).trans (tX rfl)))))))⟩⟩
theorem L7 {k:Nat}:PO bs (.tup [.str bA,.int k]) h o ks ds (.on h o ks ds k):=fun U0 p n=>jZ (fun _=>aP 0 (aN rfl rfl)) ((aT rfl).trans ((aT rfl).trans ((aT rfl).trans ((aT rfl).trans rfl))))
theorem LV (hk:k<=2000) {p:Nat}{m:D}(hp:cs[p]? =some (.tup [.str bA,.int k])):LO cs bs h o ks ds ν (.int p) m (.on h o ks ds k):=fun x6 x7 x8=>⟨_,_,_,p,rfl,(yr hp rfl).trans ((a8 rfl).trans ((ar 7 (d:=.lst [.int ((p+1+k:Nat):Int)]) (aj rfl (kX (.jump hk) p _))).trans ((a8 rfl).trans ((a8 rfl).trans ((ar 2 (aj rfl (iO rfl rfl rfl rfl _))).trans ((a8 rfl).trans (tX rfl)))))))⟩
end
section
variable {bs:ZC}{d:D}{v:Vw}{h o:Int}{ks:List DK}{ds:ZE}
theorem tH (k:Bool) (h7:ρ[7]? =some (some (.lst [a,b]))) (h8:ρ[8]? =some (some (.bl k))):mSet 7 (mLst (a5 (a6 gIdx (a4 7) (mCallB kc (a5 (mNotV (a4 8)) mNil))) mNil)) ρ U=.ok (.nx (ρ.set 7 (some (.lst [if k then a else b])))) U:=by
 have e:a6 gIdx (a4 7) (mCallB kc (a5 (mNotV (a4 8)) mNil)) ρ U=.ok (if k then a else b) U:=by
  cases k
  ·exact ac (bz 7 h7) (bh (d:=.int 1) (a7 (zR (bz 8 h8)) am) rfl) rfl
  ·exact ac (bz 7 h7) (bh (d:=.int 0) (a7 (zR (bz 8 h8)) am) rfl) rfl
 unfold mSet;rw[tq (a7 e am)];rfl
def JT (bs:ZC) (d:D) (k m:Nat) (h o:Int) (ks:List DK) (ds:ZE):Prop:=∃c:Bool,(∀a b:Nat,PO bs (setBr d a b) h o ks ds (.on h o ks ds (if c then a else b)))/\∀(ν:Mu) (cs:ZE) (p:Nat) (mm:D),cs[p]? =some d->LO cs bs h o ks ds ν (.int p) mm (.on h o ks ds (if c then k else m))
theorem Kh (I:Im h o ks ds) {k m:Nat}(hx:x∈Om) (i0:0<=i) (i1:i<4294967296) (hk:k<=2000) (hm:m<=2000):JT bs (.tup [.str fR,.str x,.int i,.int k,.int m]) k m h o ks ds:=by
 obtain⟨c,e1,e2⟩:=IZ hx I.h0 I.h1 i0 i1;refine⟨c,fun a b U0 p n=>?_,fun ν cs p mm hp x6 x7 x8=>⟨_,_,_,p,rfl,(yr hp rfl).trans ((a8 rfl).trans ((ar 7 (d:=.lst [.int ((p+1+k:Nat):Int),.int ((p+1+m:Nat):Int)]) (aj rfl (kX (.if_ (.test hx) (fU i0 i1) hk hm) p _))).trans ((b8 ((bw rfl).trans ((ar 8 (aj (a7 rfl (a7 rfl (a7 ((iy rfl).trans rfl) am))) (e2 _))).trans (tH c rfl rfl)))).trans ((a8 rfl).trans ((ar 2 (aj rfl (iO rfl rfl rfl rfl _))).trans ((a8 rfl).trans (tX ?_)))))))⟩⟩
 ·show cE [.ref U0.length,.tup [.str fR,.str x,.int i,.int a,.int b],pk bs] _=_;refine jZ (fun n'=>?_) ((aT rfl).trans ((aT rfl).trans ((aT rfl).trans ((aT rfl).trans rfl))));cases c
  ·exact aP 0 ((a8 rfl).trans (aN rfl ((jh (gX (aj (a7 rfl (a7 (rE rfl) (a7 rfl am))) (e1 _)) rfl)).trans rfl)))
  ·exact aP 0 ((a8 rfl).trans (aN rfl ((iy (gX (aj (a7 rfl (a7 (rE rfl) (a7 rfl am))) (e1 _)) rfl)).trans rfl)))
 ·cases c<;>rfl
theorem Gh (I:Im h o ks ds) {k m:Nat}(hx:x∈Om) (hk:k<=2000) (hm:m<=2000):JT bs (.tup [.str dw,.str x,.int k,.int m]) k m h o ks ds:=by
 obtain⟨c,e1,e2⟩:=IZ hx I.h0 I.h1 I.o0 I.o1;refine⟨c,fun a b U0 p n=>?_,fun ν cs p mm hp x6 x7 x8=>⟨_,_,_,p,rfl,(yr hp rfl).trans ((a8 rfl).trans ((ar 7 (d:=.lst [.int ((p+1+k:Nat):Int),.int ((p+1+m:Nat):Int)]) (aj rfl (kX (.ifx (.test hx) hk hm) p _))).trans ((b8 ((bw rfl).trans ((ar 8 (aj (a7 rfl (a7 rfl (a7 ((jh rfl).trans rfl) am))) (e2 _))).trans (tH c rfl rfl)))).trans ((a8 rfl).trans ((ar 2 (aj rfl (iO rfl rfl rfl rfl _))).trans ((a8 rfl).trans (tX ?_)))))))⟩⟩
 ·show cE [.ref U0.length,.tup [.str dw,.str x,.int a,.int b],pk bs] _=_;refine jZ (fun n'=>?_) ((aT rfl).trans ((aT rfl).trans ((aT rfl).trans ((aT rfl).trans rfl))));cases c
  ·exact aP 0 ((a8 rfl).trans ((a8 rfl).trans (aN rfl ((jh (gX (aj (a7 rfl (a7 (rE rfl) (a7 (Nk rfl) am))) (e1 _)) rfl)).trans rfl))))
  ·exact aP 0 ((a8 rfl).trans ((a8 rfl).trans (aN rfl ((iy (gX (aj (a7 rfl (a7 (rE rfl) (a7 (Nk rfl) am))) (e1 _)) rfl)).trans rfl))))
 ·cases c<;>rfl
theorem Di {k m:Nat}(hs:Sh d (.br k m)) (I:Im h o ks ds):JT bs d k m h o ks ds:=by
 cases hs with
 |if_ ha hb h1 h2=>cases ha with
  |test hx=>cases hb with
   |num i0 i1=>exact Kh I hx i0 i1 h1 h2
 |ifx ha h1 h2=>cases ha with
  |test hx=>exact Gh I hx h1 h2
theorem Gi :bG [.ref U0.length,.non] (cR U0 h o ks ds p n .non)=.ok .non (cR U0 h o ks ds p n (.int 0)):=kU 0 ((bw rfl).trans (uE 5 rfl (bz 0 rfl) rfl))
theorem xl :bG [.ref U0.length,.int i] (cR U0 h o ks ds p n .non)=.ok .non (cR U0 i o ks ds p n .non):=kU 0 ((aT rfl).trans (uE 0 rfl (bz 0 rfl) rfl))
theorem Fq (I:Im h o ks ds) (hs:Sh (.tup (.str x::r)) .ot) (hB:sN bs) (hT:MV (.tup (.str x::r))=true) (hx:bB (.str x) (.str bf)=some (.bl false))
  (h1:ek (.str x) (.tup [.str bE,.str be])=some (.bl false)) (h2:ek (.str x) (.tup [.str fR,.str dw])=some (.bl false)) (h3:bB (.str x) (.str ba)=some (.bl false))
  (g1:bB (.str x) (.str bE)=some (.bl false)) (g2:bB (.str x) (.str be)=some (.bl false)) (g3:ek (.str x) (.tup [.str du,.str fH,.str ba])=some (.bl false)) (g4:fy (.str x) (.tup [.str bA,.str fR,.str dw])=some (.bl true)):zE .ot bs (.tup (.str x::r)) h o ks ds:=by
 obtain⟨d',hd',e1,e2⟩:=Ud hs hT I.h0 I.h1 I.o0 I.o1 hB;have hd:∀{U0:Mu}{p:Nat}{n h':Int}{t':D},bG [.ref U0.length,d'] (cR U0 h o ks ds p n .non)=.ok .non (cR U0 h' o ks ds p n t')->N8 [some (.ref U0.length),some (.tup (.str x::r)),some (pk bs)] (cR U0 h o ks ds p n .non)=.ok (.nx [some (.ref U0.length),some (.tup (.str x::r)),some (pk bs)]) (cR U0 h' o ks ds p n t'):=fun et =>
  (aT (aC (ac (x:=.str x) (ac rfl rfl (j5 _ _)) rfl g1))).trans ((aT (aC (ac (x:=.str x) (ac rfl rfl (j5 _ _)) rfl g2))).trans ((aT (aC (ac (x:=.str x) (ac rfl rfl (j5 _ _)) rfl g3))).trans ((bw (aC (ac (x:=.str x) (ac rfl rfl (j5 _ _)) rfl g4))).trans (fj (aj (a7 rfl (a7 (aj rfl (e1 _ _ _ _ _ _)) am)) et)))))
 rcases hd' with rfl|⟨i,rfl,i0,i1⟩
 ·refine⟨.tell 0,trivial,fun U0 p n=>⟨h,o,ks,ds,_,jZ (z:=0) (fun _=>oC hs (fun _=>.inl rfl) (p:=.non) (t:=.non)) (hd Gi)⟩,fun ν cs p m hp x6 x7 x8=>?_⟩;have hg:dm [.tup (.str x::r),.int p] (lm ν ks ds)=.ok (.lst [.int ((p+1:Nat):Int)]) (lm ν ks ds):=kX hs p _;exact(yr hp hx).trans ((a8 (aC (ac (x:=.str x) (ac rfl rfl (j5 _ _)) rfl h1))).trans ((ar 7 (aj rfl hg)).trans ((a8 (aC (ac (x:=.str x) (ac rfl rfl (j5 _ _)) rfl h2))).trans ((a8 (aC (ac (x:=.str x) (ac rfl rfl (j5 _ _)) rfl h3))).trans ((ar 2 (aj rfl (e2 _))).trans ((a8 (aC (ac (x:=.str x) (ac rfl rfl (j5 _ _)) rfl hx))).trans (aN rfl rfl)))))))
 ·exact⟨.on i o ks ds 0,pw ⟨i0,i1,I.o0,I.o1,I.sl⟩ rfl fun _=>rfl,fun U0 p n=>jZ (fun _=>oC hs (fun _=>.inl rfl) (p:=.non) (t:=.non)) (hd xl),fun ν cs p m hp=>vq hs (fun _=>rfl) hx h1 h2 h3 e2 hp⟩
theorem Bg (I:Im h o ks ds) {s:Nat}(hs:s<8) (hl:aF ks ds (.inl (s:Int))=some d'):zE (.ft s) bs (.tup [.str bf,.int s]) h o ks ds:=by
 have l1:∀{ν:Mu}{cs:ZE}{p:Nat}{m:D}{x6 x7 x8:ZF}(hp:cs[p]? =some (.tup [.str bf,.int s])),mAnd (a9 (a6 bB (a6 gIdx (a6 gIdx (a4 0) (a4 4)) (mC (.int 0))) (mC (.str bf)))) (a9 (a6 (gi true) (a6 gIdx (a6 gIdx (a4 0) (a4 4)) (mC (.int 1))) (a4 3))) (lE cs bs h o ν (.int p) m x6 x7 x8) (lm ν ks ds)=.ok (!(aF ks ds (.inl (s:Int))).isSome) (lm ν ks ds):=fun{ν cs p m x6 x7 x8} hp=>by
  refine(dy (aC (ac (x:=.str bf) (ac (vt hp) rfl (j5 _ _)) rfl rfl))).trans (aC (ac (x:=.int s) (y:=.ref ν.length) (ac (vt hp) rfl rfl) rfl ?_));rw[IC];rfl
 obtain⟨i,rfl,i0,i1⟩:=I.sl.num _ _ hl;refine⟨.on i o ks ds 0,pw ⟨i0,i1,I.o0,I.o1,I.sl⟩ rfl fun _=>rfl,fun U0 p n=>jZ (fun _=>oC (.fetch hs) (fun _=>.inl rfl) (p:=.non) (t:=.non)) ?_,fun ν cs p m hp x6 x7 x8=>?_⟩
 ·have ef:hV [.ref U0.length,.int s] (cR U0 h o ks ds p n .non)=.ok (.int i) (cR U0 h o ks ds p n .non):=by
   refine aP 0 ((a8 (aC (ac rfl (GF rfl) ?_))).trans (bv (ac (GF rfl) rfl ?_)))
   ·rw[ym];show some (D.bl (!(aF ks ds (.inl (s:Int))).isSome))=_;rw[hl];rfl
   ·rw[ym];exact hl
  have ev:dJ [.ref U0.length,.tup [.str bf,.int s],pk bs] (cR U0 h o ks ds p n .non)=.ok (.int i) (cR U0 h o ks ds p n .non) :=
   aP 1 ((a8 rfl).trans ((a8 rfl).trans ((a8 rfl).trans ((a8 rfl).trans ((a8 rfl).trans ((a8 rfl).trans (bv (aj (ds:=[.ref U0.length,.int s]) rfl ef))))))))
  exact(aT rfl).trans ((aT rfl).trans ((aT rfl).trans ((bw rfl).trans (fj (aj (a7 rfl (a7 (aj rfl ev) am)) xl)))))
 ·have l2:=l1 (ν:=ν) (m:=m) (x6:=x6) (x7:=x7) (x8:=x8) hp;rw[hl] at l2;refine⟨_,_,_,p,rfl,(SD hp l2).trans ((a8 rfl).trans ((ar 7 (d:=.lst [.int ((p+1:Nat):Int)]) (aj rfl (kX (.fetch hs) p _))).trans ((a8 rfl).trans ((a8 rfl).trans ((ar 2 (aj rfl (iO rfl rfl rfl rfl _))).trans ((b8 (ρ1:=lE cs bs i o ν (.int p) m (some (.tup [.str bf,.int s])) (some (.lst [.int ((p+1:Nat):Int)])) x8) (U1:=lm ν ks ds) ((bw rfl).trans ?_)).trans (tX rfl)))))))⟩;unfold mSet;rw[cY (a7 (d:=.int i) (ac (x:=.ref ν.length) (y:=.int s) rfl rfl (by rw[IC];exact hl)) (a7 (d:=.int o) rfl am))];rfl
theorem DL (hs:Sh d v) (hv:v.lead=false) (I:Im h o ks ds) (hB:sN bs) (hk:ks.length<1000) (hf:∀s,v=.ft s->∃d',aF ks ds (.inl (s:Int))=some d'):zE v bs d h o ks ds:=by
 have hs':=hs;cases hs with
 |tell ha=>cases ha with
  |num i0 i1=>exact Fp i0 i1
 |tella=>exact Bf
 |setx ha=>cases ha with
  |num i0 i1=>exact Fs I i0 i1
 |tax=>exact JA I
 |keep h8=>exact Ft I hk h8
 |fetch h8 =>
  obtain⟨d',hl⟩:=hf _ rfl;exact Bg I h8 hl
 |jump h2=>cases hv
 |if_ _ _ _ _=>cases hv
 |ifx _ _ _=>cases hv
 |_=>exact Fq I hs' hB rfl rfl rfl rfl rfl rfl rfl rfl rfl
end
abbrev tT:MB:=a9 (mIsN (mAttr aq "told" (a4 2)))
abbrev pE (cs:ZE) (bs:ZC) (U0:Mu):En:=[some (.lst cs),some (pk bs),some (.ref U0.length)]
def LT (cs:ZE) (bs:ZC) (p:Nat) (h o:Int) (ks:List DK) (ds:ZE) (t:Int):Prop:=∀(m c:Nat) (ν:Mu) (x5 x6 x7 x8:ZF),cs.length<p+c->∃U' m',forGo (gN 5) kC (iL (List.range' m c)) [some (.lst cs),some (pk bs),some (.tup [.int h,.int o]),some (.ref ν.length),some (.int p),x5,x6,x7,x8] (lm ν ks ds)=.ok (.rt (.tup [.int t,m'])) U'
def PT (es:ZE) (bs:ZC) (i:Nat) (h o:Int) (ks:List DK) (ds:ZE) (t:Int):Prop:=∀(k:Nat) (n:Int) (U0:Mu),es.length<i+k->∃h' o' ks' ds' g n',whGo tT jV (k+1) (pE es bs U0) (cR U0 h o ks ds i n .non)=.ok (.nx (pE es bs U0)) (cR U0 h' o' ks' ds' g n' (.int t))
section
variable {cs es:ZE}{bs:ZC}{p i z:Nat}{h o h' o':Int}{ks ks':List DK}{ds ds':ZE}{t:Int}{d:D}
theorem LT.on (hp:p<cs.length) (ho:∀ν m,LO cs bs h o ks ds ν (.int p) m (.on h' o' ks' ds' z)) (ht:LT cs bs (p+1+z) h' o' ks' ds' t):LT cs bs p h o ks ds t:=fun m c ν x5 x6 x7 x8 hc=>by
 cases c with
 |zero=>omega
 |succ c =>
  obtain⟨y6,y7,y8,p',hp',e⟩:=ho ν (.int m) x6 x7 x8;have hp':(p:Int)=p':=D.int.inj hp';have hp':p=p':=by omega
  subst hp';obtain⟨U',m',e2⟩:=ht (m+1) c ν (some (.int m)) y6 y7 y8 (by omega);refine⟨U',m',?_⟩;rw[gh];exact(la e).trans e2
theorem LT.tell (hp:p<cs.length) (ho:∀ν m,LO cs bs h o ks ds ν (.int p) m (.tell t)):LT cs bs p h o ks ds t:=fun m c ν x5 x6 x7 x8 hc=>by
 cases c with
 |zero=>omega
 |succ c =>
  refine⟨lm ν ks ds,.int m,?_⟩;rw[gh];exact G8 5 (ho ν (.int m) x6 x7 x8)
theorem Rp :tT (pE es bs U0) (cR U0 h o ks ds q n .non)=.ok true (cR U0 h o ks ds q n .non):=by
 show a9 (mIsN (mAttr aq "told" (a4 2))) _ _=_;unfold a9 mIsN;rw[mV 5 (bz 2 rfl) rfl rfl];rfl
theorem Rq :tT (pE es bs U0) (cR U0 h o ks ds q n (.int t))=.ok false (cR U0 h o ks ds q n (.int t)):=by
 show a9 (mIsN (mAttr aq "told" (a4 2))) _ _=_;unfold a9 mIsN;rw[mV 5 (bz 2 rfl) rfl rfl];rfl
theorem Hq (hp:es[i]? =some d):jV (pE es bs U0) (cR U0 h o ks ds i q .non)=(mDrop (mCall cE (a5 (a4 2) (a5 (a6 gIdx (a4 0) (mAttr aq "place" (a4 2))) (a5 (a4 1) mNil))))) (pE es bs U0) (cR U0 h o ks ds i q .non) /\
  a5 (a4 2) (a5 (a6 gIdx (a4 0) (mAttr aq "place" (a4 2))) (a5 (a4 1) mNil)) (pE es bs U0) (cR U0 h o ks ds i q .non)=.ok [.ref U0.length,d,pk bs] (cR U0 h o ks ds i q .non):=by
 have hl:i<es.length:=(List.getElem?_eq_some_iff.mp hp).1;refine⟨a8 (aC (ac (x:=.int i) (y:=.int es.length) (mV 3 (bz 2 rfl) rfl rfl) (bh (a7 rfl am) rfl) ?_)),a7 rfl (a7 (ac (x:=.lst es) (y:=.int i) rfl (mV 3 (bz 2 rfl) rfl rfl) (gy hp)) (a7 rfl am))⟩;rw[aL,aL,vN,VY (by omega)]
theorem PT.on (hp:es[i]? =some d) (hpo:PO bs d h o ks ds (.on h' o' ks' ds' z)) (ht:PT es bs (i+1+z) h' o' ks' ds' t):PT es bs i h o ks ds t:=fun k n U0 hk=>by
 have hl:i<es.length:=(List.getElem?_eq_some_iff.mp hp).1;cases k with
 |zero=>omega
 |succ k =>
  obtain⟨t2,t3⟩:=Hq (bs:=bs) (U0:=U0) (h:=h) (o:=o) (ks:=ks) (ds:=ds) (q:=n) hp;obtain⟨h1,o1,ks1,ds1,g,n',e⟩:=ht k (n+1) U0 (by omega);refine⟨h1,o1,ks1,ds1,g,n',?_⟩;rw[whGo,Rp,ae,VJ rfl,t2,fj (aj t3 (hpo U0 i n)),ae];exact e
theorem PT.tell (hp:es[i]? =some d) (hpo:PO bs d h o ks ds (.tell t)):PT es bs i h o ks ds t:=fun k n U0 hk=>by
 have hl:i<es.length:=(List.getElem?_eq_some_iff.mp hp).1;cases k with
 |zero=>omega
 |succ k =>
  obtain⟨t2,t3⟩:=Hq (bs:=bs) (U0:=U0) (h:=h) (o:=o) (ks:=ks) (ds:=ds) (q:=n) hp;obtain⟨h1,o1,ks1,ds1,g,e⟩:=hpo U0 i n;refine⟨h1,o1,ks1,ds1,g,n+1,?_⟩;rw[whGo,Rp,ae,VJ rfl,t2,fj (aj t3 e),ae];dsimp only;rw[whGo,Rq,ae];rfl
end
theorem NT (h:q∈Tl f p):∀m,q∈Tl f (p+m)
 |0=>h
 |m+1=>nB.mpr (.inl (NT h m))
theorem NQ (h:q∈Ul f k p):∀m,q∈Ul f k (p+m)
 |0=>h
 |m+1=>j1.mpr (.inl (NQ h m))
structure Re (f:Nat->Vw) (p:Nat) (ks:List DK) (ds:ZE):Prop where
 tl:p∈Tl f p
 ul:∀s:Nat,aF ks ds (.inl (s:Int))=none->p∈Ul f s p
section
variable {f:Nat->Vw}{p g:Nat}{ks ks':List DK}{ds ds':ZE}
theorem Re.go (h:Re f p ks ds) (hg:g∈(f p).goals p) (hk:∀s:Nat,aF ks' ds' (.inl (s:Int))=none->aF ks ds (.inl (s:Int))=none/\(f p).isK s=false):Re f g ks' ds':=by
 have hgt:=iJ hg;obtain⟨m,rfl⟩:∃m,g=p+1+m:=⟨g-(p+1),by omega⟩
 refine⟨NT (nB.mpr (.inr ⟨h.tl,hg⟩)) m,fun s hs=>?_⟩;obtain⟨a,b⟩:=hk s hs;exact NQ (j1.mpr (.inr ⟨⟨h.ul s a,b⟩,hg⟩)) m
theorem Re.slot (h:Re f p ks ds) (hf:fl f n p=false) (hv:f p=.ft s):∃d',aF ks ds (.inl (s:Int))=some d':=by
 cases e:aF ks ds (.inl (s:Int)) with
 |some d'=>exact⟨d',rfl⟩
 |none =>
  unfold fl at hf;rw[Yq,hv] at hf;have this:(decide (p∈Tl f p)&&decide (p∈Ul f s p))=false:=hf.1;rw[VX h.tl,VX (h.ul s e)] at this;cases this
end
abbrev nw (cs:ZE) (f:Nat->Vw):ZE:=(Lf f cs.length).map (nd cs f cs.length (Lf f cs.length))
def U8 (cs:ZE) (f:Nat->Vw) (p i:Nat):Prop:=(∃y∈Lf f cs.length,i=(Lf f cs.length).idxOf y/\(y=p\/y=Ed f cs.length p))\/((nw cs f)[i]? =some (cs.getD (Ed f cs.length p) .non)/\(f (Ed f cs.length p)).tel=true)
section
variable {cs:ZE}{bs:ZC}{f:Nat->Vw}
theorem NL (hy:y∈Lf f cs.length):(nw cs f)[(Lf f cs.length).idxOf y]? =some (nd cs f cs.length (Lf f cs.length) y):=by
 rw[Wk,VI (Wo hy),XZ];rfl
theorem HS (ho:Ed f cs.length y=y) (hv:(f y).lead=false):nd cs f cs.length L y=cs.getD y .non:=by
 unfold nd;rw[VJ ho];cases q:f y with
 |br k m=>rw[q] at hv;cases hv
 |_=>rfl
theorem RJ (hc:Code cs f) (hg:eu f cs.length) (hB:sN bs) (hn:cs.length<100):∀(r p i:Nat) (h o:Int) (ks:List DK) (ds:ZE),cs.length-p<=r->p<cs.length->U8 cs f p i->Im h o ks ds->ks.length<=p->Re f p ks ds->∃t,LT cs bs p h o ks ds t/\PT (nw cs f) bs i h o ks ds t
 |0,p,i,h,o,ks,ds,hr,hp,C,I,hk,S=>by omega
 |r+1,p,i,h,o,ks,ds,hr,hp,C,I,hk,S=>by
  have G:=hg.io;have V:=Iv.stg G (by omega) cs.length (VL _);have hd:=yM hp;have hs:=hc _ _ hd;have keep0:∀v:Vw,v.lead=true->∀s:Nat,aF ks ds (.inl (s:Int))=none->aF ks ds (.inl (s:Int))=none/\v.isK s=false:=fun v hv s e=>⟨e,by cases v<;>first|rfl|cases hv⟩
  by_cases ho:Ed f cs.length p=p
  ·have same:(nw cs f)[i]? =some (cs.getD p .non)->(f p).lead=false->(∀h' o' ks' ds',(Oc.on h' o' ks' ds' 0).gv (f p) ks ds->∃t,LT cs bs (p+1) h' o' ks' ds' t/\PT (nw cs f) bs (i+1) h' o' ks' ds' t)->∃t,LT cs bs p h o ks ds t/\PT (nw cs f) bs i h o ks ds t:=fun he hl nx=>by
    obtain⟨oc,g,po,lo⟩:=DL hs hl I hB (by omega) fun s e=>S.slot (hg p hp) e
    cases oc with
    |tell t=>exact⟨t,.tell hp fun ν m=>lo ν cs p m hd,.tell he po⟩
    |on h' o' ks' ds' z =>
     have hz:z=0:=g.2.2.1;subst hz;obtain⟨t,l,q⟩:=nx h' o' ks' ds' g;exact⟨t,.on hp (fun ν m=>lo ν cs p m hd) l,.on he po q⟩
   have tells:(nw cs f)[i]? =some (cs.getD p .non)->(f p).tel=true->∃t,LT cs bs p h o ks ds t/\PT (nw cs f) bs i h o ks ds t:=fun he ht=>same he (by rw[By ht];rfl) fun h' o' ks' ds' g=>by
    have:=g.2.2.2.1;rw[ht] at this;cases this
   rcases C with⟨y,hy,hi,hyp⟩|⟨he,ht⟩
   ·have hyp:y=p:=by rcases hyp with e|e<;>omega
    subst hyp;have he:=NL (cs:=cs) hy;rw[←hi] at he;have N:Nw f cs.length (Lf f cs.length) y:=V.nw G hy;cases N with
    |pl y' _ b c d e g =>
     have hl:(f y).lead=false:=by cases q:(f y).lead with
      |false=>rfl
      |true=>unfold Vw.plain at b;rw[q] at b;cases b
     rw[HS ho hl] at he;refine same he hl fun h' o' ks' ds' gv=>?_
     have hgo:y+1∈(f y).goals y:=by
      cases q:f y with
      |tl=>rw[q] at b;cases b
      |jp k=>rw[q] at b;cases b
      |br k m=>rw[q] at b;cases b
      |_=>exact List.mem_singleton.mpr rfl
     exact RJ hc hg hB hn r (y+1) (i+1) h' o' ks' ds' (by omega) (G y hp _ hgo) (.inl ⟨y',d,by rw[hi,e],g.symm⟩) gv.1 (by have:=gv.2.1;omega) (S.go hgo gv.2.2.2.2)
    |tl _ b c =>
     rw[HS ho (by rw[By b];rfl)] at he;exact tells he b
    |br k m _ b c d e l1 l2 nv' =>
     rw[b] at hs;obtain⟨cc,po,lo⟩:=Di (bs:=bs) hs I;have hnd:nd cs f cs.length (Lf f cs.length) y=setBr (cs.getD y .non) ((Lf f cs.length).idxOf (Ed f cs.length (y+1+k))-((Lf f cs.length).idxOf y+1)) ((Lf f cs.length).idxOf (Ed f cs.length (y+1+m))-((Lf f cs.length).idxOf y+1)):=by
      unfold nd;rw[VJ ho,b]
     rw[hnd] at he;have fin:∀q:Nat,y+1+q∈(f y).goals y->Ed f cs.length (y+1+q)∈Lf f cs.length->∃t,LT cs bs (y+1+q) h o ks ds t/\PT (nw cs f) bs ((Lf f cs.length).idxOf (Ed f cs.length (y+1+q))) h o ks ds t:=fun q hq hm =>
      RJ hc hg hB hn r (y+1+q) _ h o ks ds (by omega) (G y hp _ hq) (.inl ⟨_,hm,rfl,.inr rfl⟩) I (by omega) (S.go hq (keep0 _ (by rw[b];rfl)))
     have po:=po ((Lf f cs.length).idxOf (Ed f cs.length (y+1+k))-((Lf f cs.length).idxOf y+1)) ((Lf f cs.length).idxOf (Ed f cs.length (y+1+m))-((Lf f cs.length).idxOf y+1));cases cc with
     |true =>
      obtain⟨t,l,q⟩:=fin k (by rw[b];simp[Vw.goals]) c;refine⟨t,.on hp (fun ν mm=>lo ν cs y mm hd) l,.on he po ?_⟩;rw[show i+1+(if true=true then(Lf f cs.length).idxOf (Ed f cs.length (y+1+k))-((Lf f cs.length).idxOf y+1) else(Lf f cs.length).idxOf (Ed f cs.length (y+1+m))-((Lf f cs.length).idxOf y+1))=(Lf f cs.length).idxOf (Ed f cs.length (y+1+k)) by rw[VJ rfl];omega];exact q
     |false =>
      obtain⟨t,l,q⟩:=fin m (by rw[b];simp[Vw.goals]) d;refine⟨t,.on hp (fun ν mm=>lo ν cs y mm hd) l,.on he po ?_⟩;rw[show i+1+(if false=true then(Lf f cs.length).idxOf (Ed f cs.length (y+1+k))-((Lf f cs.length).idxOf y+1) else(Lf f cs.length).idxOf (Ed f cs.length (y+1+m))-((Lf f cs.length).idxOf y+1))=(Lf f cs.length).idxOf (Ed f cs.length (y+1+m)) by rw[VN (by decide)];omega];exact q
    |bt a=>exact absurd ho a
    |bj a=>exact absurd ho a
   ·rw[ho] at he ht;exact tells he ht
  ·-- the law goes on through a jump,or a test that leads to one end
   have move:∀j,U8 cs f p j->(∀g,Ed f cs.length g=Ed f cs.length p->U8 cs f g j)->∃t,LT cs bs p h o ks ds t/\PT (nw cs f) bs j h o ks ds t:=fun j _ hC=>by
    have hl:=(Ce ho).1;cases q:f p with
    |jp k =>
     have hq:p+1+k∈(f p).goals p:=by rw[q];simp[Vw.goals]
     obtain⟨t,l,w⟩:=RJ hc hg hB hn r (p+1+k) j h o ks ds (by omega) (G p hp _ hq) (hC _ (CT hp q).symm) I (by omega) (S.go hq (keep0 _ hl));rw[q] at hs;have hdj:∃k2:Nat,cs.getD p .non=.tup [.str bA,.int k2]/\k2=k/\k2<=2000:=by
      revert hs;generalize cs.getD p .non=dd;intro hs;cases hs with
      |jump hk2=>exact⟨k,rfl,rfl,hk2⟩
     obtain⟨k2,e1,rfl,hk2⟩:=hdj;rw[e1] at hd;exact⟨t,.on hp (fun ν m=>LV hk2 hd) l,w⟩
    |br k m =>
     have he:=yU hp q;have hee:Ed f cs.length (p+1+k)=Ed f cs.length (p+1+m):=by
      by_cases z:Ed f cs.length (p+1+k)=Ed f cs.length (p+1+m)
      ·exact z
      ·rw[VN z] at he;exact absurd he ho
     rw[VJ hee] at he;rw[q] at hs;obtain⟨cc,po,lo⟩:=Di (bs:=bs) hs I;have fin:∀w:Nat,p+1+w∈(f p).goals p->Ed f cs.length (p+1+w)=Ed f cs.length p->∃t,LT cs bs (p+1+w) h o ks ds t/\PT (nw cs f) bs j h o ks ds t:=fun w hw e =>
      RJ hc hg hB hn r (p+1+w) j h o ks ds (by omega) (G p hp _ hw) (hC _ e) I (by omega) (S.go hw (keep0 _ hl))
     cases cc with
     |true =>
      obtain⟨t,l,w⟩:=fin k (by rw[q];simp[Vw.goals]) he.symm;exact⟨t,.on hp (fun ν mm=>lo ν cs p mm hd) l,w⟩
     |false =>
      obtain⟨t,l,w⟩:=fin m (by rw[q];simp[Vw.goals]) (hee.symm.trans he.symm);exact⟨t,.on hp (fun ν mm=>lo ν cs p mm hd) l,w⟩
    |_=>rw[q] at hl;cases hl
   rcases C with⟨y,hy,hi,hyp⟩|⟨he,ht⟩
   ·rcases hyp with e|e
    ·subst e;have he:=NL (cs:=cs) hy;rw[←hi] at he;have N:Nw f cs.length (Lf f cs.length) y:=V.nw G hy;cases N with
     |pl y' a=>exact absurd a ho
     |tl a=>exact absurd a ho
     |br k m a=>exact absurd a ho
     |bt a b c =>
      have hnd:nd cs f cs.length (Lf f cs.length) y=cs.getD (Ed f cs.length y) .non:=by unfold nd;rw[VN ho,VJ b]
      rw[hnd] at he;exact move i (.inr ⟨he,b⟩) fun g e=>.inr (by rw[e];exact⟨he,b⟩)
     |bj a b c d e =>
      have hnd:nd cs f cs.length (Lf f cs.length) y=.tup [.str bA,.int (((Lf f cs.length).idxOf (Ed f cs.length y)-((Lf f cs.length).idxOf y+1):Nat):Int)]:=by
       unfold nd;rw[VN ho,VN (by rw[b];decide)]
      rw[hnd] at he;obtain⟨t,l,w⟩:=move ((Lf f cs.length).idxOf (Ed f cs.length y)) (.inl ⟨_,c,rfl,.inr rfl⟩) fun g e=>.inl ⟨_,c,rfl,.inr e.symm⟩
      refine⟨t,l,.on he L7 ?_⟩;rw[show i+1+((Lf f cs.length).idxOf (Ed f cs.length y)-((Lf f cs.length).idxOf y+1))=(Lf f cs.length).idxOf (Ed f cs.length y) by omega];exact w
    ·exact move i (.inl ⟨y,hy,hi,.inr e⟩) fun g e'=>.inl ⟨y,hy,hi,.inr (e.trans e'.symm)⟩
   ·exact move i (.inr ⟨he,ht⟩) fun g e=>.inr (by rw[e];exact⟨he,ht⟩)
theorem start (hc:Code cs f) (hg:eu f cs.length) (hB:sN bs) (hn:cs.length<100) (h1:1<=cs.length):∃t,LT cs bs 0 0 0 [] [] t/\PT (nw cs f) bs 0 0 0 [] [] t:=by
 have G:=hg.io;have V:=Iv.stg G (by omega) cs.length (VL _);have hC:U8 cs f 0 0:=by
  cases e:Lf f cs.length with
  |nil=>exact absurd e (V.non (V.off G))
  |cons x L =>
   have hx:x=Ed f cs.length 0:=V.hd x (by rw[show(stg f cs.length cs.length).left=x::L from e];rfl);exact .inl ⟨x,by rw[e];exact Wg ..,by rw[e,List.idxOf_cons_self],.inr hx⟩
 exact RJ hc hg hB hn cs.length 0 0 0 0 [] [] (by omega) (by omega) hC ⟨by decide,by decide,by decide,by decide,⟨rfl,fun q d h=>by cases h⟩⟩ (VL _) ⟨List.mem_singleton.mpr rfl,fun s _=>List.mem_singleton.mpr rfl⟩
end
section
variable {U ν ν':Mu}{ns:Zv}{ds:ZE}{ρ:En}{mv:MX}{v:D}
theorem ue (h0:ρ[0]? =some (some (.ref U.length))) (hv:mv ρ (U++[.obj "Machine" ns ds]++ν)=.ok v (U++[.obj "Machine" ns ds]++ν')) (hn:nm∉ns) (hl:ns.length=ds.length) (hs:ns.length<900) :
  mSetA zF nm (a4 0) mv ρ (U++[.obj "Machine" ns ds]++ν)=.ok (.nx ρ) (U++[.obj "Machine" (ns++[nm]) (ds++[v])]++ν'):=by
 have e:(U++[.obj "Machine" ns ds]++ν')[U.length]? =some (.obj "Machine" ns ds):=by
  rw[VU,VQ (VL _),Wm];rfl
 have e2:ny zF (.ref U.length) (U++[.obj "Machine" ns ds]++ν')=some (U.length,("Machine":Str),ns,ds):=by
  unfold ny;dsimp only;rw[e];dsimp only;rw[VJ Cc]
 unfold mSetA;rw[hv,ae,bz 0 h0,ae];unfold xy;rw[e2];dsimp only;rw[VJ hs,xK hn hl,VU,WH _ _ (VL _),Wm,VU];rfl
end
theorem M1 (U:Mu):c6 [.ref U.length] (U++[.obj "Machine" [] []])=.ok .non (cR U 0 0 [] [] 0 0 .non):=by
 have e0:U++[Cell.obj "Machine" [] []]=U++[Cell.obj "Machine" [] []]++[]:=(WC _).symm;rw[e0];have ed:∀(ns:Zv) (ds:ZE),mDic0 [some (.ref U.length)] (U++[.obj "Machine" ns ds]++[])=.ok (.ref (U.length+1)) (U++[.obj "Machine" ns ds]++[.dic [] []]):=fun ns ds=>by
  unfold mDic0;rw[WC,Wy];rfl
 have em:cR U 0 0 [] [] 0 0 .non=U++[.obj "Machine" ya [.int 0,.int 0,.ref (U.length+1),.int 0,.int 0,.non]]++[.dic [] []]:=by
  unfold cR;rw[VU];rfl
 rw[em];exact kU 0 ((b8 (ue rfl rfl (by decide +kernel) rfl (by decide))).trans ((b8 (ue rfl rfl (by decide +kernel) rfl (by decide))).trans ((b8 (ue rfl (ed _ _) (by decide +kernel) rfl (by decide))).trans ((b8 (ue rfl rfl (by decide +kernel) rfl (by decide))).trans ((b8 (ue rfl rfl (by decide +kernel) rfl (by decide))).trans (ue rfl rfl (by decide +kernel) rfl (by decide)))))))
theorem Tq (i:Nat) (hm:mo ρ U=.ok (.ref U0.length) (cR U0 h o ks ds p n t)) (hn:ya[i]? =some nm) (hv:([.int h,.int o,.ref (U0.length+1),.int p,.int n,t]:ZE)[i]? =some v) :
  mAttr zF nm mo ρ U=.ok v (cR U0 h o ks ds p n t):=by
 unfold mAttr;rw[hm,ae,mn];show ofO _ (kP nm ya ([.int h,.int o,.ref (U0.length+1),.int p,.int n,t]:ZE))=_;rw[pz (ds:=([.int h,.int o,.ref (U0.length+1),.int p,.int n,t]:ZE)) ve rfl hn,hv];rfl
section
variable {cs:ZE}{bs:ZC}{t:Int}
theorem Rn :mNew "Machine" c6 mNil [some (.lst cs),some (pk bs),none] U=.ok (.ref U.length) (cR U 0 0 [] [] 0 0 .non):=by
 show HR "Machine" c6 [] U=_;unfold HR;rw[M1];rfl
theorem PT.run (h:PT cs bs 0 0 0 [] [] t) (hl:cs.length<90) (U:Mu):∃U',pC [.lst cs,pk bs] U=.ok (.int t) U':=by
 obtain⟨h',o',ks',ds',g,n',e⟩:=h 99 0 U (by omega);have ee:kE [.lst cs,pk bs] U=.ok (.ref U.length) (cR U h' o' ks' ds' g n' (.int t)):=aP 1 ((ar 2 Rn).trans ((b8 e).trans (bv rfl)));exact⟨_,aP 0 (bv (Tq 5 (aj rfl ee) rfl rfl))⟩
theorem LT.run (h:LT cs bs 0 0 0 [] [] t) (hl:cs.length<90) (U:Mu):∃U' m',CO [.lst cs,pk bs] U=.ok (.tup [.int t,m']) U':=by
 have hit:∀{U:Mu}{ρ:En},ρ[0]? =some (some (.lst cs))->mRange2 (a5 (mC (.int 1)) (a5 (a6 bi (mCallB bM (a5 (a4 0) mNil)) (mC (.int 2))) mNil)) ρ U=.ok (iL (List.range' 1 (cs.length+1))) U:=fun{U ρ} h0=>by
  have e1:a5 (mC (.int 1)) (a5 (a6 bi (mCallB bM (a5 (a4 0) mNil)) (mC (.int 2))) mNil) ρ U=.ok [.int 1,.int (cs.length+2)] U:=a7 rfl (a7 (ac (x:=.int cs.length) (bh (a7 (bz 0 h0) am) rfl) rfl rfl) am);unfold mRange2;rw[e1,ae];have ha:kt [.int 1,.int (cs.length+2)]=some (rangeD2 1 ((cs.length:Int)+2-1).toNat):=by
   simp only[kt];have h2:(2 ^ 62:Int)=4611686018427387904:=by decide
   rw[h2,VJ (by omega)]
  rw[ha];have:rangeD2 1 ((cs.length:Int)+2-1).toNat=iL (List.range' 1 (cs.length+1)):=by
   unfold rangeD2 iL;rw[show((cs.length:Int)+2-1).toNat=cs.length+1 by omega,List.range'_eq_map_range,Xj];refine List.map_congr_left fun k _=>?_
   show D.int (1+(k:Int))=D.int ((1+k:Nat):Int);congr 1
  rw[this];rfl
 obtain⟨U',m',e⟩:=h 1 (cs.length+1) U none none none none (by omega);refine⟨U',m',aP 7 ((ar 2 (d:=.tup [.int 0,.int 0]) rfl).trans ((ar 3 (d:=.ref U.length) (U1:=lm U [] []) rfl).trans ((ar 4 (d:=.int 0) rfl).trans (l9 ((fI (hit rfl)).trans e)))))⟩
end
abbrev UG:MX:=a6 bL (a6 dq (mCall di (a5 (a4 1) (a5 (a6 bi (a6 bi (a4 2) (mC (.int 1))) (a6 bL (a4 0) (mC (.int 40)))) mNil))) (a6 bi (mC (.int 1)) (a4 0))) (mC (.int 256))
theorem BY (ns:ZC) (b:Nat) (U:Mu):∀(m p:Nat),p+m<1000->∀(a:ZF) (acc:ZE),∃bs:ZC,aA (gN 0) fh UG (iL (List.range' p m)) [a,some (sc ns),some (.int b)] U acc=.ok (acc++bs.map .int) U/\bs.length=m/\∀i∈bs,0<=i/\i<256
 |0,p,_,a,acc=>⟨[],by simp[aA,iL],rfl,fun _ h=>by simp at h⟩
 |m+1,p,hp,a,acc=>by
  have e1:UG [some (.int p),some (sc ns),some (.int b)] U=.ok (.int (ik ns (b+1+p % 40) / (1+(p:Int)) % 256)) U:=by
   refine ac (x:=.int (ik ns (b+1+p % 40) / (1+(p:Int)))) (ac (x:=.int (ik ns (b+1+p % 40))) (y:=.int (1+(p:Int))) (aj (a7 rfl (a7 (ac (x:=.int ((b:Int)+1)) (y:=.int ((p:Int) % 40)) (z:=.int ((b:Int)+1+(p:Int) % 40)) rfl (ac rfl rfl (cS _ _ (by decide))) rfl) am)) (ij ns (b+1+p % 40) (by omega) U)) rfl (gK _ _ (by omega) (by omega))) rfl (cS _ _ (by decide))
  obtain⟨ds,ih,hl,hb⟩:=BY ns b U m (p+1) (by omega) (some (.int p)) (acc++[.int (ik ns (b+1+p % 40) / (1+(p:Int)) % 256)]);refine⟨(ik ns (b+1+p % 40) / (1+(p:Int)) % 256)::ds,?_,by rw[W1,hl],List.forall_mem_cons.mpr ⟨⟨Ws _ (by decide),Wz _ (by decide)⟩,hb⟩⟩;rw[gh];refine(eU (ds:=iL (List.range' (p+1) m)) rfl e1).trans (ih.trans ?_);rw[VU,Wf];rfl
theorem Ec (ns:ZC) (b:Nat) (U:Mu):∃bs,mB [sc ns,.int b] U=.ok (pk bs) U/\sN bs:=by
 obtain⟨d,hd,e⟩:=G5 (ρ:=[some (sc ns),some (.int b),none]) (U:=U) (m:=mCall di (a5 (a4 0) (a5 (a4 1) mNil))) (L:=[.int 0,.int 1,.int 3,.int 20,.int 34,.int 60]) (ms:=a5 (mC (.int 0)) (a5 (mC (.int 1)) (a5 (mC (.int 3)) (a5 (mC (.int 20)) (a5 (mC (.int 34)) (a5 (mC (.int 60)) mNil)))))) (n:=6) rfl (aj rfl (ij ns b rfl U)) rfl (by decide);have hk:∃k:Nat,d=.int k/\k<=60:=by
  simp only[Wd,VR,WL] at hd;rcases hd with rfl|rfl|rfl|rfl|rfl|rfl
  ·exact⟨0,rfl,by decide⟩
  ·exact⟨1,rfl,by decide⟩
  ·exact⟨3,rfl,by decide⟩
  ·exact⟨20,rfl,by decide⟩
  ·exact⟨34,rfl,by decide⟩
  ·exact⟨60,rfl,by decide⟩
 obtain⟨k,rfl,hk⟩:=hk;obtain⟨ds,ec,hl,hb⟩:=BY ns b U k 0 (by omega) none [];refine⟨ds,aP 1 ((ar 2 e).trans (bv ?_)),hb,by omega⟩;unfold b7;rw[gY (n:=k) rfl (by omega),ae,VJ (by rw[iL,VS,YG];omega)];show(aA (gN 0) fh UG _ [none,some (sc ns),some (.int b)] U []).bind _=_;rw[ec];rfl
theorem Ke (hv:mv ρ [.lst xs]=.ok v [.lst xs]) (ho:mo ρ [.lst xs]=.ok (.ref 0) [.lst xs]) (hi:mi ρ [.lst xs]=.ok (.int j) [.lst xs]) (hj:j<xs.length):mStore mo mi mv ρ [.lst xs]=.ok (.nx ρ) [.lst (xs.set j v)]:=by
 unfold mStore;rw[hv,ae,ho,ae,hi,ae];unfold Af;show(match FF xs.length (j:Int) with
  |some n=>Res.ok (Out.nx ρ) [Cell.lst (xs.set n v)]
  | none=>.bad)=_
 have:FF xs.length (j:Int)=some j:=by
  unfold FF
  first
   |(rw[VJ (by omega)];simp;done)
   |(simp;omega)
   |(split<;>simp<;>omega)
 rw[this]
def Ug (f:Nat->Vw) (j:Nat) (v:Vw):Nat->Vw:=fun i=>if i=j then v else f i
theorem Ju (hc:Code ds f) (hs:Sh d v):Code (ds.set j d) (Ug f j v):=by
 intro i x hx;unfold Ug;by_cases z:i=j
 ·subst z;rw[VJ rfl];by_cases h:i<ds.length
  ·rw[Wi h] at hx;cases hx;exact hs
  ·rw[Xp (by rw[XR];omega)] at hx;cases hx
 ·rw[VN z];rw[Wp (Wr z)] at hx;exact hc i x hx
theorem ND (ns:ZC) (h1:n<100):∀(r m:Nat) (ds:ZE) (f:Nat->Vw) (x2 x3 x4 x5 x6:ZF),ds.length=n->m+r+1=n->Code ds f->∃ds' f' y2,ds'.length=n/\Code ds' f' /\
  forGo (gN 2) pq (iL (List.range' m r)) [some (sc ns),some (.ref 0),x2,x3,x4,x5,x6] [.lst ds]=.ok (.nx [some (sc ns),some (.ref 0),y2,x3,x4,x5,x6]) [.lst ds']
 |0,m,ds,f,x2,x3,x4,x5,x6,hl,_,hc=>⟨ds,f,x2,hl,hc,rfl⟩
 |r+1,m,ds,f,x2,x3,x4,x5,x6,hl,hm,hc=>by
  let ρ:En:=[some (sc ns),some (.ref 0),some (.int m),x3,x4,x5,x6]
  have t1:a9 (a6 bB (a6 bL (mCall di (a5 (a4 0) (a5 (a6 bi (mC (.int 40)) (a4 2)) mNil))) (mC (.int 3))) (mC (.int 0))) ρ [.lst ds]=.ok (ik ns (40+m) % 3==0) [.lst ds] :=
   aC (ac (x:=.int (ik ns (40+m) % 3)) (ac (aj (a7 rfl (a7 (ac rfl rfl rfl) am)) (ij ns (40+m) (by show(40:Int)+(m:Int)=_;omega) _)) rfl (cS _ _ (by decide))) rfl (rP ..))
  have key:∃ds' f',ds'.length=n/\Code ds' f'/\pq ρ [.lst ds]=.ok (.nx ρ) [.lst ds']:=by
   cases hz:(ik ns (40+m) % 3==0) with
   |false=>rw[hz] at t1;exact⟨ds,f,hl,hc,aT t1⟩
   |true =>
    rw[hz] at t1;have hpos:0<(if(n:Int)-m-1<3 then(n:Int)-m-1 else 3):=by split<;>omega
    have hle:(if(n:Int)-m-1<3 then(n:Int)-m-1 else 3)<=3:=by split<;>omega
    generalize hq:(if(n:Int)-m-1<3 then(n:Int)-m-1 else 3)=q at hpos hle;have e1:mTup (a5 (mC (.str bA)) (a5 (a6 bL (mCall di (a5 (a4 0) (a5 (a6 bi (mC (.int 30)) (a4 2)) mNil))) (mCallB B4 (a5 (mC (.int 3)) (a5 (a6 dn (a6 dn (mCallB bM (a5 (a4 1) mNil)) (a4 2)) (mC (.int 1))) mNil)))) mNil)) ρ [.lst ds]=.ok (.tup [.str bA,.int ((ik ns (30+m) % q).toNat:Int)]) [.lst ds]:=by
     refine cY (a7 rfl (a7 ?_ am));have e2:mCallB B4 (a5 (mC (.int 3)) (a5 (a6 dn (a6 dn (mCallB bM (a5 (a4 1) mNil)) (a4 2)) (mC (.int 1))) mNil)) ρ [.lst ds]=.ok (.int q) [.lst ds]:=by
      refine bh (ds:=[.int 3,.int ((n:Int)-m-1)]) (a7 rfl (a7 (ac (x:=.int ((n:Int)-m)) (ac (x:=.int n) (bh (ds:=[.ref 0]) (a7 rfl am) (by show some (D.int (ds.length:Int))=_;rw[hl])) rfl rfl) rfl rfl) am)) ?_;rw[←hq];rfl
     refine ac (x:=.int (ik ns (30+m))) (y:=.int q) (aj (a7 rfl (a7 (ac rfl rfl rfl) am)) (ij ns (30+m) (by show(30:Int)+(m:Int)=_;omega) _)) e2 ?_;refine(cS _ _ hpos).trans ?_;rw[XJ (Ws _ (by omega))]
    have hlt:=Wz (ik ns (30+m)) hpos;refine⟨ds.set m (.tup [.str bA,.int ((ik ns (30+m) % q).toNat:Int)]),Ug f m (.jp (ik ns (30+m) % q).toNat),by rw[XR];exact hl,Ju hc (.jump (by omega)),(bw t1).trans (Ke e1 rfl rfl (by omega))⟩
  obtain⟨ds',f',hl',hc',e⟩:=key;obtain⟨ds2,f2,y2,hl2,hc2,ih⟩:=ND ns h1 r (m+1) ds' f' (some (.int m)) x3 x4 x5 x6 hl' (by omega) hc';refine⟨ds2,f2,y2,hl2,hc2,?_⟩;rw[gh];exact(la e).trans ih
theorem IF (hc:Code es g) (hn:es.length<100) (h1:1<=es.length) (U:Mu):∃ν,d9 [.lst es] U=.ok (.bl (first g es.length es.length).isNone) (U++ν):=Qb (rR hc hn h1) U
theorem Av (hc:Code es g):plainDs es=true/\dpts es<=1:=by
 have go:∀xs:ZE,(∀d∈xs,∃v,Sh d v)->plainDs xs=true/\dpts xs<=1:=by
  intro xs
  induction xs with
  |nil=>intro _;exact⟨rfl,WK _⟩
  |cons d xs ih =>
   intro h;obtain⟨v,hs⟩:=h d (Wg ..);obtain⟨p1,p2⟩:=xx hs;obtain⟨q1,q2⟩:=ih fun x hx=>h x (W6 _ hx)
   refine⟨?_,?_⟩
   ·show(au d&&plainDs xs)=true;rw[p1,q1];rfl
   ·show max (kl d) (dpts xs)<=1;omega
 exact go es fun d hd=>by
  obtain⟨i,hi⟩:=List.getElem?_of_mem hd;exact⟨_,hc i d hi⟩
def xm (U:Mu) (q:Nat):Mu:=U++[.xdc "at" (.int q)]++[.exn "NotLetIn" U.length]
theorem Ri :(xm U q)[U.length+1]? =some (.exn "NotLetIn" U.length):=by
 unfold xm;rw[VQ (by simp)];simp
theorem Rj :(xm U q)[U.length]? =some (.xdc "at" (.int q)):=by
 unfold xm;rw[VU,VQ (VL _),Wm];rfl
theorem Vv (hρ:ρ[2]? =some (some (.ref (U.length+1)))) (hg:g "NotLetIn"=some b):mTru (Ix g (a4 2)) ρ (xm U q)=.ok b (xm U q):=by
 refine gX (d:=.bl b) ?_ rfl;unfold Ix;rw[bz 2 hρ,ae];unfold LY;dsimp only;rw[Ri];dsimp only;rw[Rj];dsimp only;rw[hg];rfl
theorem Vl (hρ:ρ[2]? =some (some (.ref (U.length+1)))) (hg:ok "NotLetIn"=true):LP ok "at" (a4 2) ρ (xm U q)=.ok (.int q) (xm U q):=by
 unfold LP;rw[bz 2 hρ,ae];dsimp only;rw[Ri];dsimp only;rw[Rj];dsimp only;rw[VJ ⟨hg,rfl⟩]
section
variable {ds:ZE}{f:Nat->Vw}
theorem OH (hc:Code ds f) (hg:eu f ds.length) (hn:ds.length<100) (h1:1<=ds.length) (U:Mu):∃U',ke [.lst ds] U=.ok (.lst (nw ds f)) U':=by
 obtain⟨ν,e⟩:=DX hc hg hn h1 U;have et:mTryK 1 2 (fun k=>k==0) xc (jR eF (a5 (a4 0) mNil)) fk [some (.lst ds),some .non,none] U=.ok (.nx [some (.lst ds),some (.lst (nw ds f)),none]) (U++ν):=by
  unfold mTryK;rw[oX (a7 rfl am) e];rfl
 exact⟨_,aP 2 ((ar 1 rfl).trans ((b8 et).trans (bv rfl)))⟩
theorem OI (hc:Code ds f) (hq:first f ds.length ds.length=some q) (hn:ds.length<100) (h1:1<=ds.length) (U:Mu):∃U',ke [.lst ds] U=.ok (.tup [.str wX,.int q]) U':=by
 obtain⟨ν,e⟩:=Ap hc hq hn h1 U;have es:fk [some (.lst ds),some .non,some (.ref ((U++ν).length+1))] (xm (U++ν) q)=.ok (.nx [some (.lst ds),some (.tup [.str wX,.int q]),some (.ref ((U++ν).length+1))]) (xm (U++ν) q):=by
  unfold fk mSet;rw[iy (Vv rfl (by decide +kernel)),cY (a7 rfl (a7 (Vl rfl (by decide +kernel)) am))];rfl
 have et:mTryK 1 2 (fun k=>k==0) xc (jR eF (a5 (a4 0) mNil)) fk [some (.lst ds),some .non,none] U=.ok (.nx [some (.lst ds),some (.tup [.str wX,.int q]),none]) (xm (U++ν) q):=by
  unfold mTryK;rw[oX (a7 rfl am) e];dsimp only;rw[VJ (show((0:Nat)==0)=true from rfl)];show(noX (fk [some (.lst ds),some .non,some (.ref ((U++ν).length+1))] (xm (U++ν) q))).bind _=_;rw[es];rfl
 exact⟨_,aP 2 ((ar 1 rfl).trans ((b8 et).trans (bv rfl)))⟩
theorem CC:∀(L:Zu) (a n:Nat),L.Pairwise (· < ·)->(∀x∈L,a<=x/\x<n)->L.length<=n-a
 |[],_,_,_,_=>WK _
 |x::L,a,n,h,hb=>by
  obtain⟨h1,h2⟩:=List.pairwise_cons.mp h;have:=CC L (x+1) n h2 fun y hy=>⟨h1 y hy,(hb y (W6 _ hy)).2⟩
  have:=hb x (Wg ..);rw[W1];omega
theorem HM (hg:eu f ds.length) (h1:1<=ds.length):(nw ds f).length<=ds.length:=by
 have I:=Iv.stg hg.io h1 ds.length (VL _);rw[VS];exact CC _ 0 _ I.inc fun x hx=>⟨WK _,I.bd x hx⟩
theorem PL (h1:plainDs xs=true) (h2:dpts xs<=50):kQ (.lst xs) (.lst xs)=some (.bl false):=by
 have h3:au (.lst xs)=true:=by simpa[au] using h1
 unfold kQ iS;rw[h3,VX (by rw[YA,kl];omega),rX _ h3];rfl
theorem Mf (ha:au a=true/\kl a=0) (hb:au b=true/\kl b=0):bB (.tup [a,b]) (.tup [a,b])=some (.bl true):=by
 have h3:au (.tup [a,b])=true:=by simp[au,plainDs,ha.1,hb.1]
 unfold bB iS;rw[h3,VX (by rw[YA];simp[kl,dpts,ha.2,hb.2]),rX _ h3];rfl
theorem ql (ns:ZC) (hc:Code ds f) (hg:eu f ds.length) (hn:ds.length<50) (h1:1<=ds.length) (e5:ZF) (k:Nat) (x6:ZF) (U:Mu):∃U' y6,pj [some (sc ns),some (.lst ds),some (.int k),some (.lst ds),some (.lst (nw ds f)),e5,x6] U=.ok (.nx [some (sc ns),some (.lst ds),some (.int k),some (.lst ds),some (.lst (nw ds f)),e5,y6]) U':=by
 obtain⟨bs,ep,hB⟩:=Ec ns (20+11*k) U;have hl:=HM hg h1;obtain⟨t,hL,hP⟩:=start hc hg hB (by omega) h1;obtain⟨U1,e1⟩:=hP.run (by omega) U;obtain⟨U2,m',e2⟩:=hL.run (by omega) U1;refine⟨U2,some (pk bs),(ar 6 (d:=pk bs) (aj (a7 rfl (a7 (ac (x:=.int 20) (y:=.int (11*k)) (z:=.int ((20+11*k:Nat):Int)) rfl (ac rfl rfl (dc _ _ (by decide) (by decide))) ?_) am)) ep)).trans ((aT (aC (ac (aj rfl e1) (ac (x:=.tup [.int t,m']) (aj rfl e2) rfl (j5 _ _)) ?_))).trans rfl)⟩
 ·show some (D.int (20+11*(k:Int)))=_;congr 2
 ·rw[aL,rM];simp
end
theorem law_true (ns:ZC) (hl:ns.length<=63):∃U,CP [.lst (ns.map .int)] []=.ok (.bl true) U:=by
 have hmany:(ik ns 60 % 13).toNat<=20:=by have:=Wz (ik ns 60) (show(0:Int)<13 by decide);omega
 obtain⟨ds0,vs,ec,el,hs⟩:=Mp ns (ik ns 60 % 13).toNat hmany;have hn:(ik ns 60 % 13).toNat<13:=by have:=Wz (ik ns 60) (show(0:Int)<13 by decide);omega
 have a1:mCall rW (a5 (a4 0) (a5 (mC (.int 0)) (a5 (a6 bL (mCall di (a5 (a4 0) (a5 (mC (.int 60)) mNil))) (mC (.int 13))) mNil))) [some (sc ns),none,none,none,none,none,none] []=.ok (.ref 0) [.lst ds0]:=by
  refine aj (ds:=[sc ns,.int 0,.int ((ik ns 60 % 13).toNat:Int)]) (a7 rfl (a7 rfl (a7 (ac (x:=.int (ik ns 60)) (aj (a7 rfl (a7 rfl am)) (ij ns 60 rfl _)) rfl ?_) am))) ec;refine(cS _ _ (by decide)).trans ?_;rw[XJ (Ws _ (by decide))]
 have a2:mRange1 (a6 dn (mCallB bM (a5 (a4 1) mNil)) (mC (.int 1))) [some (sc ns),some (.ref 0),none,none,none,none,none] [.lst ds0]=.ok (iL (List.range' 0 (ik ns 60 % 13).toNat)) [.lst ds0]:=by
  refine gY (ac (x:=.int (ds0.length:Int)) (bh (ds:=[.ref 0]) (a7 rfl am) rfl) rfl ?_) (by omega);show some (D.int ((ds0.length:Int)-1))=_;rw[el];exact congrArg (fun i=>some (D.int i)) (by omega)
 have t1:a9 (a6 bB (a6 bL (mCall di (a5 (a4 0) (a5 (mC (.int 61)) mNil))) (mC (.int 2))) (mC (.int 0))) [some (sc ns),some (.ref 0),none,none,none,none,none] [.lst ds0]=.ok (ik ns 61 % 2==0) [.lst ds0] :=
  aC (ac (x:=.int (ik ns 61 % 2)) (ac (aj (a7 rfl (a7 rfl am)) (ij ns 61 rfl _)) rfl (cS _ _ (by decide))) rfl (rP ..))
 have draw:∃ds f y2,ds.length=(ik ns 60 % 13).toNat+1/\Code ds f/\(mIte (a9 (a6 bB (a6 bL (mCall di (a5 (a4 0) (a5 (mC (.int 61)) mNil))) (mC (.int 2))) (mC (.int 0)))) (mFor (gN 2) (mRange1 (a6 dn (mCallB bM (a5 (a4 1) mNil)) (mC (.int 1)))) pq) mSkip) [some (sc ns),some (.ref 0),none,none,none,none,none] [.lst ds0]=.ok (.nx [some (sc ns),some (.ref 0),y2,none,none,none,none]) [.lst ds]:=by
  cases hz:(ik ns 61 % 2==0) with
  |false =>
   rw[hz] at t1;exact⟨ds0,_,none,el,hs.code,(aT t1).trans rfl⟩
  |true =>
   rw[hz] at t1;obtain⟨ds,f,y2,hl2,hc,ej⟩:=ND ns (n:=(ik ns 60 % 13).toNat+1) (by omega) (ik ns 60 % 13).toNat 0 ds0 (fun i=>vs.getD i .tl) none none none none none el (by omega) hs.code;exact⟨ds,f,y2,hl2,hc,(bw t1).trans ((fI a2).trans ej)⟩
 obtain⟨ds,f,y2,hl2,hc,ej⟩:=draw;have h1:1<=ds.length:=by omega
 have h50:ds.length<50:=by omega
 have a3:mFrz 1 (mSet 3 (mCallB vO (a5 (a4 1) mNil))) [some (sc ns),some (.ref 0),y2,none,none,none,none] [.lst ds]=.ok (.nx [some (sc ns),some (.lst ds),y2,some (.lst ds),none,none,none]) [.dead] :=
  (MP (U0:=[]) (ν:=[]) (c:=.lst ds) rfl rfl).trans rfl
 obtain⟨p1,p2⟩:=Av hc;cases hfi:first f ds.length ds.length with
 |some q =>
  obtain⟨U1,b1⟩:=OI hc hfi (by omega) h1 [Cell.dead];obtain⟨ν2,b2⟩:=rV (U0:=U1) (c:=.lst ds) hc rfl (by omega);rw[hfi] at b2;have b2:gm [.lst ds] U1=.ok (.int (q:Int)) (U1++ν2):=b2;refine⟨U1++ν2,aP 6 (Wx (ar 1 a1) (Wx (b8 ej) (Wx (b8 a3) (Wx (ar 4 (aj (a7 rfl am) b1)) (Wx (ar 5 (aj (a7 rfl am) b2)) (aN (aC (ac (x:=.int (q:Int)) (y:=.int 0) rfl rfl ?_)) (ac (x:=.tup [.str wX,.int q]) (y:=.tup [.str wX,.int q]) rfl (cY (a7 rfl (a7 rfl am))) ?_)))))))⟩
  ·rw[aL,aL,vN,VX (by omega)]
  ·exact Mf ⟨rfl,rfl⟩ ⟨rfl,rfl⟩
 |none =>
  have hg:=B2 hfi;obtain⟨U1,b1⟩:=OH hc hg (by omega) h1 [Cell.dead];obtain⟨ν2,b2⟩:=rV (U0:=U1) (c:=.lst ds) hc rfl (by omega);rw[hfi] at b2;have b2:gm [.lst ds] U1=.ok (.int (-1)) (U1++ν2):=b2;have F:=PK hc hg h50 h1;have hle:=HM hg h1;obtain⟨ν3,c1⟩:=IF F.code (by show(nw ds f).length<100;omega) F.pos (U1++ν2);rw[lA F.good] at c1;obtain⟨ν4,c2⟩:=rV (U0:=U1++ν2++ν3) (c:=.lst (nw ds f)) F.code rfl (by show(nw ds f).length<1000;omega);rw[lA F.good] at c2;have c2:gm [.lst (nw ds f)] (U1++ν2++ν3)=.ok (.int (-1)) (U1++ν2++ν3++ν4):=c2;obtain⟨U3,y6,d1⟩:=ql ns hc hg h50 h1 (some (.int (-1))) 0 none (U1++ν2++ν3++ν4);obtain⟨U4,z6,d2⟩:=ql ns hc hg h50 h1 (some (.int (-1))) 1 y6 U3;obtain⟨U5,w6,d3⟩:=ql ns hc hg h50 h1 (some (.int (-1))) 2 z6 U4
  let ρ:En:=[some (sc ns),some (.lst ds),y2,some (.lst ds),some (.lst (nw ds f)),some (.int (-1)),none]
  have u1:mNot (mTru (mIsI .list (a4 4))) ρ (U1++ν2)=.ok false (U1++ν2):=qa (k:=true) (gX (d:=.bl true) rfl rfl);have u2:a9 (a6 kQ (a4 3) (a4 1)) ρ (U1++ν2)=.ok false (U1++ν2):=aC (ac (x:=.lst ds) (y:=.lst ds) rfl rfl (PL p1 (by omega)));have u3:a9 (a6 yP (mCallB bM (a5 (a4 4) mNil)) (mCallB bM (a5 (a4 1) mNil))) ρ (U1++ν2)=.ok false (U1++ν2):=by
   refine aC (ac (x:=.int (nw ds f).length) (y:=.int ds.length) (bh (a7 rfl am) rfl) (bh (a7 rfl am) rfl) ?_);rw[aL,aL,EU,VY (by omega)]
  have u4:mNot (mTru (mCall d9 (a5 (a4 4) mNil))) ρ (U1++ν2)=.ok false (U1++ν2++ν3):=qa (k:=true) (gX (d:=.bl true) (aj (a7 rfl am) c1) rfl);have u5:a9 (a6 t7 (mCall gm (a5 (a4 4) mNil)) (mC (.int 0))) ρ (U1++ν2++ν3)=.ok false (U1++ν2++ν3++ν4):=aC (ac (x:=.int (-1)) (y:=.int 0) (aj (a7 rfl am) c2) rfl rfl);have fin:mFor (gN 2) (mRange1 (mC (.int 3))) pj ρ (U1++ν2++ν3++ν4)=.ok (.nx [some (sc ns),some (.lst ds),some (.int ((2:Nat):Int)),some (.lst ds),some (.lst (nw ds f)),some (.int (-1)),w6]) U5:=by
   refine(fI (gY (n:=3) rfl (by decide))).trans ?_;show forGo (gN 2) pj [.int ((0:Nat):Int),.int ((1:Nat):Int),.int ((2:Nat):Int)] ρ _=_;exact(la d1).trans ((la d2).trans ((la d3).trans rfl))
  exact⟨U5,aP 6 (Wx (ar 1 a1) (Wx (b8 ej) (Wx (b8 a3) (Wx (ar 4 (aj (a7 rfl am) b1)) (Wx (ar 5 (aj (a7 rfl am) b2)) (Wx (a8 (aC (ac (x:=.int (-1)) (y:=.int 0) rfl rfl rfl))) (Wx (a8 (Wx (tm u1) (Wx (tm u2) (Wx (tm u3) u4)))) (Wx (a8 u5) (Wx (b8 fin) (bv rfl))))))))))⟩
end K30
namespace PySem.W.Fast
def tw8713633617732737591:Unit:=()
def tw3525918884944053381:Unit:=()
def tw8090579862111169983:Unit:=()
def tw8943417662172075350:Unit:=()
def tw6337316820590535159:Unit:=()
def tw3281906584471457064:Unit:=()
def tw7025532032474868798:Unit:=()
def tw2176824488923006625:Unit:=()
def tw1489182058559418749:Unit:=()
def tw14203051064200217110:Unit:=()
def tw7389397175095768402:Unit:=()
def tw9313437726448994609:Unit:=()
def tw9942785040548589871:Unit:=()
def tw1355731241525193403:Unit:=()
def tw9443039872147334171:Unit:=()
def tw110742289672265871:Unit:=()
def tw14591920864953409625:Unit:=()
def tw11836416530513686339:Unit:=()
def tw1251477216736672703:Unit:=()
def tw486700748399279208:Unit:=()
def tw11714460515265863850:Unit:=()
def tw10897179510437254929:Unit:=()
def tw3899842314031081391:Unit:=()
def tw17919795826736941898:Unit:=()
def tw1842647331347412599:Unit:=()
def tw17113513309110734390:Unit:=()
def tw40970620650572619:Unit:=()
def tw14016711492007649320:Unit:=()
def tw8259235449050726891:Unit:=()
def tw9684298995844948300:Unit:=()
def tw1350269695390139694:Unit:=()
def tw9426593610395051818:Unit:=()
def tw10732638881746501286:Unit:=()
def tw6161731765069891940:Unit:=()
def tw7828139057495419203:Unit:=()
def tw10066152285177876360:Unit:=()
def tw8011085186231150490:Unit:=()
def tw17203812581234934287:Unit:=()
def tw11766161401790191951:Unit:=()
def tw3824566185911278433:Unit:=()
def tw1821222933490744134:Unit:=()
def tw9077159494212740214:Unit:=()
def tw15232368744121539245:Unit:=()
def tw12345254594126095100:Unit:=()
def tw213837923116396903:Unit:=()
def tw5476720046890048641:Unit:=()
def tw11859115703278926612:Unit:=()
def tw7513687163461318909:Unit:=()
def tw13294483899255415092:Unit:=()
def tw16363011727059905028:Unit:=()
def tw1659390830928147332:Unit:=()
def tw11911676638984833186:Unit:=()
def tw14470463741701862980:Unit:=()
def tw10350874598154985606:Unit:=()
def tw15639523529725703102:Unit:=()
def tw6075416174000103096:Unit:=()
def tw6472869253676139208:Unit:=()
def tw7742684823160807455:Unit:=()
def tw2897025703420994982:Unit:=()
def tw9254393152787885231:Unit:=()
def tw11853359349169266069:Unit:=()
def tw9232178869069504140:Unit:=()
def tw8821150245646091964:Unit:=()
def tw68145817999353225:Unit:=()
def tw18415579592806270546:Unit:=()
def tw15871503022052533459:Unit:=()
def tw11741223359843633425:Unit:=()
def tw8922679331051754476:Unit:=()
def tw1239338227908778519:Unit:=()
def tw17355738014526757920:Unit:=()
def tw9510121385982860541:Unit:=()
def tw15153138206232610121:Unit:=()
def tw4524246891286480038:Unit:=()
def tw4310271793028120666:Unit:=()
def tw9909556526108058672:Unit:=()
def tw11271179024084438802:Unit:=()
def tw16687565415804800938:Unit:=()
def tw1777508380205473182:Unit:=()
def tw414163221217476045:Unit:=()
def tw13496713246052601155:Unit:=()
def tw13676850780947292886:Unit:=()
def tw715062164312878004:Unit:=()
def tw5402772261768962038:Unit:=()
def tw5009798681666547644:Unit:=()
def tw3403453340984566094:Unit:=()
def tw2977906189333349547:Unit:=()
def tw9113064288201664303:Unit:=()
def tw7885666263679234538:Unit:=()
def tw12266781081729082298:Unit:=()
def tw10254822219893410342:Unit:=()
def tw18130017012460316026:Unit:=()
def tw7480169391278957978:Unit:=()
def tw8880530441976487692:Unit:=()
def tw16718359870919502115:Unit:=()
def tw9278334383416380814:Unit:=()
def tw16778850359083115570:Unit:=()
def tw17473659326550552000:Unit:=()
def tw2619779121888234057:Unit:=()
def tw14285754927440598894:Unit:=()
def tw5491931811594604516:Unit:=()
end PySem.W.Fast
def PySem.W.Fast.tw4417468627596513990:Unit:=()
def PySem.W.Fast.tw1339916637271643418:Unit:=()
def PySem.W.Fast.tw4556060466470662320:Unit:=()
def PySem.W.Fast.tw5556308647890741013:Unit:=()
def PySem.W.Fast.tw7469787268273383871:Unit:=()
def PySem.W.Fast.tw16386173725721613353:PySem.Program:=PySem.Challenge.pw_netsieve_k30_whole_shrunk
theorem PySem.W.Fast.te16386173725721613353:PySem.Challenge.pw_netsieve_k30_whole_shrunk=PySem.W.Fast.tw16386173725721613353:=rfl
def PySem.W.Fast.tw3030104047814381244:Unit:=()
def PySem.W.Fast.tw11455944700441953869:Unit:=()
def PySem.W.Fast.tw4390628303850774:Unit:=()
def PySem.W.Fast.tw10121477184520314666:Unit:=()
def PySem.W.Fast.tw6534866992319142557:Unit:=()
def PySem.W.Fast.tw12836255073661659544:Unit:=()
def PySem.W.Fast.tw6614290231864872104:Unit:=()
def PySem.W.Fast.tw15411312367827380959:Unit:=()
def PySem.W.Fast.tw1119823937974735672:Unit:=()
def PySem.W.Fast.tw8691143636588984892:Unit:=()
def PySem.W.Fast.tw10972137382068106012:Unit:=()
def PySem.W.Fast.tw6649676063103116436:Unit:=()
def PySem.W.Fast.tw12097137744946218121:Unit:=()
def PySem.W.Fast.tw4076537642260695322:Unit:=()
def PySem.W.Fast.tw1063270313608799448:Unit:=()
def PySem.W.Fast.tw1093046511970788662:Unit:=()
def PySem.W.Fast.tw2003406180773782117:Unit:=()
def PySem.W.Fast.tw11398217133161232370:Unit:=()
def PySem.W.Fast.tw13649483771311662103:Unit:=()
def PySem.W.Fast.tw592755223146352645:Unit:=()
def PySem.W.Fast.tw1887046132363977498:Unit:=()
def PySem.W.Fast.tw2853380060019452634:Unit:=()
def PySem.W.Fast.tw4082798227662458951:Unit:=()
def PySem.W.Fast.tw2733237832782542292:Unit:=()
open PySem PySem.W PyProof.Rows
set_option maxRecDepth 100000 in
set_option maxHeartbeats 0 in
theorem PySem.Challenge.cw_netsieve_k30_whole_shrunk_holds : PySem.Challenge.rw_netsieve_k30_whole_shrunk.Holds := by
 w_on;o_law;k_head;(case hw=>w_witness2)
 k_fill
 refine M.DD (l:=PySem.Challenge.rw_netsieve_k30_whole_shrunk) (k:=9) (x:="_law_script") (φ:=K30.CP) rfl rfl ⟨rfl,by decide,by decide⟩ (fun w h Y=>PySem.W.kIn_of Y) ?F (fun ns hl=>K30.law_true ns hl)
 case F =>
  intro w mg fa h KX G hmg;refine K30.finish hmg ?T;refine' K30.mkT KX G ?hJ ?qP ?ye ?yd ?nz ?fN ?bK ?ky ?yc ?tP ?tQ ?qR ?tR ?yf ?qQ ?yb ?jd ?wL ?wO ?vA ?vI ?rj ?rh ?rg ?rf ?re ?rb ?r9 ?r8 ?r6 ?qZ ?nU ?nS ?nR ?nQ ?nP ?wN ?wM ?vz ?lI ?wP ?vB ?JQ ?IK ?wK ?vw ?lJ ?lv ?lH ?ls ?wJ ?om ?nO ?oh ?nN ?c8 ?bJ ?bV ?rC ?lu ?lD ?lw ?ln ?iV ?jA ?gW ?gU ?gT ?jz ?gS ?jy ?jx ?ig ?ic ?ib ?ip ?im ?il ?bC ?jw ?jv ?ju ?jt ?bZ ?lj ?lh ?lf ?lc ?cy ?cf ?cb ?bF ?cz ?cx ?e9 ?e7 ?eh ?e8 ?dB ?dA ?dz ?wx ?Dc ?d_k ?Mm ?wu ?ww ?gr ?gw ?fF ?i6 ?cW ?i5 ?cV ?fe ?i7 ?eE ?cw ?mQ ?fE ?i9 ?fc ?mR ?dS ?eD ?gu ?j9 ?mO ?pV ?pS ?pR ?pW ?fG ?mP ?gq ?dR ?ja ?i4 ?cF ?gp ?i8 ?gn ?kK ?gx ?ia ?kM ?pT ?j8 ?pU ?pX ?wv ?Db ?Dd
  (case hJ=>k_is);(case qP=>k_is);(case ye=>k_is);(case yd=>k_is)
  (case nz=>k_is);(case fN=>k_is);(case bK=>k_is);(case ky=>k_is)
  (case yc=>k_is);(case tP=>k_is);(case tQ=>k_is);(case qR=>k_is)
  (case tR=>k_is);(case yf=>k_is);(case qQ=>k_is);(case yb=>k_is)
  (case jd=>k_is);(case wL=>k_is);(case wO=>k_is);(case vA=>k_is)
  (case vI=>rfl);(case rj=>k_is);(case rh=>k_is);(case rg=>k_is)
  (case rf=>k_is);(case re=>k_is);(case rb=>k_is);(case r9=>k_is)
  (case r8=>k_is);(case r6=>k_is);(case qZ=>k_is);(case nU=>k_is)
  (case nS=>k_is);(case nR=>k_is);(case nQ=>k_is);(case nP=>k_is)
  (case wN=>k_is);(case wM=>k_is);(case vz=>k_is);(case lI=>k_is)
  (case wP=>k_is);(case vB=>k_is);(case JQ=>k_is);(case IK=>k_is)
  (case wK=>k_is);(case vw=>k_is);(case lJ=>k_is);(case lv=>k_is)
  (case lH=>k_is);(case ls=>k_is);(case wJ=>k_is);(case om=>k_is)
  (case nO=>k_is);(case oh=>k_is);(case nN=>k_is);(case c8=>k_is)
  (case bJ=>k_is);(case bV=>k_is);(case rC=>k_is);(case lu=>k_is)
  (case lD=>k_is);(case lw=>k_is);(case ln=>kernel_rfl);(case iV=>kernel_rfl)
  (case jA=>k_is);(case gW=>k_is);(case gU=>k_is);(case gT=>k_is)
  (case jz=>k_is);(case gS=>k_is);(case jy=>k_is);(case jx=>k_is)
  (case ig=>k_is);(case ic=>k_is);(case ib=>k_is);(case ip=>k_is)
  (case im=>kernel_rfl);(case il=>k_is);(case bC=>k_is);(case jw=>k_is)
  (case jv=>k_is);(case ju=>k_is);(case jt=>k_is);(case bZ=>kernel_rfl)
  (case lj=>kernel_rfl);(case lh=>k_is);(case lf=>k_is);(case lc=>k_is)
  (case cy=>k_is);(case cf=>k_is);(case cb=>k_is);(case bF=>k_is)
  (case cz=>k_is);(case cx=>k_is);(case e9=>k_is);(case e7=>k_is)
  (case eh=>k_is);(case e8=>k_is);(case dB=>k_is);(case dA=>k_is)
  (case dz=>k_is)
  all_goals walk_at "dm"
