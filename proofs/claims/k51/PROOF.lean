import PyProof.Rows.All
import Wide.All
import OpenK.AllK
import Wide.FinOn
import Lean
import PyProof.EqAt
import PyProof.EqKinds
import PyProof.TupleCall
import PyProof.Rows.StrLawsPart
import PyProof.Rows.SortStr
import PyProof.Rows.SortWalk
import PyProof.Rows.SortRuns
import PyProof.Rows.SortShell
import KE.KItemsList
import KE.KDictList
import KE.KDictOf
import PyProof.DictUpdate
import PyProof.WalksMore
import PyProof.AttrMiss
import PyProof.IsiH_tuple
import PyProof.EqAt
import PyProof.EqKinds
import PyProof.Rows.Range3
import KE.KIntText
import PyProof.StrCalls
import PyProof.StrBlock2
import PyProof.Rows.StrNews
import PyProof.StrLawsTight
import PyProof.Rows.StrSplitAre
import KE.KxLen
import PyProof.Rows.StrMul
import PyProof.Rows.StrJoinMade
import PyProof.Rows.StrItems
import PyProof.CollectIter
import PyProof.JoinWalk
import PyProof.ListStr
import PyProof.Rows.StrJoinRep
import KE.KRevIter
import PyProof.Rows.Tup
import PyProof.WalkInts
import PyProof.StrOps
import PyProof.EnumMake
import PyProof.Draws
import PyProof.Rows.CallKwBuiltin
import PyProof.MinMaxWalk
import KE.KEqDict
import PyProof.TupleCall
import PyProof.TupleOfStr
import PyProof.RangeFor
import PyProof.ListRange
import KE.RegMulBits
import PyProof.CollectStr
import PyProof.Rows.SeqMore
import PyProof.Rows.TupDisplay
import PyProof.ListMulRoad
import PyProof.IsiH_list
import PyProof.SetNew
import PyProof.SetRoads
import PyProof.Rows.StrClose3
import PySem.Challenge.RW_blotsure_k51_begins
abbrev Qb:=@PySem.wpAny_bind
abbrev Qr:=@List.length_map
abbrev Za:=@PySem.wpAny_pure
abbrev Zb:=@PySem.Heap.get?_push_of_some
abbrev Zc:=@List.getElem?_eq_getElem
abbrev Zd:=@List.getElem?_map
abbrev Ze:=@Bool.false_eq_true
abbrev Zf:=@List.mem_singleton
abbrev Zg:=@List.mem_map
abbrev Zh:=@Nat.le_refl
abbrev Zi:=@Array.getElem?_eq_getElem
abbrev Zj:=@List.mem_of_getElem?
abbrev Zk:=@PySem.Heap.lt_size
abbrev Zl:=@Bool.false_ne_true
abbrev Zm:=@PySem.Heap.get?_push_size
abbrev Zn:=@List.length_append
abbrev Zo:=@PyProof.Rows.wpS_bind
abbrev Zp:=@decide_eq_false
abbrev Zq:=@List.mem_cons_self
abbrev Zr:=@List.map_cons
abbrev Zs:=@List.mem_cons_of_mem
abbrev Zt:=@PyProof.Rows.wpS_pure
abbrev Zu:=@List.mem_cons
abbrev Zv:=@List.eq_nil_of_length_eq_zero
abbrev Zw:=@List.map_append
abbrev Zx:=@List.getD_eq_getElem?_getD
abbrev Zy:=@List.map_map
abbrev Zz:=@Nat.lt_of_lt_of_le
abbrev Ya:=@List.size_toArray
abbrev Yb:=@Int.toNat_natCast
abbrev Yc:=@List.mem_append
abbrev Yd:=@Array.length_toList
abbrev Ye:=@List.append_assoc
abbrev Yf:=@List.length_take
abbrev Yg:=@Nat.lt_of_le_of_lt
abbrev Yh:=@Nat.ne_of_lt
abbrev Yi:=@List.mem_append_right
abbrev Yj:=@List.pairwise_append
abbrev Yk:=@Nat.le_trans
abbrev Yl:=@Bool.not_true
abbrev Ym:=@decide_eq_true
abbrev Yn:=@Option.map_eq_some_iff
abbrev Yo:=@List.forIn_cons
abbrev Yp:=@Nat.zero_le
abbrev Yq:=@List.exists_cons_of_length_pos
abbrev Yr:=@Array.getElem?_toList
abbrev Ys:=@List.length_range
abbrev Yt:=@Option.some.inj
abbrev Yu:=@Array.getD_eq_getD_getElem?
abbrev Yv:=@List.length_cons
abbrev Yw:=@of_decide_eq_false
abbrev Yx:=@List.append_nil
abbrev Yy:=@PySem.wpAny_call_entry
abbrev Yz:=@List.take_add_one
abbrev Xa:=@List.getElem?_eq_some_iff
abbrev Xb:=@List.not_mem_nil
abbrev Xc:=@PySem.wpAny_newObj_type
abbrev Xd:=@List.take_of_length_le
abbrev Xe:=@List.mem_range
abbrev Xf:=@List.mem_append_left
abbrev Xg:=@if_false
abbrev Xh:=@List.getElem_mem
abbrev Xi:=@List.getElem?_eq_none
abbrev Xj:=@PySem.PassesOwn.never
abbrev Xk:=@bne_self_eq_false
abbrev Xl:=@PySem.Obj.data_mapFields
abbrev Xm:=@PySem.wpAny_isInstance
abbrev Xn:=@List.nodup_cons
abbrev Xo:=@PySem.Heap.SameBut.update
abbrev Xp:=@PySem.wpAny_holding
abbrev Xq:=@Nat.le_of_lt
abbrev Xr:=@congrArg
abbrev Xs:=@List.length_drop
abbrev Xt:=@List.getElem?_toArray
abbrev Xu:=@PySem.wpAny_seqItems
abbrev Xv:=@Array.getElem?_eq_none
abbrev Xw:=@PySem.Around.under_plainId
abbrev Xx:=@PySem.Heap.get?_update_self
abbrev Xy:=@PyProof.Rows.wpS_forRange
abbrev Xz:=@PySem.wpAny_mono
abbrev Wa:=@of_decide_eq_true
abbrev Wb:=@PySem.wpAny_rule
abbrev Wc:=@PyProof.Rows.callWith_type1
abbrev Wd:=@PySem.sizeLine_eq
abbrev We:=@List.length_singleton
abbrev Wg:=@Array.perm_iff_toList_perm
abbrev Wh:=@PySem.F.plainAttrs_list
abbrev Wi:=@PySem.wpAny_setState_of
abbrev Wj:=@List.mem_or_eq_of_mem_set
abbrev Wl:=@List.mem_filterMap
abbrev Wm:=@Nat.pos_of_ne_zero
abbrev Wn:=@PySem.wpAny_specialOf
abbrev Wo:=@PySem.codeAny_builtin
abbrev Wp:=@List.take_length
abbrev Wq:=@PySem.F.slot_list_append
abbrev Wr:=@PySem.F.type_list_append
abbrev Ws:=@List.take_append_drop
abbrev Wt:=@PySem.isSubtype_tuple_tuple
abbrev Wu:=@PySem.W.mg_none_of
abbrev Wv:=@List.getElem?_append_right
abbrev Ww:=@Array.forIn_toList
abbrev Wx:=@Array.getElem?_eq_some_iff
abbrev Wy:=@Int.emod_lt_of_pos
set_option Elab.async false
set_option linter.all false
set_option maxRecDepth 100000
set_option maxHeartbeats 4000000
local macro_rules | `(tactic| rfl') => `(tactic| first | lia | omega)
local macro_rules | `(tactic| walk_at "m") => `(tactic| first | (with_reducible first | assumption | exact Zh _ | exact Yp _ | exact Xq (by assumption) | exact Yk (by assumption) (by decide) | exact Yg (by assumption) (by decide) | exact Zz (by assumption) (by assumption) | exact Yg (by assumption) (by assumption) | exact Yk (by assumption) (by assumption) | exact Int.natCast_nonneg _ | exact Nat.lt_succ_of_lt (by assumption)) | lia | omega)
namespace L2
open PySem PySem.Spec PyProof.Rows
noncomputable abbrev Key:=Sum Int Str
noncomputable def ie:Key->Value->Bool
 | .inl k,v=>Value.isInt k v
 | .inr x,v=>Value.isStrOf x v
noncomputable def QX (w:World):Key->Int
 | .inl k=>hashInt k
 | .inr x=>hashStr w x
theorem bA: ∀ {k:Key} {v:Value},ie k v=true->(∃i t,k=Sum.inl i/\v=Value.int i t)\/(∃x t,k=Sum.inr x/\v=Value.str x t)
 | .inl i,v,h=>by
  obtain ⟨t,e⟩:=Value.isInt_shape (k:=i) (v:=v) h
  exact .inl ⟨i,t,rfl,e⟩
 | .inr x,v,h=>by
  obtain ⟨t,e⟩:=Value.isStrOf_shape (x:=x) (v:=v) h
  exact .inr ⟨x,t,rfl,e⟩
theorem vo (i:Int) (t:Tok):ie (.inl i) (.int i t)=true:=by simp [ie,Value.isInt]
theorem lH (x:Str) (t:Tok):ie (.inr x) (.str x t)=true:=by simp [ie,Value.isStrOf]
theorem Iz (a b:Int):decide ((Sum.inl a:Key)=Sum.inl b)=(a==b):=by
 by_cases e:a=b
 ·subst e;simp
 ·have h: ¬ (Sum.inl a:Key)=Sum.inl b:=fun q=>e (Sum.inl.inj q)
  rw [Zp h]
  exact (beq_eq_false_iff_ne.mpr e).symm
theorem IK (a b:Str):decide ((Sum.inr a:Key)=Sum.inr b)=decide (a=b):=by
 by_cases e:a=b
 ·subst e;simp
 ·have h: ¬ (Sum.inr a:Key)=Sum.inr b:=fun q=>e (Sum.inr.inj q)
  rw [Zp h,Zp e]
theorem IV (a:Int) (b:Str):decide ((Sum.inl a:Key)=Sum.inr b)=false:=Zp (fun q=>nomatch q)
theorem IW (a:Str) (b:Int):decide ((Sum.inr a:Key)=Sum.inl b)=false:=Zp (fun q=>nomatch q)
noncomputable def bF (prog:Program) (w:World):PySem.KeyKind prog w Key where
 is:=ie
 hash:=QX w
 inj:=fun v a b ha hb=>by
  rcases bA ha with ⟨i,t,rfl,rfl⟩ | ⟨x,t,rfl,rfl⟩
  ·rcases bA hb with ⟨j,u,rfl,e⟩ | ⟨y,u,rfl,e⟩
   ·injection e with e1 _;rw [e1]
   ·exact nomatch e
  ·rcases bA hb with ⟨j,u,rfl,e⟩ | ⟨y,u,rfl,e⟩
   ·exact nomatch e
   ·injection e with e1 _;rw [e1]
 byValue:=fun k v h=>by
  rcases bA h with ⟨i,t,rfl,rfl⟩ | ⟨x,t,rfl,rfl⟩<;>rfl
 pyHash:=fun hv h=>by
  rcases bA hv with ⟨i,t,rfl,rfl⟩ | ⟨x,t,rfl,rfl⟩
  ·exact wpAny_pyHash_int h
  ·exact wpAny_pyHash_str h
 eqBool:=fun hu hv h=>by
  rcases bA hu with ⟨i,t,rfl,rfl⟩ | ⟨x,t,rfl,rfl⟩
  ·rcases bA hv with ⟨j,u,rfl,rfl⟩ | ⟨y,u,rfl,rfl⟩
   ·rw [Iz] at h;exact wpAny_eqBool_int h
   ·rw [IV] at h;exact SeqAt.EqAt.int_str i t y u _ _ _ _ h
  ·rcases bA hv with ⟨j,u,rfl,rfl⟩ | ⟨y,u,rfl,rfl⟩
   ·rw [IW] at h;exact SeqAt.EqAt.str_int x t j u _ _ _ _ h
   ·rw [IK] at h;exact wpAny_eqBool_str h
 «strs»:=fun k x t v h=>by
  rcases bA h with ⟨i,u,rfl,e⟩ | ⟨y,u,rfl,e⟩
  ·exact nomatch e
  ·injection e with e1 _
   subst e1
   cases v<;>rfl
theorem qH (prog:Program) (w:World) (k:Key) (v:Value):(bF prog w).is k v=ie k v:=rfl
theorem oK (prog:Program) (w:World) (i:Int) (t:Tok):(bF prog w).is (.inl i) (.int i t)=true:=vo i t
theorem oM (prog:Program) (w:World) (x:Str) (t:Tok):(bF prog w).is (.inr x) (.str x t)=true:=lH x t
inductive V where
 | non | bl (b:Bool) | int (i:Int) | str (x:Str) | byt (b:Array UInt8) | flt (b:UInt64) | ref (a:Addr) | ty (n:String)
 deriving DecidableEq
noncomputable def RelV:V->Value->Prop
 | .non,u=>u=Value.none
 | .bl b,u=>u=Value.bool b
 | .int i,u=> ∃t,u=Value.int i t
 | .str x,u=> ∃t,u=Value.str x t
 | .byt b,u=> ∃t,u=Value.bytes b t
 | .flt b,u=> ∃t,u=Value.float b t
 | .ref a,u=>u=Value.ref a
 | .ty n,u=>u=Value.type n
noncomputable abbrev Vals:List V->List Value->Prop:=Paired RelV
theorem Vals.length {xs:List V} {us:List Value} (r:Vals xs us):xs.length=us.length:=Paired.length r
theorem Vals.get: ∀ {xs:List V} {us:List Value} {i:Nat} {x:V},Vals xs us->xs[i]? =some x-> ∃u,us[i]? =some u/\RelV x u
 | _,_,_,_, .nil,e=>by simp at e
 | _,_,0,_, .cons r _,e=>by simp at e;subst e;exact ⟨_,rfl,r⟩
 | _,_,i+1,x, .cons _ t,e=>by
  obtain ⟨u,h1,h2⟩:=Vals.get (i:=i) (x:=x) t (by simpa using e)
  exact ⟨u,by simpa using h1,h2⟩
theorem Vals.set {x:V} {u:Value} (r:RelV x u): ∀ {xs:List V} {us:List Value} (i:Nat),Vals xs us->Vals (xs.set i x) (us.set i u)
 | _,_,_, .nil=> .nil
 | _,_,0, .cons _ t=> .cons r t
 | _,_,i+1, .cons q t=> .cons q (Vals.set r i t)
theorem Vals.append: ∀ {xs ys:List V} {us ws:List Value},Vals xs us->Vals ys ws->Vals (xs++ys) (us++ws)
 | _,_,_,_, .nil,s=>s
 | _,_,_,_, .cons r t,s=> .cons r (Vals.append t s)
theorem Vals.take: ∀ {xs:List V} {us:List Value} (n:Nat),Vals xs us->Vals (xs.take n) (us.take n)
 | _,_,0,_=> .nil
 | _,_,_+1, .nil=> .nil
 | _,_,n+1, .cons r t=> .cons r (Vals.take n t)
theorem Vals.drop: ∀ {xs:List V} {us:List Value} (n:Nat),Vals xs us->Vals (xs.drop n) (us.drop n)
 | _,_,0,r=>r
 | _,_,_+1, .nil=> .nil
 | _,_,n+1, .cons _ t=>Vals.drop n t
noncomputable def RelO:Option V->Option Value->Prop
 | some v,some u=>RelV v u
 | none,none=>True
 | _,_=>False
noncomputable def KV {κ:Type}:List (κ×V)->List (κ×Value)->Prop:=Paired fun (p:κ×V) (q:κ×Value)=>p.1=q.1/\RelV p.2 q.2
noncomputable def kV:Key->V
 | .inl i=> .int i
 | .inr x=> .str x
inductive HO where
 | lst (xs:List V)
 | tup (xs:List V)
 | dK (kvs:List (Key×V)) | dT (kvs:List (List Key×V))
 | set (S:Int->Bool) (n:Nat)
 | ins (C dx:Addr) (fs:List (Str×V))
 | own (x:Addr)
 | xd (fs:List (Str×V))
 | met (f x:Addr)
 | rng (lo hi:Int)
 | frz (o:Obj) (u:HO)
 | tbl (ps:Array Value)
 | ext (φ:Heap->Prop)
noncomputable abbrev Hp:=Addr->Option HO
noncomputable def upd (H:Hp) (a:Addr) (o:HO):Hp:=fun b=>if b=a then some o else H b
theorem au {H:Hp} {a:Addr} {o:HO}:upd H a o a=some o:=by unfold upd;rw [if_pos rfl]
theorem aF {H:Hp} {a b:Addr} {o:HO} (h:b≠a):upd H a o b=H b:=by unfold upd;rw [if_neg h]
theorem cO {H:Hp} {a b:Addr} {o u:HO} (h:H a=some o) (h':H b=some u) (d:o≠u):a≠b:=by
 intro e;subst e;rw [h] at h';exact d (Yt h')
theorem aR {H:Hp} {a b:Addr} {o:HO} (h:H a=some o) (h':H b=none):a≠b:=by
 intro e;subst e;rw [h] at h';cases h'
section
variable (P:Program) (w:World)
noncomputable def ObjOk (H:Hp) (h:Heap) (a:Addr):HO->Prop
 | .lst xs=>xs.length<=sizeLine/\ ∃ (its:List Value) (n:Nat),Vals xs its/\h.get? a=some { cls:= .type "list",data:= .seq its.toArray n }
 | .tup xs=>xs.length<=sizeLine/\ ∃its:List Value,Vals xs its/\IsTup h a its.toArray
 | .dK kvs=>kvs.length<=sizeLine/\(a==sysModules)=false/\ ∃vs,KV kvs vs/\h.DictOf (bF P w) a vs
 | .dT kvs=>kvs.length<=sizeLine/\(a==sysModules)=false/\ ∃xs:List (List Key×Addr×Value),
   Paired (fun (p:List Key×V) (q:List Key×Addr×Value)=>p.1=q.1/\H q.2.1=some (.tup (p.1.map kV))/\RelV p.2 q.2.2) kvs xs/\
   ∃o es ep,h.get? a=some o/\o.ExactDict/\o.data= .dict es ep/\es.toList=xs.map (entryOfKey (tupleKind (bF P w)))/\(xs.map (·.1)).Nodup
 | .set S n=>h.SetOf (intKind P w) a S n
 | .ins C dx fs=>H dx=some (.own a)/\fs.length<=1000/\dx≠a/\h.get? a=some (PySem.W.instObj C dx)/\
   ∃mA,h.Ns1 dx mA/\(∀f,RelO (fs.lookup f) (mA f))/\PySem.Within mA (fs.map (·.1))
 | .own _=> ∃o,h.get? a=some o
 | .xd fs=> ∃mA,h.Ns1 a mA/\ ∀f,RelO (fs.lookup f) (mA f)
 | .rng lo hi=> ∃t u v,h.get? a=some { cls:= .type "range",data:= .fields #[.int lo t, .int hi u, .int 1 v] }
 | .frz o u=>h.get? a=some o/\ObjOk H h a u
 | .tbl ps=>h.get? a=some { cls:= .none,data:= .fields ps }
 | .met f x=>h.get? a=some (PySem.W.methodObj (.ref f) (.ref x))
 | .ext φ=>φ h/\(∃o,h.get? a=some o)/\ ∀h1 h2:Heap,φ h1->(∀o,h1.get? a=some o->h2.get? a=some o)->φ h2
noncomputable def HOk (H:Hp) (h:Heap):Prop:= ∀a o,H a=some o->ObjOk P w H h a o
end
section
variable {P:Program} {w:World} {H H':Hp} {h h':Heap} {a:Addr} {o:HO}
theorem ObjOk.lt (x:ObjOk P w H h a o):a<h.objs.size:=by
 cases o with
 | lst xs=>obtain ⟨_,_,_,_,e⟩:=x;exact Zk e
 | tup xs=>obtain ⟨_,_,_,p⟩:=x;exact p.lt
 | dK kvs=>obtain ⟨_,_,_,_,o,_,_,e,_⟩:=x;exact Zk e
 | dT kvs=>obtain ⟨_,_,_,_,o,_,_,e,_⟩:=x;exact Zk e
 | set S n=>obtain ⟨o,_,_,_,e,_⟩:=x;exact Zk e
 | ins C dx fs=>obtain ⟨_,_,_,e,_⟩:=x;exact Zk e
 | own y=>obtain ⟨_,e⟩:=x;exact Zk e
 | xd fs=>obtain ⟨_,⟨_,_,_,e,_⟩,_⟩:=x;exact Zk e
 | rng lo hi=>obtain ⟨_,_,_,e⟩:=x;exact Zk e
 | frz ob u=>obtain ⟨e,_⟩:=x;exact Zk e
 | tbl ps=>exact Zk (show h.get? a=some _ from x)
 | met f y=>exact Zk (show h.get? a=some _ from x)
 | ext φ=>obtain ⟨_,⟨_,e⟩,_⟩:=x;exact Zk e
theorem Paired.mapP {α β:Type} {F G:α->β->Prop}: ∀ {l₁:List α} {l₂:List β},Paired F l₁ l₂->(∀a b,F a b->G a b)->Paired G l₁ l₂
 | _,_, .nil,_=> .nil
 | _,_, .cons r t,f=> .cons (f _ _ r) (Paired.mapP t f)
theorem ObjOk.stay (x:ObjOk P w H h a o) (k: ∀b u,(b=a\/H b=some (.own a))->h.get? b=some u->h'.get? b=some u)
  (ho: ∀b,H b=some (.own a)->H' b=some (.own a)) (ht: ∀b xs,H b=some (.tup xs)->H' b=some (.tup xs)):ObjOk P w H' h' a o:=by
 induction o with
 | lst xs=>obtain ⟨z,its,n,r,e⟩:=x;exact ⟨z,its,n,r,k _ _ (.inl rfl) e⟩
 | tup xs=>obtain ⟨z,its,r,ob,e,c⟩:=x;exact ⟨z,its,r,ob,k _ _ (.inl rfl) e,c⟩
 | dK kvs=>obtain ⟨z,y,vs,r,ob,es,ep,e,c⟩:=x;exact ⟨z,y,vs,r,ob,es,ep,k _ _ (.inl rfl) e,c⟩
 | dT kvs=>
  obtain ⟨z,y,xs,r,ob,es,ep,e,c⟩:=x
  exact ⟨z,y,xs,Paired.mapP r fun p q z=>⟨z.1,ht _ _ z.2.1,z.2.2⟩,ob,es,ep,k _ _ (.inl rfl) e,c⟩
 | set S n=>obtain ⟨ob,es,ep,t,e,c⟩:=x;exact ⟨ob,es,ep,t,k _ _ (.inl rfl) e,c⟩
 | ins C dx fs=>
  obtain ⟨d,z,ne,e,mA,⟨od,es,ep,e2,c⟩,r⟩:=x
  exact ⟨ho _ d,z,ne,k _ _ (.inl rfl) e,mA,⟨od,es,ep,k _ _ (.inr d) e2,c⟩,r⟩
 | own y=>obtain ⟨ob,e⟩:=x;exact ⟨ob,k _ _ (.inl rfl) e⟩
 | xd fs=>obtain ⟨mA,⟨od,es,ep,e,c⟩,r⟩:=x;exact ⟨mA,⟨od,es,ep,k _ _ (.inl rfl) e,c⟩,r⟩
 | rng lo hi=>obtain ⟨t,u,v,e⟩:=x;exact ⟨t,u,v,k _ _ (.inl rfl) e⟩
 | frz ob u ih=>obtain ⟨e,q⟩:=x;exact ⟨k _ _ (.inl rfl) e,ih q⟩
 | tbl ps=>
  have e:h.get? a=some { cls:= .none,data:= .fields ps }:=x
  show h'.get? a=some { cls:= .none,data:= .fields ps }
  exact k a _ (.inl rfl) e
 | met f y=>
  have e:h.get? a=some (PySem.W.methodObj (.ref f) (.ref y)):=x
  show h'.get? a=some (PySem.W.methodObj (.ref f) (.ref y))
  exact k a _ (.inl rfl) e
 | ext φ=>obtain ⟨p,⟨o,e⟩,st⟩:=x;exact ⟨st _ _ p fun o q=>k _ _ (.inl rfl) q,⟨o,k _ _ (.inl rfl) e⟩,st⟩
theorem HOk.lt (x:HOk P w H h) (e:H a=some o):a<h.objs.size:=(x a o e).lt
theorem HOk.fresh (x:HOk P w H h) (e:h.objs.size<=a):H a=none:=by
 cases q:H a with
 | none=>rfl
 | some u=>exact absurd (Zz (x.lt q) e) (Nat.lt_irrefl _)
theorem HOk.kept (x:HOk P w H h) (k: ∀b u,h.get? b=some u->h'.get? b=some u):HOk P w H h':=fun a o e=>
 (x a o e).stay (fun b u _ q=>k b u q) (fun _ q=>q) fun _ _ q=>q
theorem HOk.laid (x:HOk P w H h) (k: ∀b u,h.get? b=some u->h'.get? b=some u) (hp:h.objs.size<=a) (new:ObjOk P w (upd H a o) h' a o):HOk P w (upd H a o) h':=fun b u e=>by
 have hn:=x.fresh hp
 by_cases hb:b=a
 ·subst hb;rw [au] at e;cases e;exact new
 ·rw [aF hb] at e
  exact (x b u e).stay (fun c v _ q=>k c v q) (fun c q=>by rw [aF (aR q hn)];exact q) fun c xs q=>by rw [aF (aR q hn)];exact q
end
noncomputable def Rd (H:Hp) (a:Addr) (u:HO):Prop:=H a=some u\/ ∃o,H a=some (.frz o u)
theorem Rd.ok {P:Program} {w:World} {H:Hp} {h:Heap} {a:Addr} {u:HO} (r:Rd H a u) (x:HOk P w H h):ObjOk P w H h a u:=by
 rcases r with r | ⟨o,r⟩
 ·exact x a u r
 ·obtain ⟨_,q⟩:=x a _ r
  exact q
noncomputable def Nj:Option HO->Prop
 | some (.lst _)=>True
 | some (.dK _)=>True
 | some (.dT _)=>True
 | some (.set _ _)=>True
 | some (.ins _ _ _)=>True
 | some (.ext _)=>True
 | _=>False
section
variable {P:Program} {w:World} {H:Hp} {h h':Heap} {x e:Addr} {o':HO}
theorem HOk.write (ok:HOk P w H h) (mu:Nj (H x)) (he:e=x\/H e=some (.own x)) (k: ∀b u,b≠e->h.get? b=some u->h'.get? b=some u) (heo: ∃u,h'.get? e=some u)
  (new:ObjOk P w (upd H x o') h' x o'):HOk P w (upd H x o') h':=fun b u q=>by
 have nown: ∀c y,H c=some (.own y)->c≠x:=fun c y r z=>by subst z;rw [r] at mu;exact mu
 have ntup: ∀c xs,H c=some (.tup xs)->c≠x:=fun c xs r z=>by subst z;rw [r] at mu;exact mu
 by_cases hb:b=x
 ·subst hb;rw [au] at q;cases q;exact new
 ·rw [aF hb] at q
  by_cases hbe:b=e
  ·have q':H b=some (.own x):=by
    rcases he with z | z
    ·exact absurd (hbe.trans z) hb
    ·rw [hbe];exact z
   rw [q] at q';cases q'
   obtain ⟨v,hv⟩:=heo
   exact ⟨v,by rw [hbe];exact hv⟩
  ·refine (ok b u q).stay (fun c v hc r=>k c v ?_ r) (fun c r=>by rw [aF (nown c b r)];exact r) fun c xs r=>by rw [aF (ntup c xs r)];exact r
   rcases hc with rfl | hc
   ·exact hbe
   ·rintro rfl
    rcases he with z | z
    ·exact nown c b hc z
    ·rw [hc] at z;cases z;exact hb rfl
end
structure Un (fs ex:List Addr) (H H':Hp) (h h':Heap):Prop where
 keep: ∀b o,h.get? b=some o->H b=none->b∉fs->b∉ex->h'.get? b=some o
 slot: ∀b o,h.get? b=some o->H b=none->b∈fs->b∉ex-> ∃sl,h'.get? b=some { o with slots:=sl }
 free: ∀b o,h.get? b=some o->H b=none->b∉ex->H' b=none
 there: ∀b o,h.get? b=some o->b∉ex-> ∃o',h'.get? b=some o'
 tups: ∀b xs,H b=some (.tup xs)->H' b=some (.tup xs)
 frzs: ∀b o u,H b=some (.frz o u)->H' b=some (.frz o u)
 tbls: ∀b ps,H b=some (.tbl ps)-> ∃more,H' b=some (.tbl (ps++more))
section
variable {fs fs' ex ex':List Addr} {H H1 H2:Hp} {h h1 h2 h':Heap} {a x e:Addr} {o:HO}
theorem Un.any (u:Un fs ex H H1 h h1) {b:Addr} {ob:Obj} (q:h.get? b=some ob) (n:H b=none) (hx:b∉ex): ∃sl,h1.get? b=some { ob with slots:=sl }:=by
 by_cases hb:b∈fs
 ·exact u.slot b ob q n hb hx
 ·exact ⟨ob.slots,u.keep b ob q n hb hx⟩
theorem Un.kept (k: ∀b u,h.get? b=some u->h'.get? b=some u):Un fs ex H H h h':=
 ⟨fun b ob q _ _ _=>k b ob q,fun b ob q _ _ _=>⟨ob.slots,k b ob q⟩,fun _ _ _ n _=>n,fun b ob q _=>⟨ob,k b ob q⟩,fun _ _ q=>q,fun _ _ _ q=>q,fun _ ps q=>⟨#[],by rw [q];simp⟩⟩
theorem Un.refl:Un fs ex H H h h:=Un.kept fun _ _ q=>q
theorem Un.laid (k: ∀b u,h.get? b=some u->h'.get? b=some u) (hp:h.objs.size<=a) (hn:H a=none):Un fs ex H (upd H a o) h h' where
 keep:=fun b u q _ _ _=>k b u q
 slot:=fun b u q _ _ _=>⟨u.slots,k b u q⟩
 free:=fun b u q n _=>by rw [aF (Yh (Zz (Zk q) hp))];exact n
 there:=fun b u q _=>⟨u,k b u q⟩
 tups:=fun b xs q=>by rw [aF (aR q hn)];exact q
 frzs:=fun b u xs q=>by rw [aF (aR q hn)];exact q
 tbls:=fun b ps q=>⟨#[],by rw [aF (aR q hn),q];simp⟩
theorem Un.write (mu:Nj (H x)) (he:e=x\/H e=some (.own x)) (k: ∀b u,b≠e->h.get? b=some u->h'.get? b=some u) (heo: ∃u,h'.get? e=some u):Un fs ex H (upd H x o) h h':=by
 have hx: ∀b,H b=none->b≠x:=fun b n z=>by subst z;rw [n] at mu;exact mu
 have hb: ∀b,H b=none->b≠e:=fun b n z=>by
  subst z
  rcases he with r | r
  ·exact hx b n r
  ·rw [n] at r;cases r
 have hm: ∀b u,H b=some u-> ¬Nj (some u)->b≠x:=fun b u q nm z=>by subst z;rw [q] at mu;exact nm mu
 refine ⟨fun b u q n _ _=>k b u (hb b n) q,fun b u q n _ _=>⟨u.slots,k b u (hb b n) q⟩,fun b u q n _=>by rw [aF (hx b n)];exact n,fun b u q _=> ?_,
  fun b xs q=>by rw [aF (hm b _ q fun z=>z)];exact q,fun b u xs q=>by rw [aF (hm b _ q fun z=>z)];exact q,fun b ps q=>⟨#[],by rw [aF (hm b _ q fun z=>z),q];simp⟩⟩
 by_cases hbe:b=e
 ·subst hbe;exact heo
 ·exact ⟨u,k b u hbe q⟩
end
noncomputable def QG (h:Heap) (H:Hp):List Addr:=(List.range h.objs.size).filter fun a=>(H a).isSome
noncomputable def mK (h:Heap) (H:Hp):Heap:=PySem.W.hideAll h (QG h H)
theorem vp (h:Heap) (H:Hp):(mK h H).objs.size=h.objs.size:=PySem.W.hideAll_size _ _
theorem wL {h:Heap} {H:Hp} {b:Addr} {o:Obj} (e:h.get? b=some o) (n:H b=none):(mK h H).get? b=some o:=
 PySem.W.hideAll_get _ e fun hm=>by
  have q:(H b).isSome=true:=(List.mem_filter.mp hm).2
  rw [n] at q;simp at q
theorem CZ {h:Heap} {H:Hp} {b:Addr} {o:Obj} (e:(mK h H).get? b=some o):h.get? b=some o/\H b=none:=by
 have e':h.get? b=some o:=PySem.W.of_hideAll (QG h H) e
 refine ⟨e',?_⟩
 cases q:H b with
 | none=>rfl
 | some x=>
  have hm:b∈QG h H:=List.mem_filter.mpr ⟨List.mem_range.mpr (Zk e'),by simp [q]⟩
  have z:(mK h H).get? b=none:=PySem.W.hideAll_none (QG h H) hm
  rw [z] at e;cases e
noncomputable def Dc (g h:Heap) (L:Addr):List (Addr×Obj):=(List.range h.objs.size).filterMap fun a=>if a=L\/(g.get? a).isSome=true then none else (h.get? a).map fun o=>(a,o)
noncomputable def rest (g h:Heap) (L d:Addr):List (Addr×Obj):=(Dc g h L).filter fun p=>decide (p.1≠d)
structure Mod (K:W.Frag) (mg:Str->Option Value) (base:Heap):Prop where
 kin:K.In base
 glob:base.Ns mainGlobals mg
 blt: ∃mb,base.Ns builtinsNs mb/\ ∀x:Str,x≠"__name__"->mb x=bootBuiltins x
 nolimit:base.NoLimit
structure Cx where
 prog:Program
 w:World
 K:W.Frag
 mg:Str->Option Value
 base:Heap
 A:Around
 N:List Str
 s₀:Shared
 H₀:Hp
 env:Env
 outer:List Env
 stack:List Env
 ex:List Addr
 fn:Str->Bool
 calm:Bool
 pn:List (Addr×Obj)
 xe:Value->Shared->Prop
noncomputable def frs (l:List Env):List Addr:=l.filterMap (·.frame)
noncomputable abbrev Cx.fs (X:Cx):List Addr:=frs X.outer
noncomputable def QH (sc:Scope) (x:Str):Prop:=sc.names.lookup x=some .local\/sc.names.lookup x=some .cell\/sc.names.lookup x=some .free
noncomputable def Loc (sc:Scope) (x:Str):Prop:=sc.names.lookup x=some .local\/sc.names.lookup x=some .cell
noncomputable def Look (env:Env) (h:Heap) (m:Str->Option Value) (x:Str) (u:Value):Prop:=
 (env.kindOf x=some .local/\m x=some u)\/((env.kindOf x=some .cell\/env.kindOf x=some .free)/\ ∃c,env.cells.lookup x=some c/\h.IsCell c (some u))
structure Cx.Ok (X:Cx):Prop where
 mod:Mod X.K X.mg X.base
 kind:X.env.scope.kind= .function
 glob:X.env.globals=mainGlobals
 blt:X.env.builtins=builtinsNs
 above:X.s₀.heap.objs.size<=X.env.locals
 inj: ∀x y c,X.env.cells.lookup x=some c->X.env.cells.lookup y=some c->x=y
 has: ∀x,(X.env.kindOf x=some .cell\/X.env.kindOf x=some .free)-> ∃c,X.env.cells.lookup x=some c
 cab: ∀x c,X.fn x=true->X.env.cells.lookup x=some c->X.s₀.heap.objs.size<=c
 hd:X.calm=true->X.A.handled=none
 frames:X.A.frames=some X.stack
 stk:X.stack=X.outer\/(X.stack=X.env::X.outer/\X.env.frame=some X.env.locals)
 exf: ∀b∈X.ex,b≠X.env.locals/\ ∀x c,X.env.cells.lookup x=some c->c≠b
 bs: ∀b o,X.base.get? b=some o->X.s₀.heap.get? b=some o/\X.H₀ b=none
 bsz:X.base.objs.size<=X.s₀.heap.objs.size
 noex: ∀b o,X.base.get? b=some o->b∉X.ex
 exfs: ∀b∈X.ex,b∉X.fs
 funs:X.s₀.heap.FunFrames X.base X.outer
 frf: ∀b∈X.fs,X.H₀ b=none
structure Inv (X:Cx) (pins:List (Addr×Obj)) (σ:List (Option V)) (H:Hp) (s:Shared):Prop where
 ok:X.Ok
 os:s.os=X.s₀.os
 bare:AllBare s.gens
 base:Un X.fs X.ex X.H₀ H X.s₀.heap s.heap
 loc: ∃m,s.heap.Ns X.env.locals m/\ ∀ (i:Nat) (x:Str) (v:V),X.N[i]? =some x->σ[i]? =some (some v)->QH X.env.scope x-> ∃u,RelV v u/\Look X.env s.heap m x u
 cell: ∀x c,X.env.cells.lookup x=some c-> ∃v,s.heap.IsCell c v
 free:H X.env.locals=none
 freeC: ∀x c,X.env.cells.lookup x=some c->H c=none
 pin: ∀p∈X.pn++pins,s.heap.get? p.1=some p.2/\H p.1=none/\p.1≠X.env.locals/\p.1∉X.fs/\ ∀v,p.2.data≠ .cell v
 hok:HOk X.prog X.w H s.heap
 len:σ.length=X.N.length
section
variable {X:Cx} {pins:List (Addr×Obj)} {σ:List (Option V)} {H H':Hp} {s:Shared} {h':Heap}
theorem Cx.Ok.nofr (ok:X.Ok) {b:Addr} {o:Obj} (e:X.base.get? b=some o):b∉X.fs:=fun hb=>by
 have:=(ok.funs.mem hb).1
 rw [e] at this;cases this
theorem Inv.bs (I:Inv X pins σ H s): ∀b o,X.base.get? b=some o->s.heap.get? b=some o/\H b=none:=fun b o e=>
 ⟨I.base.keep b o (I.ok.bs b o e).1 (I.ok.bs b o e).2 (I.ok.nofr e) (I.ok.noex b o e),I.base.free b o (I.ok.bs b o e).1 (I.ok.bs b o e).2 (I.ok.noex b o e)⟩
theorem Inv.bk (I:Inv X pins σ H s): ∀b o,X.base.get? b=some o->s.heap.get? b=some o:=fun b o e=>(I.bs b o e).1
theorem Inv.mod (I:Inv X pins σ H s):Mod X.K X.mg X.base:=I.ok.mod
theorem Inv.kIn (I:Inv X pins σ H s):X.K.In s.heap:=I.ok.mod.kin.keeps I.bk
theorem Inv.lt (I:Inv X pins σ H s):X.env.locals<s.heap.objs.size:=let ⟨_,hn,_⟩:=I.loc;hn.lt
theorem Inv.sz (I:Inv X pins σ H s):X.s₀.heap.objs.size<=s.heap.objs.size:=Yk I.ok.above (Xq I.lt)
theorem Inv.nofs (I:Inv X pins σ H s) {a:Addr} (h:s.heap.objs.size<=a):a∉X.fs:=fun hb=>by
 obtain ⟨_,o,ho,_⟩:=I.ok.funs.mem hb
 exact absurd (Zz (Zk ho) (Yk I.sz h)) (Nat.lt_irrefl _)
theorem Inv.cne (I:Inv X pins σ H s): ∀x c,X.env.cells.lookup x=some c->c≠X.env.locals:=fun x c e z=>by
 obtain ⟨v,o,ho,hd⟩:=I.cell x c e
 obtain ⟨m,⟨o',es,ep,ho',hd',_⟩,_⟩:=I.loc
 rw [z,ho'] at ho;cases ho;rw [hd'] at hd;cases hd
theorem Inv.funs (I:Inv X pins σ H s):s.heap.FunFrames X.base X.outer:=by
 have all: ∀ (l:List Env),(∀b∈frs l,b∈X.fs)->X.s₀.heap.FunFrames X.base l->s.heap.FunFrames X.base l:=by
  intro l
  induction l with
  | nil=>intro _ _;trivial
  | cons env r ih=>
   intro hs hl
   obtain ⟨hk,⟨L,o,hf,hn,ho,hd⟩,hr⟩:=hl
   have hL:L∈X.fs:=hs L (by unfold frs;rw [List.filterMap_cons,hf];exact Zq)
   obtain ⟨sl,e⟩:=I.base.slot L o ho (I.ok.frf L hL) hL fun z=>I.ok.exfs L z hL
   exact ⟨hk,⟨L,_,hf,hn,e,hd⟩,ih (fun b hb=>hs b (by unfold frs;rw [List.filterMap_cons,hf];exact Zs _ hb)) hr⟩
 exact all X.outer (fun _ hb=>hb) I.ok.funs
theorem Inv.stack (I:Inv X pins σ H s):s.heap.FunFrames X.base X.stack:=by
 rcases I.ok.stk with e | ⟨e,hf⟩
 ·rw [e];exact I.funs
 ·rw [e]
  obtain ⟨m,hn,_⟩:=I.loc
  refine .cons (by rw [I.ok.kind];decide) hf hn ?_ I.funs
  exact Heap.get?_none_of_le (Yk I.ok.bsz I.ok.above)
theorem Inv.stkSub (I:Inv X pins σ H s): ∀b∈frs X.stack,b∈X.env.locals::X.fs:=fun b hb=>by
 rcases I.ok.stk with e | ⟨e,hf⟩
 ·rw [e] at hb;exact Zs _ hb
 ·rw [e] at hb
  unfold frs at hb
  rw [List.filterMap_cons,hf] at hb
  exact hb
theorem Inv.stkFree (I:Inv X pins σ H s): ∀b∈frs X.stack,H b=none:=fun b hb=>by
 rcases Zu.mp (I.stkSub b hb) with e | hb
 ·rw [e];exact I.free
 ·obtain ⟨_,o,ho,_⟩:=I.ok.funs.mem hb
  exact I.base.free b o ho (I.ok.frf b hb) fun z=>I.ok.exfs b z hb
theorem Inv.step {g':Array GenState} {t':Nat} {d':Drawn} {ch:List Addr} (I:Inv X pins σ H s)
  (hch: ∀b∈ch,(b∈X.ex\/X.s₀.heap.objs.size<=b)/\b≠X.env.locals/\(∀x c,X.env.cells.lookup x=some c->c≠b)/\ ∀p∈X.pn++pins,p.1≠b)
  (keep: ∀b o,b≠X.env.locals->b∉X.fs->b∉ch->s.heap.get? b=some o->H b=none->h'.get? b=some o)
  (slot: ∀b o,b≠X.env.locals->b∈X.fs->b∉ch->s.heap.get? b=some o->H b=none-> ∃sl,h'.get? b=some { o with slots:=sl }) (free: ∀b o,b∉ch->s.heap.get? b=some o->H b=none->H' b=none)
  (there: ∀b o,b∉ch->s.heap.get? b=some o-> ∃o',h'.get? b=some o')
  (tups: ∀b xs,H b=some (.tup xs)->H' b=some (.tup xs)) (frzs: ∀b o u,H b=some (.frz o u)->H' b=some (.frz o u)) (tbls: ∀b ps,H b=some (.tbl ps)-> ∃more,H' b=some (.tbl (ps++more)))
  (ns: ∀m,s.heap.Ns X.env.locals m->h'.Ns X.env.locals m) (hok:HOk X.prog X.w H' h') (hg:AllBare g'):
  Inv X pins σ H' { s with heap:=h',gens:=g',drawn:=d',toks:=t' }:=by
 have neL: ∀b o,X.s₀.heap.get? b=some o->b≠X.env.locals:=fun b o e=>Yh (Zz (Zk e) I.ok.above)
 have neC: ∀b o,X.s₀.heap.get? b=some o->b∉X.ex->b∉ch:=fun b o e hx hb=>by
  rcases (hch b hb).1 with z | z
  ·exact hx z
  ·exact absurd (Zz (Zk e) z) (Nat.lt_irrefl _)
 have cellK: ∀x c,X.env.cells.lookup x=some c-> ∀v,s.heap.IsCell c v->h'.IsCell c v:=fun x c e v ⟨o,ho,hd⟩=>by
  have nch:c∉ch:=fun z=>(hch c z).2.2.1 x c e rfl
  by_cases hc:c∈X.fs
  ·obtain ⟨sl,q⟩:=slot c o (I.cne x c e) hc nch ho (I.freeC x c e)
   exact ⟨_,q,hd⟩
  ·exact ⟨o,keep c o (I.cne x c e) hc nch ho (I.freeC x c e),hd⟩
 refine ⟨I.ok,I.os,hg,⟨fun b o e n hb hx=> ?_,fun b o e n hb hx=> ?_,fun b o e n hx=> ?_,fun b o e hx=> ?_,fun b xs e=>tups b xs (I.base.tups b xs e),fun b o xs e=>frzs b o xs (I.base.frzs b o xs e),fun b ps e=> ?_⟩,?_,fun x c e=> ?_,?_,fun x c e=> ?_,fun p hp=> ?_,hok,I.len⟩
 ·exact keep b o (neL b o e) hb (neC b o e hx) (I.base.keep b o e n hb hx) (I.base.free b o e n hx)
 ·obtain ⟨sl,e1⟩:=I.base.slot b o e n hb hx
  obtain ⟨sl',e2⟩:=slot b _ (neL b o e) hb (neC b o e hx) e1 (I.base.free b o e n hx)
  exact ⟨sl',e2⟩
 ·obtain ⟨o',e1⟩:=I.base.there b o e hx
  exact free b o' (neC b o e hx) e1 (I.base.free b o e n hx)
 ·obtain ⟨o',e1⟩:=I.base.there b o e hx
  exact there b o' (neC b o e hx) e1
 ·obtain ⟨m1,e1⟩:=I.base.tbls b ps e
  obtain ⟨m2,e2⟩:=tbls b _ e1
  exact ⟨m1++m2,by rw [e2,Array.append_assoc]⟩
 ·obtain ⟨m,hn,hl⟩:=I.loc
  refine ⟨m,ns m hn,fun i x v e1 e2 e3=> ?_⟩
  obtain ⟨u,r,l⟩:=hl i x v e1 e2 e3
  refine ⟨u,r,?_⟩
  rcases l with l | ⟨k,c,e,z⟩
  ·exact .inl l
  ·exact .inr ⟨k,c,e,cellK x c e _ z⟩
 ·obtain ⟨v,z⟩:=I.cell x c e
  exact ⟨v,cellK x c e v z⟩
 ·obtain ⟨m,⟨o,_,_,ho,_⟩,_⟩:=I.loc
  exact free _ o (fun z=>(hch _ z).2.1 rfl) ho I.free
 ·obtain ⟨v,o,ho,hd⟩:=I.cell x c e
  exact free c o (fun z=>(hch c z).2.2.1 x c e rfl) ho (I.freeC x c e)
 ·obtain ⟨e,n,ne,nf,d⟩:=I.pin p hp
  have nch:p.1∉ch:=fun z=>(hch p.1 z).2.2.2 p hp rfl
  exact ⟨keep p.1 p.2 ne nf nch e n,free p.1 p.2 nch e n,ne,nf,d⟩
theorem Inv.un {t':Nat} (I:Inv X pins σ H s) (u:Un X.fs [] H H' s.heap h') (hok:HOk X.prog X.w H' h'):Inv X pins σ H' { s with heap:=h',toks:=t' }:=by
 obtain ⟨m,⟨o,es,ep,ho,r⟩,_⟩:=id I.loc
 obtain ⟨sl,hL⟩:=u.any ho I.free (by simp)
 exact I.step (g':=s.gens) (d':=s.drawn) (ch:=[]) (fun _ z=>nomatch z) (fun b o _ hb _ e n=>u.keep b o e n hb (by simp)) (fun b o _ hb _ e n=>u.slot b o e n hb (by simp)) (fun b o _ e n=>u.free b o e n (by simp)) (fun b o _ e=>u.there b o e (by simp)) u.tups u.frzs u.tbls (fun m' hm=>by
  obtain ⟨o',es',ep',ho',r'⟩:=hm
  rw [ho] at ho';cases ho'
  exact ⟨_,es',ep',hL,r'⟩) hok I.bare
theorem Inv.call {g':Array GenState} {t':Nat} {d':Drawn} {ch:List Addr} (I:Inv X pins σ H s) (u:Un (frs X.stack) ch H H' s.heap h') (hok:HOk X.prog X.w H' h') (hg:AllBare g')
  (hch: ∀b∈ch,(b∈X.ex\/X.s₀.heap.objs.size<=b)/\b≠X.env.locals/\(∀x c,X.env.cells.lookup x=some c->c≠b)/\ ∀p∈X.pn++pins,p.1≠b):
  Inv X pins σ H' { s with heap:=h',gens:=g',drawn:=d',toks:=t' }:=by
 obtain ⟨m,⟨o,es,ep,ho,r⟩,_⟩:=id I.loc
 obtain ⟨sl,hL⟩:=u.any ho I.free fun z=>(hch _ z).2.1 rfl
 exact I.step (ch:=ch) hch (fun b o hL hb hc e n=>u.keep b o e n (fun z=>(Zu.mp (I.stkSub b z)).elim hL hb) hc) (fun b o _ _ hc e n=>u.any e n hc) (fun b o hc e n=>u.free b o e n hc) (fun b o hc e=>u.there b o e hc) u.tups u.frzs u.tbls (fun m' hm=>by
  obtain ⟨o',es',ep',ho',r'⟩:=hm
  rw [ho] at ho';cases ho'
  exact ⟨_,es',ep',hL,r'⟩) hok hg
theorem Inv.turned {t':Nat} {it:Addr} (I:Inv X pins σ H s) (k: ∀b o,b≠it->s.heap.get? b=some o->h'.get? b=some o) (hn:H it=none) (hL:it≠X.env.locals)
  (h1:it∈X.ex\/X.s₀.heap.objs.size<=it) (h2: ∀x c,X.env.cells.lookup x=some c->c≠it) (h3: ∀p∈X.pn++pins,p.1≠it):Inv X pins σ H { s with heap:=h',toks:=t' }:=by
 have nit: ∀b u,H b=some u->b≠it:=fun b u e z=>by rw [z,hn] at e;cases e
 refine I.step (g':=s.gens) (d':=s.drawn) (ch:=[it]) (fun b hb=> ?_) (fun b o _ _ hc e _=>k b o (fun z=>hc (by simp [z])) e) (fun b o _ _ hc e _=>⟨o.slots,k b o (fun z=>hc (by simp [z])) e⟩) (fun _ _ _ _ n=>n)
  (fun b o hc e=>⟨o,k b o (fun z=>hc (by simp [z])) e⟩) (fun _ _ e=>e) (fun _ _ _ e=>e) (fun b ps e=>⟨#[],by rw [e];simp⟩) (fun m hm=> ?_) (fun b u e=> ?_) I.bare
 ·have e:b=it:=by simpa using hb
  subst e
  exact ⟨h1,hL,h2,h3⟩
 ·obtain ⟨o,es,ep,ho,r⟩:=hm
  exact ⟨o,es,ep,k _ o (Ne.symm hL) ho,r⟩
 ·refine (I.hok b u e).stay (fun c v hc q=>k c v ?_ q) (fun _ q=>q) fun _ _ q=>q
  rcases hc with z | z
  ·rw [z];exact nit b u e
  ·exact nit c _ z
theorem Inv.tok (I:Inv X pins σ H s) (t:Nat):Inv X pins σ H { s with toks:=t }:=I.un (h':=s.heap) (t':=t) Un.refl I.hok
theorem Inv.kept {t':Nat} (I:Inv X pins σ H s) (k: ∀b u,s.heap.get? b=some u->h'.get? b=some u):Inv X pins σ H { s with heap:=h',toks:=t' }:=I.un (Un.kept k) (I.hok.kept k)
theorem Inv.laid {a:Addr} {o:HO} {t':Nat} (I:Inv X pins σ H s) (k: ∀b u,s.heap.get? b=some u->h'.get? b=some u) (hp:s.heap.objs.size<=a) (new:ObjOk X.prog X.w (upd H a o) h' a o):
  Inv X pins σ (upd H a o) { s with heap:=h',toks:=t' }:=I.un (Un.laid k hp (I.hok.fresh hp)) (I.hok.laid k hp new)
theorem Inv.write {x e:Addr} {o:HO} {t':Nat} (I:Inv X pins σ H s) (mu:Nj (H x)) (he:e=x\/H e=some (.own x)) (k: ∀b u,b≠e->s.heap.get? b=some u->h'.get? b=some u) (heo: ∃u,h'.get? e=some u)
  (new:ObjOk X.prog X.w (upd H x o) h' x o):Inv X pins σ (upd H x o) { s with heap:=h',toks:=t' }:=I.un (Un.write mu he k heo) (I.hok.write mu he k heo new)
theorem Inv.weak {σ':List (Option V)} (I:Inv X pins σ H s) (hl:σ'.length=σ.length) (w: ∀ (i:Nat) v,σ'[i]? =some (some v)->σ[i]? =some (some v)):Inv X pins σ' H s:=
 ⟨I.ok,I.os,I.bare,I.base,let ⟨m,hn,hl'⟩:=I.loc;⟨m,hn,fun i x v e1 e2 e3=>hl' i x v e1 (w i v e2) e3⟩,I.cell,I.free,I.freeC,I.pin,I.hok,hl.trans I.len⟩
theorem Inv.pins_of {pins':List (Addr×Obj)} (I:Inv X pins σ H s) (h: ∀p∈pins',s.heap.get? p.1=some p.2/\H p.1=none/\p.1≠X.env.locals/\p.1∉X.fs/\ ∀v,p.2.data≠ .cell v):Inv X pins' σ H s:=
 ⟨I.ok,I.os,I.bare,I.base,I.loc,I.cell,I.free,I.freeC,fun p hp=>(Yc.mp hp).elim (fun z=>I.pin p (Xf _ z)) (h p),I.hok,I.len⟩
theorem oN {N:List Str} (hN:N.Nodup) {i j:Nat} {x:Str} (a:N[i]? =some x) (b:N[j]? =some x):i=j:=by
 obtain ⟨h1,e1⟩:=Xa.mp a
 obtain ⟨h2,e2⟩:=Xa.mp b
 exact (List.getElem_inj hN).mp (e1.trans e2.symm)
theorem lJ {M:Model} {A:Around} {E:Value->Shared->Prop} {i:Nat} {x:Str} {v:V} {u:Value} {Q:Unit->Shared->Prop} (I:Inv X pins σ H s) (hN:X.N.Nodup) (hi:X.N[i]? =some x) (hx:Loc X.env.scope x) (r:RelV v u)
  (h: ∀s',Inv X pins (σ.set i (some v)) H s'->(∃a,Heap.SameBut a s.heap s'.heap/\(a=X.env.locals\/X.env.cells.lookup x=some a))->Q () s') (hf:X.fn x=true\/X.env.scope.names.lookup x=some .local:=by first | exact .inl rfl | exact .inr rfl | assumption):wpAny M A (storeName X.env x u) Q E s:=by
 obtain ⟨m,hn,hl⟩:=id I.loc
 have hcls:(X.env.scope.kind== .class||(X.env.scope.kind== .module&&X.env.locals !=X.env.globals))=false:=by rw [I.ok.kind];rfl
 have hiσ:i<σ.length:=by rw [I.len];exact (Xa.mp hi).1
 have cne:=I.cne
 have tracked: ∀ {a:Addr} {h':Heap},(∃o,s.heap.get? a=some o/\H a=none)->Heap.SameBut a s.heap h'->HOk X.prog X.w H h':=fun {a h'} ha hs b ob e=>by
  obtain ⟨_,_,hfree⟩:=ha
  refine (I.hok b ob e).stay (fun c w' hc q=>(hs.2 c ?_).trans q) (fun _ q=>q) fun _ _ q=>q
  rintro rfl
  rcases hc with rfl | hc
  ·rw [hfree] at e;cases e
  ·rw [hfree] at hc;cases hc
 rcases hx with hk | hk
 ·refine wpAny_storeName_local hk hn (fun h' hn' hs=> ?_) hcls
  obtain ⟨oL,_,_,hoL,_⟩:=id hn
  refine h _ ⟨I.ok,I.os,I.bare,⟨fun b o e n hb hx=> ?_,fun b o e n hb hx=> ?_,I.base.free,fun b o e hx=> ?_,I.base.tups,I.base.frzs,I.base.tbls⟩,⟨_,hn',fun j y v' e1 e2 e3=> ?_⟩,fun y c e=> ?_,I.free,I.freeC,fun p hp=> ?_,tracked ⟨oL,hoL,I.free⟩ hs,by simpa using I.len⟩ ⟨_,hs, .inl rfl⟩
  ·exact (hs.2 b (Yh (Zz (Zk e) I.ok.above))).trans (I.base.keep b o e n hb hx)
  ·obtain ⟨sl,e1⟩:=I.base.slot b o e n hb hx
   exact ⟨sl,(hs.2 b (Yh (Zz (Zk e) I.ok.above))).trans e1⟩
  ·obtain ⟨o',e1⟩:=I.base.there b o e hx
   exact ⟨o',(hs.2 b (Yh (Zz (Zk e) I.ok.above))).trans e1⟩
  ·by_cases hj:j=i
   ·subst hj
    rw [hi] at e1;cases e1
    rw [List.getElem?_set_self hiσ] at e2
    cases e2
    exact ⟨u,r, .inl ⟨hk,by simp⟩⟩
   ·rw [List.getElem?_set_ne (Ne.symm hj)] at e2
    obtain ⟨u',r',q⟩:=hl j y v' e1 e2 e3
    refine ⟨u',r',?_⟩
    rcases q with ⟨k,e⟩ | ⟨k,c,e,z⟩
    ·refine .inl ⟨k,?_⟩
     have:y≠x:=fun e=>hj (oN hN e1 (e▸hi))
     simp [this,e]
    ·exact .inr ⟨k,c,e,z.sameBut hs (cne y c e)⟩
  ·obtain ⟨w',z⟩:=I.cell y c e
   exact ⟨w',z.sameBut hs (cne y c e)⟩
  ·obtain ⟨e,n,ne,nf,d⟩:=I.pin p hp
   exact ⟨(hs.2 p.1 ne).trans e,n,ne,nf,d⟩
 ·have hfn:X.fn x=true:=by
   rcases hf with z | z
   ·exact z
   ·rw [z] at hk;cases hk
  obtain ⟨c,hc⟩:=I.ok.has x (.inl hk)
  obtain ⟨w',z⟩:=I.cell x c hc
  refine wpAny_storeName_cell I.ok.kind hk hc z (fun h' hc' hs=> ?_)
  obtain ⟨oc,hoc,hocd⟩:=id z
  refine h { s with heap:=h' } ⟨I.ok,I.os,I.bare,⟨fun b o e n hb hx=> ?_,fun b o e n hb hx=> ?_,I.base.free,fun b o e hx=> ?_,I.base.tups,I.base.frzs,I.base.tbls⟩,⟨m,hn.sameBut hs (Ne.symm (cne x c hc)),fun j y v' e1 e2 e3=> ?_⟩,fun y c' e=> ?_,I.free,I.freeC,fun p hp=> ?_,tracked ⟨oc,hoc,I.freeC x c hc⟩ hs,by simpa using I.len⟩ ⟨c,hs, .inr hc⟩
  ·exact (hs.2 b (Yh (Zz (Zk e) (I.ok.cab x c hfn hc)))).trans (I.base.keep b o e n hb hx)
  ·obtain ⟨sl,e1⟩:=I.base.slot b o e n hb hx
   exact ⟨sl,(hs.2 b (Yh (Zz (Zk e) (I.ok.cab x c hfn hc)))).trans e1⟩
  ·obtain ⟨o',e1⟩:=I.base.there b o e hx
   exact ⟨o',(hs.2 b (Yh (Zz (Zk e) (I.ok.cab x c hfn hc)))).trans e1⟩
  ·by_cases hj:j=i
   ·subst hj
    rw [hi] at e1;cases e1
    rw [List.getElem?_set_self hiσ] at e2
    cases e2
    exact ⟨u,r, .inr ⟨.inl hk,c,hc,hc'⟩⟩
   ·rw [List.getElem?_set_ne (Ne.symm hj)] at e2
    obtain ⟨u',r',q⟩:=hl j y v' e1 e2 e3
    refine ⟨u',r',?_⟩
    rcases q with q | ⟨k,c',e,z'⟩
    ·exact .inl q
    ·refine .inr ⟨k,c',e,z'.sameBut hs ?_⟩
     rintro rfl
     exact hj (oN hN e1 (I.ok.inj _ _ _ e hc▸hi))
  ·by_cases hcc:c'=c
   ·subst hcc;exact ⟨_,hc'⟩
   ·obtain ⟨w2,z2⟩:=I.cell y c' e
    exact ⟨w2,z2.sameBut hs hcc⟩
  ·obtain ⟨e,n,ne,nf,d⟩:=I.pin p hp
   refine ⟨(hs.2 p.1 ?_).trans e,n,ne,nf,d⟩
   intro q
   rw [q,hoc] at e
   have q':oc=p.2:=Yt e
   exact d w' (by rw [<- q'];exact hocd)
theorem jo {M:Model} {A:Around} {E:Value->Shared->Prop} {i:Nat} {x:Str} {v:V} {u:Value} {Q:Unit->Shared->Prop} (I:Inv X pins σ H s) (hN:X.N.Nodup) (hi:X.N[i]? =some x) (hx:Loc X.env.scope x) (r:RelV v u)
  (h: ∀s',Inv X pins (σ.set i (some v)) H s'->Q () s') (hf:X.fn x=true\/X.env.scope.names.lookup x=some .local:=by first | exact .inl rfl | exact .inr rfl | assumption):wpAny M A (storeName X.env x u) Q E s:=
 lJ I hN hi hx r (fun s' I' _=>h s' I') hf
theorem Inv.call' {s':Shared} {ch:List Addr} (I:Inv X pins σ H s) (ho:s'.os=s.os) (u:Un (frs X.stack) ch H H' s.heap s'.heap) (hok:HOk X.prog X.w H' s'.heap) (hg:AllBare s'.gens)
  (hch: ∀b∈ch,(b∈X.ex\/X.s₀.heap.objs.size<=b)/\b≠X.env.locals/\(∀x c,X.env.cells.lookup x=some c->c≠b)/\ ∀p∈X.pn++pins,p.1≠b):Inv X pins σ H' s':=by
 obtain ⟨h',g',d',t',o'⟩:=s'
 have e:o'=s.os:=ho
 subst e
 exact I.call (g':=g') (t':=t') (d':=d') u hok hg hch
end
noncomputable abbrev XK:=Value->Option Addr->Hp->Prop
noncomputable abbrev St:=List (Option V)
noncomputable abbrev VK:=V->Hp->Prop
noncomputable abbrev TE:=St->Hp->VK->Prop
noncomputable abbrev TT:=St->Hp->(Bool->Hp->Prop)->Prop
noncomputable abbrev TA:=St->Hp->(List V->Hp->Prop)->Prop
structure Ends where
 nx:St->Hp->Prop
 rt:VK
 bk:St->Hp->Prop:=fun _ _=>False
 ct:St->Hp->Prop:=fun _ _=>False
noncomputable abbrev TS:=Ends->St->Hp->Prop
noncomputable def EP (X:Cx) (pins:List (Addr×Obj)) (σ:St) (Q:VK) (u:Value) (s':Shared):Prop:= ∃v H',Inv X pins σ H' s'/\RelV v u/\Q v H'
noncomputable def TP (X:Cx) (pins:List (Addr×Obj)) (σ:St) (Q:Bool->Hp->Prop) (b:Bool) (s':Shared):Prop:= ∃H',Inv X pins σ H' s'/\Q b H'
noncomputable def AP (X:Cx) (pins:List (Addr×Obj)) (σ:St) (Q:List V->Hp->Prop) (us:List Value) (s':Shared):Prop:= ∃vs H',Inv X pins σ H' s'/\Vals vs us/\Q vs H'
noncomputable def SP (X:Cx) (pins:List (Addr×Obj)) (D:Ends) (f:Flow) (s':Shared):Prop:=
 match f with
 | .next=> ∃σ' H',Inv X pins σ' H' s'/\D.nx σ' H'
 | .brk=> ∃σ' H',Inv X pins σ' H' s'/\D.bk σ' H'
 | .cont=> ∃σ' H',Inv X pins σ' H' s'/\D.ct σ' H'
 | .ret u=> ∃v σ' H',Inv X pins σ' H' s'/\RelV v u/\D.rt v H'
noncomputable def PE (X:Cx) (e:Expr) (t:TE):Prop:=
 ∀ (pins:List (Addr×Obj)) (s:Shared) (σ:St) (H:Hp) (Q:VK),Inv X pins σ H s->t σ H Q->wpAny (model X.prog X.w) X.A (eval e X.env) (EP X pins σ Q) X.xe s
noncomputable def PT (X:Cx) (e:Expr) (t:TT):Prop:=
 ∀ (pins:List (Addr×Obj)) (s:Shared) (σ:St) (H:Hp) (Q:Bool->Hp->Prop),Inv X pins σ H s->t σ H Q->wpAny (model X.prog X.w) X.A (isTrue e X.env (eval e X.env)) (TP X pins σ Q) X.xe s
noncomputable def PW (X:Cx) (e:Expr) (t:TT):Prop:=
 ∀ (whole:Sem Value) (pins:List (Addr×Obj)) (s:Shared) (σ:St) (H:Hp) (Q:Bool->Hp->Prop),Inv X pins σ H s->t σ H Q->wpAny (model X.prog X.w) X.A (isTrue e X.env whole) (TP X pins σ Q) X.xe s
theorem PW.pt {X:Cx} {e:Expr} {t:TT} (h:PW X e t):PT X e t:=h _
noncomputable def PA (X:Cx) (es:List Expr) (t:TA):Prop:=
 ∀ (pos:Pos) (pins:List (Addr×Obj)) (s:Shared) (σ:St) (H:Hp) (Q:List V->Hp->Prop),Inv X pins σ H s->t σ H Q->wpAny (model X.prog X.w) X.A (spliced (backTo pos (starEach es X.env))) (AP X pins σ Q) X.xe s
noncomputable def PS (X:Cx) (st:Stmt) (t:TS):Prop:=
 ∀ (pins:List (Addr×Obj)) (s:Shared) (σ:St) (H:Hp) (D:Ends),Inv X pins σ H s->t D σ H->wpAny (model X.prog X.w) X.A (exec st X.env) (SP X pins D) X.xe s
noncomputable def PSs (X:Cx) (st:List Stmt) (t:TS):Prop:=
 ∀ (pins:List (Addr×Obj)) (s:Shared) (σ:St) (H:Hp) (D:Ends),Inv X pins σ H s->t D σ H->wpAny (model X.prog X.w) X.A (execs st X.env) (SP X pins D) X.xe s
theorem bI {α:Type} {t:Sem α} {Q Q':α->Shared->Prop} {M:Model} {A:Around} {E:Value->Shared->Prop} {s:Shared} (h:wpAny M A t Q E s) (hQ: ∀a s,Q a s->Q' a s):wpAny M A t Q' E s:=Xz h hQ fun _ _ x=>x
section
variable {X:Cx}
noncomputable def ao (i:Nat):TE:=fun σ H Q=> ∃v,σ[i]? =some (some v)/\Q v H
noncomputable def tC (v:V):TE:=fun _ H Q=>Q v H
theorem J0 {i:Nat} {x:Str} {pos:Pos} (hN:X.N[i]? =some x) (hv:QH X.env.scope x) (hd:(x==("__debug__":Str))=false:=by decide) (hcd:(x==("__classdict__":Str))=false:=by decide):PE X (.Name x pos) (ao i):=by
 intro pins s σ H Q I h
 obtain ⟨v,e,h⟩:=h
 obtain ⟨m,hn,hl⟩:=I.loc
 obtain ⟨u,r,l⟩:=hl i x v hN e hv
 have fin:EP X pins σ Q u s:=⟨v,H,I,r,h⟩
 rcases l with ⟨hk,hm⟩ | ⟨hk,c,hc,hcell⟩
 ·exact wpAny_Name (wpAny_loadName_local I.ok.kind hk hn hm fin) hd
 ·rcases hk with hk | hk
  ·exact wpAny_Name (wpAny_loadName_cell I.ok.kind hk hc hcell fin) hd
  ·exact wpAny_Name (wpAny_loadName_free I.ok.kind hk hc hcell fin hcd) hd
theorem aA {i j pos}:PE X (.Constant (.int i) j pos) (tC (.int i)):=fun _ _ _ H _ I h=>wpAny_Constant_int ⟨.int i,H,I.tok _,⟨_,rfl⟩,h⟩
theorem oO {b j pos}:PE X (.Constant (.bool b) j pos) (tC (.bl b)):=fun _ _ _ H _ I h=>Constant_bool ⟨.bl b,H,I,rfl,h⟩
theorem qI {x j pos}:PE X (.Constant (.str x) j pos) (tC (.str x)):=fun _ _ _ H _ I h=>Calls.Constant_str ⟨.str x,H,I.tok _,⟨_,rfl⟩,h⟩
noncomputable def Gl (X:Cx) (x:Str):Prop:=X.env.kindOf x=some .globalImplicit
theorem De {E:Value->Shared->Prop} {pins:List (Addr×Obj)} {s:Shared} {σ:St} {H:Hp} {x:Str} {u:Value} {pos:Pos} {Q:Value->Shared->Prop} (I:Inv X pins σ H s) (hg:Gl X x) (hm:X.mg x=some u) (h:Q u s)
  (hd:(x==("__debug__":Str))=false:=by decide):wpAny (model X.prog X.w) X.A (eval (.Name x pos) X.env) Q E s:=
 Calls.Name_function_global I.ok.kind hg (Calls.loadGlobal_global (by rw [I.ok.glob];exact I.mod.glob.keeps I.bk) hm h) hd
theorem dW {E:Value->Shared->Prop} {pins:List (Addr×Obj)} {s:Shared} {σ:St} {H:Hp} {x:Str} {u:Value} {pos:Pos} {Q:Value->Shared->Prop} (I:Inv X pins σ H s) (hg:Gl X x) (hm:X.mg x=none) (hv:bootBuiltins x=some u) (h:Q u s)
  (hn:x≠"__name__":=by decide) (hd:(x==("__debug__":Str))=false:=by decide):wpAny (model X.prog X.w) X.A (eval (.Name x pos) X.env) Q E s:=by
 obtain ⟨mb,h1,h2⟩:=I.mod.blt
 exact Calls.Name_function_global I.ok.kind hg (Calls.loadGlobal_builtin (by rw [I.ok.glob];exact I.mod.glob.keeps I.bk) hm (by rw [I.ok.blt];exact h1.keeps I.bk) ((h2 x hn).trans hv) h) hd
theorem gn {x:Str} {v:V} {u:Value} {pos:Pos} (hg:Gl X x) (hm:X.mg x=none) (hv:bootBuiltins x=some u) (r:RelV v u) (hn:x≠"__name__":=by decide) (hd:(x==("__debug__":Str))=false:=by decide):PE X (.Name x pos) (tC v):=
 fun _ _ _ H _ I h=>dW I hg hm hv ⟨v,H,I,r,h⟩ hn hd
variable {a b:Expr} {ta tb:TE} {pos:Pos}
noncomputable def PC (X:Cx) (op:CmpOp) (a b:Expr) (t:TE):Prop:=
 ∀ (pins:List (Addr×Obj)) (s:Shared) (σ:St) (H:Hp) (Q:VK),Inv X pins σ H s->t σ H Q->
  wpAny (model X.prog X.w) X.A (eval a X.env) (fun v s₁=>wpAny (model X.prog X.w) X.A (eval b X.env) (fun u s₂=>wpAny (model X.prog X.w) X.A (compareOp op v u) (EP X pins σ Q) X.xe s₂) X.xe s₁) X.xe s
noncomputable def tB (t:TE):TT:=fun σ H Q=>t σ H fun x H1=> ∃c,x= .bl c/\Q c H1
theorem mL {op:CmpOp} {t:TE} (h:PC X op a b t) (h1:behindInMarks op b=false:=by first | exact nobehind _ (by decide) (by decide) | rfl):PT X (.Compare a [op] [b] pos) (tB t):=by
 intro pins s σ H Q I hw
 refine wpAny_isTrue_Compare1 (bI (h pins s σ H _ I hw) fun v s1 h1=>bI h1 fun u s2 h2=>bI h2 fun c s3 ⟨x,H1,I1,r1,q1⟩=> ?_) h1
 obtain ⟨d,rfl,q⟩:=q1
 cases r1
 exact wpAny_truthy_bool ⟨H1,I1,q⟩
variable {tA tB':TT} {rest:List Expr}
noncomputable def wM (t u:TT):TT:=fun σ H Q=>t σ H fun c H1=>if c=true then u σ H1 Q else Q false H1
noncomputable def J1 (t u:TT):TT:=fun σ H Q=>t σ H fun c H1=>if c=true then Q true H1 else u σ H1 Q
noncomputable def oR (t:TT):TT:=fun σ H Q=>t σ H fun c H1=>Q (!c) H1
theorem u5 (ha:PT X a tA):PW X (.BoolOp .And [a] pos) tA:=by
 intro wh pins s σ H Q I h
 refine isTrue_and (bI (ha pins s σ H Q I h) fun c s1 e=> ?_)
 cases c with
 | true=>exact isTrue_and_nil e
 | false=>exact e
theorem qJ (ha:PT X a tA):PW X (.BoolOp .Or [a] pos) tA:=by
 intro wh pins s σ H Q I h
 refine isTrue_or (bI (ha pins s σ H Q I h) fun c s1 e=> ?_)
 cases c with
 | false=>exact isTrue_or_nil e
 | true=>exact e
theorem wN (ha:PT X a tA) (hb:PW X (.BoolOp .And (b::rest) pos) tB'):PW X (.BoolOp .And (a::b::rest) pos) (wM tA tB'):=by
 intro wh pins s σ H Q I h
 refine isTrue_and (bI (ha pins s σ H _ I h) fun c s1 ⟨H1,I1,q1⟩=> ?_)
 cases c with
 | true=>exact hb wh pins s1 σ H1 Q I1 q1
 | false=>exact ⟨H1,I1,q1⟩
theorem oU (ha:PT X a tA) (hb:PW X (.BoolOp .Or (b::rest) pos) tB'):PW X (.BoolOp .Or (a::b::rest) pos) (J1 tA tB'):=by
 intro wh pins s σ H Q I h
 refine isTrue_or (bI (ha pins s σ H _ I h) fun c s1 ⟨H1,I1,q1⟩=> ?_)
 cases c with
 | true=>exact ⟨H1,I1,q1⟩
 | false=>exact hb wh pins s1 σ H1 Q I1 q1
theorem iK (ha:PT X a tA):PT X (.UnaryOp .Not a pos) (oR tA):=by
 intro pins s σ H Q I h
 exact isTrue_not (ha pins s σ H (fun c H1=>Q (!c) H1) I h)
noncomputable def wO (ta tb:TE):TE:=fun σ H Q=>ta σ H fun x H1=> ∃c,x= .bl c/\if c=true then tb σ H1 Q else Q (.bl false) H1
noncomputable def Ti (ta tb:TE):TE:=fun σ H Q=>ta σ H fun x H1=> ∃c,x= .bl c/\if c=true then Q (.bl true) H1 else tb σ H1 Q
noncomputable def wQ (ta:TE):TE:=fun σ H Q=>ta σ H fun x H1=> ∃c,x= .bl c/\Q (.bl (!c)) H1
theorem J2 {op} {t:TE} (h:PE X a t):PE X (.BoolOp op [a] pos) t:=fun pins s σ H Q I hw=>BoolOp_one (h pins s σ H Q I hw)
theorem J3 (ha:PE X a ta) (hb:PE X (.BoolOp .And (b::rest) pos) tb):PE X (.BoolOp .And (a::b::rest) pos) (wO ta tb):=by
 intro pins s σ H Q I h
 refine BoolOp_and (bI (ha pins s σ H _ I h) fun v s1 ⟨x,H1,I1,r1,q1⟩=> ?_)
 obtain ⟨c,rfl,q1⟩:=q1
 cases r1
 refine wpAny_truthy_bool ?_
 cases c with
 | true=>exact hb pins s1 σ H1 Q I1 q1
 | false=>exact ⟨.bl false,H1,I1,rfl,q1⟩
theorem J4 (ha:PE X a ta):PE X (.UnaryOp .Not a pos) (wQ ta):=by
 intro pins s σ H Q I h
 refine UnaryOp_ (bI (ha pins s σ H _ I h) fun v s1 ⟨x,H1,I1,r1,q1⟩=> ?_)
 obtain ⟨c,rfl,q1⟩:=q1
 cases r1
 exact not_of (wpAny_truthy_bool ⟨.bl (!c),H1,I1,rfl,q1⟩)
noncomputable def U4 (t:TT) (ta tb:TE):TE:=fun σ H Q=>t σ H fun c H1=>if c=true then ta σ H1 Q else tb σ H1 Q
end
noncomputable def SqL (K:W.Frag) (H:Hp) (a:Addr) (xs:List V):Prop:=
 Rd H a (.lst xs)\/
  ∃ (o:Obj) (its:Array Value) (n:Nat),K.lookup a=some o/\o.cls= .type "list"/\o.dict=none/\o.data= .seq its n/\its.size<=sizeLine/\Vals xs its.toList
noncomputable def SqT (K:W.Frag) (H:Hp) (a:Addr) (xs:List V):Prop:=
 Rd H a (.tup xs)\/
  ∃ (o:Obj) (its:Array Value) (n:Nat),K.lookup a=some o/\o.cls= .type "tuple"/\o.data= .seq its n/\its.size<=sizeLine/\Vals xs its.toList
noncomputable def QZ:Value->Option V
 | .none=>some .non
 | .bool b=>some (.bl b)
 | .int i _=>some (.int i)
 | .str x _=>some (.str x)
 | .bytes b _=>some (.byt b)
 | .float b _=>some (.flt b)
 | .ref a=>some (.ref a)
 | .type n=>some (.ty n)
 | _=>none
theorem RelV.abs {x:V} {u:Value} (r:RelV x u):QZ u=some x:=by
 cases x with
 | non=>cases r;rfl
 | bl _=>cases r;rfl
 | int _=>obtain ⟨t,rfl⟩:=r;rfl
 | str _=>obtain ⟨t,rfl⟩:=r;rfl
 | byt _=>obtain ⟨t,rfl⟩:=r;rfl
 | flt _=>obtain ⟨t,rfl⟩:=r;rfl
 | ref _=>cases r;rfl
 | ty _=>cases r;rfl
theorem RelV.inj {x y:V} {u:Value} (r:RelV x u) (q:RelV y u):x=y:=Yt (r.abs.symm.trans q.abs)
theorem Vals.inj: ∀ {xs ys:List V} {us:List Value},Vals xs us->Vals ys us->xs=ys
 | _,_,_, .nil, .nil=>rfl
 | _,_,_, .cons r t, .cons r' t'=>by rw [r.inj r',Vals.inj t t']
section
variable {X:Cx} {pins:List (Addr×Obj)} {σ:St} {H:Hp} {s:Shared} {a:Addr} {xs ys:List V}
theorem SqL.of {K:W.Frag} (h:H a=some (.lst xs)):SqL K H a xs:= .inl (.inl h)
theorem SqT.of {K:W.Frag} (h:H a=some (.tup xs)):SqT K H a xs:= .inl (.inl h)
theorem Inv.list (I:Inv X pins σ H s) (h:SqL X.K H a xs): ∃its:List Value,Vals xs its/\PlainL s.heap a its.toArray/\xs.length<=sizeLine:=by
 rcases h with h | ⟨o,its,n,hk,hc,hd,hs,hz,r⟩
 ·obtain ⟨z,its,n,r,e⟩:=h.ok I.hok
  exact ⟨its,r,⟨_,n,e,rfl,rfl,rfl⟩,z⟩
 ·refine ⟨its.toList,r,⟨o,n,I.kIn a o hk,hc,hd,by simpa using hs⟩,?_⟩
  have e:=r.length
  simp only [Yd] at e
  rfl'
theorem Inv.tuple (I:Inv X pins σ H s) (h:SqT X.K H a xs): ∃its:List Value,Vals xs its/\IsTup s.heap a its.toArray/\xs.length<=sizeLine:=by
 rcases h with h | ⟨o,its,n,hk,hc,hs,hz,r⟩
 ·obtain ⟨z,its,r,p⟩:=h.ok I.hok
  exact ⟨its,r,p,z⟩
 ·refine ⟨its.toList,r,⟨o,I.kIn a o hk,hc,n,by simpa using hs⟩,?_⟩
  have e:=r.length
  simp only [Yd] at e
  rfl'
theorem Inv.list_inj (I:Inv X pins σ H s) (h:SqL X.K H a xs) (h':SqL X.K H a ys):xs=ys:=by
 obtain ⟨its,r,⟨o,n,e,_,_,d⟩,_⟩:=I.list h
 obtain ⟨its',r',⟨o',n',e',_,_,d'⟩,_⟩:=I.list h'
 rw [e] at e';cases e'
 rw [d] at d'
 injection d' with d1 _
 have:its=its':=by simpa using Xr Array.toList d1
 subst this
 exact r.inj r'
theorem Inv.tuple_inj (I:Inv X pins σ H s) (h:SqT X.K H a xs) (h':SqT X.K H a ys):xs=ys:=by
 obtain ⟨its,r,⟨o,e,_,n,d⟩,_⟩:=I.tuple h
 obtain ⟨its',r',⟨o',e',_,n',d'⟩,_⟩:=I.tuple h'
 rw [e] at e';cases e'
 rw [d] at d'
 injection d' with d1 _
 have:its=its':=by simpa using Xr Array.toList d1
 subst this
 exact r.inj r'
end
noncomputable abbrev Cx.wish (X:Cx) (E:Value->Shared->Prop):Cx:={ X with xe:=E }
noncomputable abbrev Cx.nox (X:Cx):Cx:=X.wish fun _ _=>False
theorem Cx.Ok.wish {X:Cx} (ok:X.Ok) (E:Value->Shared->Prop):(X.wish E).Ok:=
 ⟨ok.mod,ok.kind,ok.glob,ok.blt,ok.above,ok.inj,ok.has,ok.cab,ok.hd,ok.frames,ok.stk,ok.exf,ok.bs,ok.bsz,ok.noex,ok.exfs,ok.funs,ok.frf⟩
theorem Cx.Ok.unwish {X:Cx} {E:Value->Shared->Prop} (ok:(X.wish E).Ok):X.Ok:=
 ⟨ok.mod,ok.kind,ok.glob,ok.blt,ok.above,ok.inj,ok.has,ok.cab,ok.hd,ok.frames,ok.stk,ok.exf,ok.bs,ok.bsz,ok.noex,ok.exfs,ok.funs,ok.frf⟩
section
variable {X:Cx} {pins:List (Addr×Obj)} {σ:St} {H:Hp} {s:Shared} {E:Value->Shared->Prop}
theorem Inv.wish (I:Inv X pins σ H s) (E:Value->Shared->Prop):Inv (X.wish E) pins σ H s:=⟨I.ok.wish E,I.os,I.bare,I.base,I.loc,I.cell,I.free,I.freeC,I.pin,I.hok,I.len⟩
theorem Inv.unwish (I:Inv (X.wish E) pins σ H s):Inv X pins σ H s:=⟨I.ok.unwish,I.os,I.bare,I.base,I.loc,I.cell,I.free,I.freeC,I.pin,I.hok,I.len⟩
theorem SP.unwish {D:Ends} {f:Flow} {s':Shared} (h:SP (X.wish E) pins D f s'):SP X pins D f s':=by
 cases f with
 | next=>obtain ⟨σ',H',I,q⟩:=h;exact ⟨σ',H',I.unwish,q⟩
 | brk=>obtain ⟨σ',H',I,q⟩:=h;exact ⟨σ',H',I.unwish,q⟩
 | cont=>obtain ⟨σ',H',I,q⟩:=h;exact ⟨σ',H',I.unwish,q⟩
 | ret u=>obtain ⟨v,σ',H',I,r,q⟩:=h;exact ⟨v,σ',H',I.unwish,r,q⟩
theorem PSs.nox {st:List Stmt} {t:TS} (h:PSs X.nox st t):PSs X st t:=fun pins s σ H D I hw=>
 Xz (h pins s σ H D (I.wish _) hw) (fun _ _ q=>q.unwish) fun _ _ z=>False.elim z
end
section
variable {X:Cx} {st:Stmt} {rest:List Stmt} {t u:TS} {e:Expr} {te:TE} {pos:Pos}
noncomputable def cA:TS:=fun D σ H=>D.nx σ H
noncomputable def aQ (t u:TS):TS:=fun D σ H=>t { D with nx:=u D } σ H
theorem bH:PSs X [] cA:=fun _ _ σ H _ I h=>wpAny_execs_nil ⟨σ,H,I,h⟩
theorem az (h1:PS X st t) (h2:PSs X rest u):PSs X (st::rest) (aQ t u):=by
 intro pins s σ H D I h
 refine wpAny_execs_cons (bI (h1 pins s σ H { D with nx:=u D } I h) fun f s1 q=> ?_)
 cases f with
 | next=>
  obtain ⟨σ',H',I',q⟩:=q
  exact h2 pins s1 σ' H' D I' q
 | ret v=>exact q
 | brk=>exact q
 | cont=>exact q
theorem aB (h1:PS X st t):PSs X [st] t:=by
 intro pins s σ H D I h
 refine wpAny_execs_cons (bI (h1 pins s σ H D I h) fun f s1 q=> ?_)
 cases f with
 | next=>exact wpAny_execs_nil q
 | ret v=>exact q
 | brk=>exact q
 | cont=>exact q
noncomputable def R0:TS:=fun D σ H=>D.bk σ H
noncomputable def RB:TS:=fun D σ H=>D.ct σ H
theorem Inv.quiet {pins:List (Addr×Obj)} {σ:St} {H:Hp} {s:Shared} (I:Inv X pins σ H s):interactive X.env=false:=by simp [interactive,I.ok.kind]
noncomputable def gK (te:TE):TS:=fun D σ H=>te σ H fun _ H1=>D.nx σ H1
theorem dG (he:PE X e te) (hs:swapsWith e none pos.line X.env=pure false:=by rfl):PS X (.Expr e pos) (gK te):=by
 intro pins s σ H D I h
 exact wpAny_Expr_any (bI (he pins s σ H _ I h) fun v s1 ⟨x,H1,I1,r1,q1⟩=>⟨σ,H1,I1,q1⟩) I.quiet hs
noncomputable def bO (te:TE):TS:=fun D σ H=>te σ H D.rt
theorem aY (he:PE X e te):PS X (.Return (some e) pos) (bO te):=by
 intro pins s σ H D I h
 exact wpAny_Return_some (bI (he pins s σ H _ I h) fun v s1 ⟨x,H1,I1,r1,q1⟩=>⟨x,σ,H1,I1,r1,q1⟩)
noncomputable def RC:TS:=fun D _ H=>D.rt .non H
noncomputable def eX (c:TT) (t u:TS):TS:=fun D σ H=>c σ H fun b H1=>if b=true then t D σ H1 else u D σ H1
theorem cP {c:Expr} {a b:List Stmt} {tc:TT} (hc:PT X c tc) (ha:PSs X a t) (hb:PSs X b u):PS X (.If c a b pos) (eX tc t u):=by
 intro pins s σ H D I h
 refine wpAny_If (bI (hc pins s σ H _ I h) fun d s1 ⟨H1,I1,q1⟩=> ?_)
 cases d with
 | true=>exact ha pins s1 σ H1 D I1 q1
 | false=>exact hb pins s1 σ H1 D I1 q1
noncomputable def wR:TS:=fun _ _ _=>False
theorem wU:PS X st wR:=fun _ _ _ _ _ _ h=>h.elim
end
noncomputable abbrev TG:=V->St->Hp->(St->Hp->Prop)->Prop
noncomputable abbrev CP:=List V->St->Hp->(St->Hp->Prop)->Prop
noncomputable def PG (X:Cx) (target:Expr) (t:TG):Prop:=
 ∀ (pins:List (Addr×Obj)) (s:Shared) (σ:St) (H:Hp) (v:V) (u:Value) (Q:St->Hp->Prop),Inv X pins σ H s->RelV v u->t v σ H Q->
  wpAny (model X.prog X.w) X.A (assign target X.env u) (fun _ s'=> ∃σ' H',Inv X pins σ' H' s'/\Q σ' H') X.xe s
noncomputable def Nm (X:Cx) (ts:List Expr) (t:CP):Prop:=
 ∀ (pins:List (Addr×Obj)) (s:Shared) (σ:St) (H:Hp) (vs:List V) (us:List Value) (Q:St->Hp->Prop),Inv X pins σ H s->Vals vs us->t vs σ H Q->
  wpAny (model X.prog X.w) X.A (assignInOrder ((assignEach ts X.env).map (·.2)) us) (fun _ s'=> ∃σ' H',Inv X pins σ' H' s'/\Q σ' H') X.xe s
noncomputable abbrev wV:=V->V->V->Hp->(Hp->Prop)->Prop
noncomputable def Np (X:Cx) (t:wV):Prop:=
 ∀ (pins:List (Addr×Obj)) (s:Shared) (σ:St) (H:Hp) (o i v:V) (ov iv u:Value) (Q:Hp->Prop),Inv X pins σ H s->RelV o ov->RelV i iv->RelV v u->t o i v H Q->
  wpAny (model X.prog X.w) X.A (setItem ov iv u) (fun _ s'=> ∃H',Inv X pins σ H' s'/\Q H') X.xe s
noncomputable abbrev J5:=V->V->Hp->VK->Prop
noncomputable def RD (X:Cx) (op:Operator) (t:J5):Prop:=
 ∀ (pins:List (Addr×Obj)) (s:Shared) (σ:St) (H:Hp) (x y:V) (v u:Value) (Q:VK),Inv X pins σ H s->RelV x v->RelV y u->t x y H Q->
  wpAny (model X.prog X.w) X.A (inplaceOp op v u) (EP X pins σ Q) X.xe s
section
variable {X:Cx} {pos:Pos}
noncomputable def aC (i:Nat):TG:=fun v σ H Q=>Q (σ.set i (some v)) H
theorem aN {i:Nat} {x:Str} (hN:X.N.Nodup) (hi:X.N[i]? =some x) (hx:Loc X.env.scope x) (hf:X.fn x=true\/X.env.scope.names.lookup x=some .local:=by first | exact .inl rfl | exact .inr rfl | assumption):PG X (.Name x pos) (aC i):=by
 intro pins s σ H v u Q I r h
 exact wpAny_assign_Name (jo I hN hi hx r (fun s' I'=>⟨_,H,I',h⟩) hf)
noncomputable def lw:CP:=fun vs σ H Q=>vs=[]/\Q σ H
noncomputable def cB (t:TG) (u:CP):CP:=fun vs σ H Q=> ∃v r,vs=v::r/\t v σ H fun σ' H'=>u r σ' H' Q
theorem dH:Nm X [] lw:=by
 intro pins s σ H vs us Q I r h
 obtain ⟨e,h⟩:=h
 subst e
 cases r
 exact assignInOrder_nil ⟨σ,H,I,h⟩
theorem bx {e:Expr} {es:List Expr} {t:TG} {u:CP} (h1:PG X e t) (h2:Nm X es u)
  (hs:(assignEach (e::es) X.env).map (·.2)=assign e X.env::(assignEach es X.env).map (·.2):=by rfl):Nm X (e::es) (cB t u):=by
 intro pins s σ H vs us Q I r h
 obtain ⟨v,vr,e1,h⟩:=h
 subst e1
 cases r with
 | cons r rr=>
  rw [hs]
  refine assignInOrder_cons (bI (h1 pins s σ H _ _ _ I r h) fun _ s1 ⟨σ1,H1,I1,q1⟩=> ?_)
  exact h2 pins s1 σ1 H1 _ _ Q I1 rr q1
noncomputable def jq (K:W.Frag) (n:Nat) (t:CP):TG:=fun v σ H Q=> ∃a xs,v= .ref a/\SqT K H a xs/\xs.length=n/\t xs σ H Q
theorem J6 {es:List Expr} {k:Nat} {t:CP} {n:Nat} (hc:X.calm=true) (h:Nm X es t)
  (hn:(assignEach es X.env).length=n:=by rfl) (hst:(assignEach es X.env).findIdx? (·.1)=none:=by rfl):PG X (.Tuple es k pos) (jq X.K n t):=by
 intro pins s σ H v u Q I r hw
 obtain ⟨a,xs,e1,hq,hl,hw⟩:=hw
 subst e1
 cases r
 obtain ⟨its,rv,ht,hz⟩:=I.tuple hq
 refine assign_Tuple_tuple (I.ok.hd hc) ht (by simp [hn,<- hl,rv.length]) hst fun h' hx=> ?_
 have I1:Inv X pins σ H { s with heap:=h' }:=I.kept (t':=s.toks) fun b o e=>hx b o (Yh (Zk e)) e
 exact h pins _ σ H xs _ Q I1 (by simpa using rv) hw
noncomputable def Df (to ti:TE) (t:wV):TG:=fun v σ H Q=>to σ H fun o H1=>ti σ H1 fun i H2=>t o i v H2 fun H3=>Q σ H3
theorem wW {o i:Expr} {to ti:TE} {t:wV} (ho:PE X o to) (hi:PE X i ti) (hs:Np X t)
  (ha: ∀v,assign (.Subscript o i pos) X.env v=(do
   let ov <- holding [v] (eval o X.env)
   let iv <- holding [v,ov] (eval i X.env)
   standAt pos
   holding [v,ov,iv] (setItem ov iv v)
   release [v,ov,iv] []):=by intro _;rfl):PG X (.Subscript o i pos) (Df to ti t):=by
 intro pins s σ H v u Q I r h
 rw [ha]
 refine Qb (Xp (bI (ho pins s σ H _ I h) fun ov s1 ⟨x,H1,I1,r1,q1⟩=> ?_))
 refine Qb (Xp (bI (hi pins s1 σ H1 _ I1 q1) fun iv s2 ⟨y,H2,I2,r2,q2⟩=> ?_))
 refine Qb (wpAny_standAt (Qb (Xp (bI (hs pins s2 σ H2 x y v ov iv u _ I2 r1 r2 r q2) fun _ s3 ⟨H3,I3,q3⟩=> ?_))))
 exact wpAny_release ⟨σ,H3,I3,q3⟩
noncomputable def aZ (te:TE) (g:TG):TS:=fun D σ H=>te σ H fun x H1=>g x σ H1 D.nx
theorem qK {tg e:Expr} {te:TE} {g:TG} (he:PE X e te) (hg:PG X tg g) (hs:swapsWithSole [tg] e pos.line X.env=pure false:=by rfl) (hw:swappedStores [tg] e X.env=pure none:=by rfl)
  (h1:(assignEach [tg] X.env).map (·.2)=[assign tg X.env]:=by rfl):PS X (.Assign [tg] e pos) (aZ te g):=by
 intro pins s σ H D I h
 refine wpAny_Assign_stores (bI (he pins s σ H _ I h) fun v s1 ⟨x,H1,I1,r1,q1⟩=> ?_) hs hw
 rw [h1]
 exact bI (hg pins s1 σ H1 x v _ I1 r1 q1) fun _ s2 q=>q
theorem aL {i:Nat} {x:Str} {e:Expr} {te:TE} {pos':Pos} (hN:X.N.Nodup) (hi:X.N[i]? =some x) (hx:Loc X.env.scope x) (he:PE X e te) (hs:swapsWith e (some (.Name x pos')) pos.line X.env=pure false:=by rfl) (hf:X.fn x=true\/X.env.scope.names.lookup x=some .local:=by first | exact .inl rfl | exact .inr rfl | assumption):
  PS X (.Assign [.Name x pos'] e pos) (aZ te (aC i)):=by
 intro pins s σ H D I h
 refine wpAny_Assign_Name (bI (he pins s σ H _ I h) fun v s1 ⟨y,H1,I1,r1,q1⟩=> ?_) hs
 exact jo I1 hN hi hx r1 (fun s2 I2=>⟨_,H1,I2,q1⟩) hf
noncomputable def J7 (i:Nat) (te:TE) (ti:J5):TS:=fun D σ H=> ∃x,σ[i]? =some (some x)/\te σ H fun y H1=>ti x y H1 fun z H2=>D.nx (σ.set i (some z)) H2
theorem J8 {i:Nat} {x:Str} {e:Expr} {te:TE} {op:Operator} {ti:J5} {pos':Pos} (hN:X.N.Nodup) (hi:X.N[i]? =some x) (hx:Loc X.env.scope x) (he:PE X e te) (ho:RD X op ti) (hf:X.fn x=true\/X.env.scope.names.lookup x=some .local:=by first | exact .inl rfl | exact .inr rfl | assumption):
  PS X (.AugAssign (.Name x pos') op e pos) (J7 i te ti):=by
 intro pins s σ H D I h
 obtain ⟨v,e1,h⟩:=h
 obtain ⟨m,hn,hl⟩:=I.loc
 have vis:QH X.env.scope x:=by rcases hx with k | k;exact .inl k;exact .inr (.inl k)
 obtain ⟨u,r,l⟩:=hl i x v hi e1 vis
 refine wpAny_AugAssign_Name ?_
 have go:wpAny (model X.prog X.w) X.A (eval e X.env) (fun w s₂=>wpAny (model X.prog X.w) X.A (inplaceOp op u w) (fun r s₃=>wpAny (model X.prog X.w) X.A (storeName X.env x r) (fun _=>SP X pins D .next) X.xe s₃) X.xe s₂) X.xe s:=by
  refine bI (he pins s σ H _ I h) fun w s1 ⟨y,H1,I1,r1,q1⟩=> ?_
  refine bI (ho pins s1 σ H1 v y u w _ I1 r r1 q1) fun z s2 ⟨zv,H2,I2,r2,q2⟩=> ?_
  exact jo I2 hN hi hx r2 (fun s3 I3=>⟨_,H2,I3,q2⟩) hf
 rcases l with ⟨hk,hm⟩ | ⟨hk,c,hc,hcell⟩
 ·exact wpAny_loadName_local I.ok.kind hk hn hm go
 ·rcases hk with hk | hk
  ·exact wpAny_loadName_cell I.ok.kind hk hc hcell go
  ·rcases hx with k | k
   ·have:X.env.scope.names.lookup x=some .free:=hk
    rw [k] at this;cases this
   ·have:X.env.scope.names.lookup x=some .free:=hk
    rw [k] at this;cases this
noncomputable def RG (to ti te:TE) (tget:V->V->Hp->VK->Prop) (tip:J5) (tset:wV):TS:=fun D σ H=>to σ H fun o H1=>ti σ H1 fun i H2=>tget o i H2 fun x H3=>te σ H3 fun y H4=>tip x y H4 fun z H5=>tset o i z H5 fun H6=>D.nx σ H6
noncomputable def R1 (f:Int->Int->Int):J5:=fun x y H Q=> ∃i j,x= .int i/\y= .int j/\Q (.int (f i j)) H
theorem J9:RD X .Add (R1 fun i j=>i+j):=by
 intro pins s σ H x y v u Q I r1 r2 h
 obtain ⟨i,j,e1,e2,q⟩:=h
 subst e1;subst e2
 obtain ⟨t,rfl⟩:=r1
 obtain ⟨t',rfl⟩:=r2
 exact iadd_int ⟨.int _,H,I.tok _,⟨_,rfl⟩,q⟩
end
section
variable {X:Cx} {pos:Pos}
noncomputable def fJ (c:TT) (tb:TS):TS:=fun D σ H=> ∃W:Nat->St->Hp->Prop,(∃m,W m σ H)/\ ∀m σ H,W m σ H->
 c σ H fun b H1=>if b=true then ∃N:St->Hp->Prop,(∀σ' H',N σ' H'-> ∃m',m'<m/\W m' σ' H')/\tb { D with nx:=N,ct:=N,bk:=D.nx } σ H1 else D.nx σ H1
theorem ig {c:Expr} {body:List Stmt} {tc:TT} {tb:TS} (hp:PassesOwn (model X.prog X.w) X.A X.env X.xe) (hc:PT X c tc) (hb:PSs X body tb):PS X (.While c body [] pos) (fJ tc tb):=by
 intro pins s σ H D I h
 obtain ⟨W,⟨m0,w0⟩,turn⟩:=h
 refine wpAny_While (codeAny_whileLoop (fun n s'=> ∃σ' H',Inv X pins σ' H' s'/\W n σ' H') ?_ m0 ⟨σ,H,I,w0⟩)
 rintro n s1 ⟨σ1,H1,I1,w1⟩
 refine wpAny_passesOwn hp (bI (hc pins s1 σ1 H1 _ I1 (turn n σ1 H1 w1)) fun b s2 ⟨H2,I2,q2⟩=> ?_)
 cases b with
 | true=>
  obtain ⟨N,hN,q2⟩:=q2
  rw [if_pos rfl]
  refine wpAny_passesOwn hp (bI (hb pins s2 σ1 H2 _ I2 q2) fun f s3 q3=> ?_)
  cases f with
  | next=>
   obtain ⟨σ3,H3,I3,n3⟩:=q3
   obtain ⟨m',hm,w3⟩:=hN σ3 H3 n3
   exact ⟨m',hm,σ3,H3,I3,w3⟩
  | cont=>
   obtain ⟨σ3,H3,I3,n3⟩:=q3
   obtain ⟨m',hm,w3⟩:=hN σ3 H3 n3
   exact ⟨m',hm,σ3,H3,I3,w3⟩
  | brk=>exact q3
  | ret v=>exact q3
 | false=>
  rw [if_neg Zl]
  exact wpAny_execs_nil ⟨σ1,H2,I2,q2⟩
end
structure It where
 go:Nat->Hp->Prop
 yld:Nat->Hp->V->Hp->Prop
 stop:Nat->Hp->Prop
noncomputable def jr (X:Cx) (pins:List (Addr×Obj)) (H:Hp) (b:Addr):Prop:=
 H b=none/\b≠X.env.locals/\b∉X.fs/\(b∈X.ex\/X.s₀.heap.objs.size<=b)/\(∀x c,X.env.cells.lookup x=some c->c≠b)/\ ∀p∈X.pn++pins,p.1≠b
theorem Inv.fpOk {X:Cx} {pins:List (Addr×Obj)} {σ:St} {H H':Hp} {s:Shared} {b:Addr} (I:Inv X pins σ H s) (hb:s.heap.objs.size<=b) (hn:H' b=none):jr X pins H' b:=by
 refine ⟨hn,Nat.ne_of_gt (Zz I.lt hb),I.nofs hb, .inr (Yk I.sz hb),fun x c e z=> ?_,fun p hp z=> ?_⟩
 ·obtain ⟨v,q⟩:=I.cell x c e
  exact absurd (Zz q.lt (by rw [z];exact hb)) (Nat.lt_irrefl _)
 ·exact absurd (Zz (Zk (I.pin p hp).1) (by rw [z];exact hb)) (Nat.lt_irrefl _)
structure Turn (P:Program) (w:World) (K:W.Frag) (tg:Expr) (J:It) (fp:List Addr) (it:Addr) (tn:Nat->Heap->Prop):Prop where
 mem:it∈fp
 obj: ∀i h,tn i h-> ∀b∈fp,∃o,h.get? b=some o/\ ∀v,o.data≠ .cell v
 keep: ∀i h h',tn i h->(∀b∈fp,∀o,h.get? b=some o->h'.get? b=some o)->tn i h'
 item: ∀ (X:Cx),X.prog=P->X.w=w->X.K=K->X.calm=true-> ∀ (i:Nat) (pins:List (Addr×Obj)) (s:Shared) (σ:St) (H:Hp) (E:Value->Shared->Prop),Inv X pins σ H s->(∀b∈fp,jr X pins H b)->tn i s.heap->J.go i H->
  wpAny (model P w) X.A (pyNext (.ref it)) (fun r s1=> ∃u,r=some u/\
   wpAny (model P w) X.A (letOwnedTupleGo tg (.ref it) u) (fun _ s2=> ∃x H',Inv X pins σ H' s2/\RelV x u/\J.yld i H x H'/\tn (i+1) s2.heap/\ ∀b∈fp,H' b=none) E s1) E s
 done: ∀ (X:Cx),X.prog=P->X.w=w->X.K=K->X.calm=true-> ∀ (i:Nat) (pins:List (Addr×Obj)) (s:Shared) (σ:St) (H:Hp) (E:Value->Shared->Prop),Inv X pins σ H s->(∀b∈fp,jr X pins H b)->tn i s.heap->J.stop i H->
  wpAny (model P w) X.A (pyNext (.ref it)) (fun r s1=>r=none/\Inv X pins σ H s1) E s
 self: ∀ (A:Around) (i:Nat) (s:Shared) (Q:Value->Shared->Prop) (E:Value->Shared->Prop),tn i s.heap->Q (.ref it) s->wpAny (model P w) A (pyIter (.ref it)) Q E s
noncomputable abbrev TI:=St->Hp->(It->Hp->Prop)->Prop
noncomputable def PIE (X:Cx) (pins:List (Addr×Obj)) (σ:St) (tg:Expr) (R:It->Hp->Prop) (itv:Value) (s2:Shared):Prop:=
 ∃ (it:Addr) (fp:List Addr) (tn:Nat->Heap->Prop) (J:It) (H':Hp),itv= .ref it/\Inv X pins σ H' s2/\Turn X.prog X.w X.K tg J fp it tn/\tn 0 s2.heap/\(∀b∈fp,jr X pins H' b)/\R J H'
noncomputable def PI (X:Cx) (tg iter:Expr) (wi:TI):Prop:=
 ∀ (pins:List (Addr×Obj)) (s:Shared) (σ:St) (H:Hp) (R:It->Hp->Prop),Inv X pins σ H s->wi σ H R->
  wpAny (model X.prog X.w) X.A (eval iter X.env) (fun v s1=>wpAny (model X.prog X.w) X.A (pyIter v) (PIE X pins σ tg R) X.xe s1) X.xe s
theorem u6 {M:Model} {A:Around} {E:Value->Shared->Prop} {s:Shared} {tg:Expr} {it:Addr} {u:Value} {o:Obj} {n:String} {vs:Array Value} {Q:Unit->Shared->Prop} (ho:s.heap.get? it=some o) (hc:o.cls= .type n) (hd:o.data= .fields vs)
  (hn:["enumerate","zip","dict_itemiterator","dict_reverseitemiterator","odict_iterator","itertools.zip_longest","itertools.pairwise"].contains n=false) (hQ:Q () s):wpAny M A (letOwnedTupleGo tg (.ref it) u) Q E s:=by
 unfold letOwnedTupleGo
 cases tg <;> first
  | exact Za hQ
  | (cases u<;>first
    | exact Za hQ
    | (refine Qb (wpAny_load ho ?_)
       rw [hc,hd]
       show wpAny M A (if (["enumerate","zip","dict_itemiterator","dict_reverseitemiterator","odict_iterator","itertools.zip_longest","itertools.pairwise"].contains n&&vs[0]? ==some (rawInt _))=true then _ else _) Q E s
       rw [if_neg (by intro h;rw [hn,Bool.false_and] at h;cases h)]
       exact Za hQ))
noncomputable def Dg (K:W.Frag) (a:Addr):It:=
 ⟨fun i H=> ∃xs x,SqL K H a xs/\xs[i]? =some x,fun i H x H'=>H'=H/\ ∀xs,SqL K H a xs->xs[i]? =some x,fun i H=> ∃xs,SqL K H a xs/\xs.length<=i⟩
noncomputable def N7 (K:W.Frag) (a:Addr):It:=
 ⟨fun i H=> ∃xs x,SqT K H a xs/\xs[i]? =some x,fun i H x H'=>H'=H/\ ∀xs,SqT K H a xs->xs[i]? =some x,fun i H=> ∃xs,SqT K H a xs/\xs.length<=i⟩
noncomputable def oV (lo:Int) (n:Nat):It:=⟨fun i _=>i<n,fun i H x H'=>H'=H/\x= .int (lo+i),fun i _=>n<=i⟩
theorem vq {P:Program} {w:World} {K:W.Frag} {tg:Expr} (a it:Addr):Turn P w K tg (Dg K a) [it] it (fun i h=>h.IsListIter it a i) where
 mem:=by simp
 obj:=fun i h st b hb=>by
  have e:b=it:=by simpa using hb
  subst e
  obtain ⟨o,e,c,d⟩:=st
  exact ⟨o,e,fun v z=>by rw [d] at z;cases z⟩
 keep:=fun i h h' st k=>st.at fun o e=>k it (by simp) o e
 item:=by
  intro X hP hw hK hc i pins s σ H E I hf st hg
  subst hP hw hK
  obtain ⟨xs,x,hq,hx⟩:=hg
  obtain ⟨its,rv,p,hz⟩:=I.list hq
  obtain ⟨u,hu,ru⟩:=rv.get hx
  obtain ⟨f0,f1,f2,f3,f4,f5⟩:=hf it (by simp)
  refine wpAny_pyNext_list_item st p.isList (x:=u) (by simpa using hu) fun h' st' sb=> ?_
  have I1:Inv X pins σ H { s with heap:=h' }:=I.turned (t':=s.toks) (fun b o hb e=>(sb.2 b hb).trans e) f0 f1 f3 f4 f5
  obtain ⟨o,e,c,d⟩:=id st'
  exact ⟨u,rfl,u6 (s:={ s with heap:=h' }) e c d (by decide) ⟨x,H,I1,ru,⟨rfl,fun ys hy=>by rw [I.list_inj hy hq];exact hx⟩,st',fun b hb=>(hf b hb).1⟩⟩
 done:=by
  intro X hP hw hK hc i pins s σ H E I hf st hg
  subst hP hw hK
  obtain ⟨xs,hq,hx⟩:=hg
  obtain ⟨its,rv,p,hz⟩:=I.list hq
  obtain ⟨f0,f1,f2,f3,f4,f5⟩:=hf it (by simp)
  have hl:=rv.length
  exact wpAny_pyNext_list_end (I.ok.hd hc) st p.isList (by simp;rfl') fun h' eb=>⟨rfl,I.turned (t':=s.toks) (fun b o hb e=>eb b o hb e) f0 f1 f3 f4 f5⟩
 self:=fun _ _ _ _ _ st h=>wpAny_pyIter_listiter st h
theorem qL {P:Program} {w:World} {K:W.Frag} {tg:Expr} (a it:Addr):Turn P w K tg (N7 K a) [it] it (fun i h=>h.IsTupleIter it a i) where
 mem:=by simp
 obj:=fun i h st b hb=>by
  have e:b=it:=by simpa using hb
  subst e
  obtain ⟨o,e,c,d⟩:=st
  exact ⟨o,e,fun v z=>by rw [d] at z;cases z⟩
 keep:=fun i h h' st k=>st.at fun o e=>k it (by simp) o e
 item:=by
  intro X hP hw hK hc i pins s σ H E I hf st hg
  subst hP hw hK
  obtain ⟨xs,x,hq,hx⟩:=hg
  obtain ⟨its,rv,p,hz⟩:=I.tuple hq
  obtain ⟨u,hu,ru⟩:=rv.get hx
  obtain ⟨f0,f1,f2,f3,f4,f5⟩:=hf it (by simp)
  refine wpAny_pyNext_tuple_item st (show s.heap.IsTuple a its.toArray from p) (x:=u) (by simpa using hu) fun h' st' sb=> ?_
  have I1:Inv X pins σ H { s with heap:=h' }:=I.turned (t':=s.toks) (fun b o hb e=>(sb.2 b hb).trans e) f0 f1 f3 f4 f5
  obtain ⟨o,e,c,d⟩:=id st'
  exact ⟨u,rfl,u6 (s:={ s with heap:=h' }) e c d (by decide) ⟨x,H,I1,ru,⟨rfl,fun ys hy=>by rw [I.tuple_inj hy hq];exact hx⟩,st',fun b hb=>(hf b hb).1⟩⟩
 done:=by
  intro X hP hw hK hc i pins s σ H E I hf st hg
  subst hP hw hK
  obtain ⟨xs,hq,hx⟩:=hg
  obtain ⟨its,rv,p,hz⟩:=I.tuple hq
  obtain ⟨f0,f1,f2,f3,f4,f5⟩:=hf it (by simp)
  have hl:=rv.length
  exact wpAny_pyNext_tuple_end (I.ok.hd hc) st (show s.heap.IsTuple a its.toArray from p) (by simp;rfl') fun h' eb=>⟨rfl,I.turned (t':=s.toks) (fun b o hb e=>eb b o hb e) f0 f1 f3 f4 f5⟩
 self:=fun _ _ _ _ _ st h=>wpAny_pyIter_tupleiter st h
theorem qM {P:Program} {w:World} {K:W.Frag} {tg:Expr} (it:Addr) (lo:Int) (n:Nat):Turn P w K tg (oV lo n) [it] it (fun i h=>IsRangeIter h it (lo+(i:Nat)*1) ((n:Int)-(i:Nat)) 1) where
 mem:=by simp
 obj:=fun i h st b hb=>by
  have e:b=it:=by simpa using hb
  subst e
  exact ⟨_,st,fun v z=>by
   have z':Data.fields _=Data.cell v:=z
   cases z'⟩
 keep:=fun i h h' st k=>k it (by simp) _ st
 item:=by
  intro X hP hw hK hc i pins s σ H E I hf st hg
  subst hP hw hK
  obtain ⟨f0,f1,f2,f3,f4,f5⟩:=hf it (by simp)
  have W:=Walks.range (prog:=X.prog) (w:=X.w) (I.ok.hd hc) it lo 1 n
  refine W.item i s _ _ hg st fun v h' tk hv st' kk=> ?_
  obtain ⟨t,rfl⟩:=hv
  have I1:Inv X pins σ H { s with heap:=h',toks:=tk }:=I.turned (fun b o hb e=>kk b o (by simpa using hb) e) f0 f1 f3 f4 f5
  refine ⟨_,rfl,u6 (s:={ s with heap:=h',toks:=tk }) (n:="range_iterator") st' rfl rfl (by decide) ⟨.int (lo+i),H,I1,⟨t,?_⟩,⟨rfl,rfl⟩,st',fun b hb=>(hf b hb).1⟩⟩
  rw [Int.mul_one]
 done:=by
  intro X hP hw hK hc i pins s σ H E I hf st hg
  subst hP hw hK
  obtain ⟨f0,f1,f2,f3,f4,f5⟩:=hf it (by simp)
  exact wpAny_pyNext_range_end (I.ok.hd hc) st (by have:n<=i:=hg;rfl') fun h' eb=>⟨rfl,I.turned (t':=s.toks) (fun b o hb e=>eb b o hb e) f0 f1 f3 f4 f5⟩
 self:=fun _ _ _ _ _ st h=>wpAny_pyIter_rangeiter st h
section
variable {X:Cx} {tg:Expr}
noncomputable def fK (K:W.Frag) (tl:TE):TI:=fun σ H R=>tl σ H fun x H1=> ∃a,x= .ref a/\(∃xs,SqL K H1 a xs)/\R (Dg K a) H1
noncomputable def lz (K:W.Frag) (tl:TE):TI:=fun σ H R=>tl σ H fun x H1=> ∃a,x= .ref a/\(∃xs,SqT K H1 a xs)/\R (N7 K a) H1
theorem Dh {l:Expr} {tl:TE} (hl:PE X l tl):PI X tg l (fK X.K tl):=by
 intro pins s σ H R I h
 refine bI (hl pins s σ H _ I h) fun v s1 ⟨x,H1,I1,r1,q1⟩=> ?_
 obtain ⟨a,e,⟨xs,hq⟩,q⟩:=q1
 subst e
 cases r1
 obtain ⟨its,rv,p,hz⟩:=I1.list hq
 refine wpAny_pyIter_list p.isList ?_
 refine ⟨s1.heap.objs.size,[s1.heap.objs.size],_,_,H1,rfl,I1.kept (t':=s1.toks) fun b o e=>Zb _ e,vq a _,⟨_,Zm _ rfl,rfl,rfl⟩,fun b hb=> ?_,q⟩
 have e:b=s1.heap.objs.size:=by simpa using hb
 subst e
 exact I1.fpOk (Zh _) (I1.hok.fresh (Zh _))
theorem Ja {l:Expr} {tl:TE} (hl:PE X l tl):PI X tg l (lz X.K tl):=by
 intro pins s σ H R I h
 refine bI (hl pins s σ H _ I h) fun v s1 ⟨x,H1,I1,r1,q1⟩=> ?_
 obtain ⟨a,e,⟨xs,hq⟩,q⟩:=q1
 subst e
 cases r1
 obtain ⟨its,rv,p,hz⟩:=I1.tuple hq
 refine wpAny_pyIter_tuple (show s1.heap.IsTuple a its.toArray from p) ?_
 refine ⟨s1.heap.objs.size,[s1.heap.objs.size],_,_,H1,rfl,I1.kept (t':=s1.toks) fun b o e=>Zb _ e,qL a _,⟨_,Zm _ rfl,rfl,rfl⟩,fun b hb=> ?_,q⟩
 have e:b=s1.heap.objs.size:=by simpa using hb
 subst e
 exact I1.fpOk (Zh _) (I1.hok.fresh (Zh _))
theorem wX {pins:List (Addr×Obj)} {σ:St} {H:Hp} {s:Shared} {R:It->Hp->Prop} {E:Value->Shared->Prop} {lo hi:Int} {t u v:Tok} {tk:Nat} (I:Inv X pins σ H s) (h1: -(2^62)<=lo) (h2:lo<2^62) (h3: -(2^62)<=hi) (h4:hi<2^62)
  (q:R (oV lo (hi-lo).toNat) H):wpAny (model X.prog X.w) X.A (pyIter (.ref s.heap.objs.size)) (PIE X pins σ tg R) E { s with heap:=s.heap.push { cls:= .type "range",data:= .fields #[.int lo t, .int hi u, .int 1 v] },toks:=tk }:=by
 refine wpAny_pyIter_range (IsRange.new ..) (small_one h1 h2 h3 h4) ?_
 have I1:Inv X pins σ H { s with heap:=s.heap.push { cls:= .type "range",data:= .fields #[.int lo t, .int hi u, .int 1 v] },toks:=tk }:=I.kept fun b o e=>Zb _ e
 refine ⟨(s.heap.push { cls:= .type "range",data:= .fields #[.int lo t, .int hi u, .int 1 v] }).objs.size,[(s.heap.push { cls:= .type "range",data:= .fields #[.int lo t, .int hi u, .int 1 v] }).objs.size],_,_,H,rfl,
  I1.kept (t':=tk) fun b o e=>Zb _ e,qM _ lo (hi-lo).toNat,?_,fun b hb=> ?_,q⟩
 ·have e1:lo+((0:Nat):Int)*1=lo:=by simp
  have e2:(((hi-lo).toNat:Nat):Int)-((0:Nat):Int)=Builtin.Range.rangeSize lo hi 1:=by rw [rangeSize_one];split<;>rfl'
  show IsRangeIter _ _ (lo+((0:Nat):Int)*1) ((((hi-lo).toNat:Nat):Int)-((0:Nat):Int)) 1
  rw [e1,e2]
  exact Zm _ rfl
 ·have e:b=(s.heap.push { cls:= .type "range",data:= .fields #[.int lo t, .int hi u, .int 1 v] }).objs.size:=by simpa using hb
  subst e
  exact I1.fpOk (Zh _) (I1.hok.fresh (Zh _))
noncomputable def fG (ta:TA):TI:=fun σ H R=>ta σ H fun vs H1=> ∃j:Int,vs=[.int j]/\ -(2^62)<=j/\j<2^62/\R (oV 0 j.toNat) H1
noncomputable def RJ (ta:TA):TI:=fun σ H R=>ta σ H fun vs H1=> ∃i j:Int,vs=[.int i, .int j]/\(-(2^62)<=i/\i<2^62/\ -(2^62)<=j/\j<2^62)/\R (oV i (j-i).toNat) H1
theorem bK {a:Expr} {ta:TA} {p pos:Pos} (hg:Gl X "range") (hm:X.mg "range"=none) (ha:PA X [a] ta) (hs:starEach [a] X.env=[(false,eval a X.env)]:=by rfl):PI X tg (.Call (.Name "range" p) [a] [] pos) (fG ta):=by
 intro pins s σ H R I h
 refine Call_ (dW I hg hm boot_range (Wc (bI (ha pos pins s σ H _ I h) fun us s1 ⟨vs,H1,I1,r1,q1⟩=> ?_) hs rfl))
 obtain ⟨j,e,q1,q2,q⟩:=q1
 subst e
 cases r1 with
 | cons r rr=>
  cases rr
  obtain ⟨t,rfl⟩:=r
  exact call_range_1 (wX I1 (by rfl') (by rfl') q1 q2 (by simpa using q))
noncomputable def fL (wi:TI) (g:TG) (tb:TS):TS:=fun D σ H=>wi σ H fun J H1=> ∃W:Nat->Nat->St->Hp->Prop,(∃m,W 0 m σ H1)/\ ∀i m σ H,W i m σ H->
 (J.stop i H/\D.nx σ H)\/(J.go i H/\ ∃N:St->Hp->Prop,(∀σ' H',N σ' H'-> ∃m',m'<m/\W (i+1) m' σ' H')/\ ∀x H',J.yld i H x H'->g x σ H' fun σ2 H2=>tb { D with nx:=N,ct:=N,bk:=D.nx } σ2 H2)
noncomputable def jt (fp:List Addr) (h:Heap):List (Addr×Obj):=fp.filterMap fun b=>(h.get? b).map fun o=>(b,o)
theorem eY {fp:List Addr} {h:Heap} {b:Addr} {o:Obj} (hb:b∈fp) (e:h.get? b=some o):(b,o)∈jt fp h:=Wl.mpr ⟨b,hb,by rw [e];rfl⟩
theorem vy {fp:List Addr} {h:Heap} {p:Addr×Obj} (hp:p∈jt fp h):p.1∈fp/\h.get? p.1=some p.2:=by
 obtain ⟨b,hb,e⟩:=Wl.mp hp
 cases q:h.get? b with
 | none=>rw [q] at e;cases e
 | some o=>
  rw [q] at e
  have e':(b,o)=p:=Yt e
  subst e'
  exact ⟨hb,q⟩
theorem Inv.pinned {pins:List (Addr×Obj)} {σ:St} {H:Hp} {s:Shared} {fp:List Addr} (I:Inv X pins σ H s) (hf: ∀b∈fp,jr X pins H b) (ho: ∀b∈fp,∃o,s.heap.get? b=some o/\ ∀v,o.data≠ .cell v):Inv X (pins++jt fp s.heap) σ H s:=
 I.pins_of fun p hp=>(Yc.mp hp).elim (fun z=>I.pin p (Yi _ z)) fun z=>by
  obtain ⟨hb,e⟩:=vy z
  obtain ⟨f0,f1,f2,_⟩:=hf p.1 hb
  obtain ⟨o,e',d⟩:=ho p.1 hb
  rw [e] at e';cases e'
  exact ⟨e,f0,f1,f2,d⟩
theorem Inv.unpinned {pins pl:List (Addr×Obj)} {σ:St} {H:Hp} {s:Shared} (I:Inv X (pins++pl) σ H s):Inv X pins σ H s:=I.pins_of fun p hp=>I.pin p (Yi _ (Xf _ hp))
theorem bZ {iter:Expr} {body:List Stmt} {wi:TI} {g:TG} {tb:TS} {pos:Pos} (hp:PassesOwn (model X.prog X.w) X.A X.env X.xe) (hc:X.calm=true) (hi:PI X tg iter wi) (hg:PG X tg g) (hb:PSs X body tb)
  (hs: ∀x,foldedSetIterable iter X.env x=pure x:=by intro _;rfl):PS X (.For tg iter body [] pos) (fL wi g tb):=by
 intro pins s σ H D I h
 refine wpAny_For (bI (hi pins s σ H _ I h) fun v s1 h1=>bI h1 fun itv s2 h2=> ?_) hs
 obtain ⟨it,fp,tn,J,H2,e,I2,T,st2,f2,W,⟨m0,w0⟩,turn⟩:=h2
 subst e
 have stat: ∀ {H':Hp},(∀b∈fp,H' b=none)-> ∀b∈fp,jr X pins H' b:=fun hn b hb=>⟨hn b hb,(f2 b hb).2⟩
 refine codeAny_forLoop_any (fun n s'=> ∃i σ' H',Inv X pins σ' H' s'/\tn i s'.heap/\(∀b∈fp,H' b=none)/\W i n σ' H') ?_ m0 ⟨0,σ,H2,I2,st2,fun b hb=>(f2 b hb).1,w0⟩
 rintro n s3 ⟨i,σ3,H3,I3,st3,fr3,w3⟩
 rcases turn i n σ3 H3 w3 with ⟨stop,qn⟩ | ⟨go,N,hN,step⟩
 ·refine wpAny_passesOwn hp (bI (T.done X rfl rfl rfl hc i pins s3 σ3 H3 X.xe I3 (stat fr3) st3 stop) fun r s4 ⟨hr,I4⟩=> ?_)
  subst hr
  exact wpAny_execs_nil ⟨σ3,H3,I4,qn⟩
 ·refine wpAny_passesOwn hp (bI (T.item X rfl rfl rfl hc i pins s3 σ3 H3 X.xe I3 (stat fr3) st3 go) fun r s4 ⟨u,hr,h4⟩=> ?_)
  subst hr
  refine wpAny_passesOwn hp (bI h4 fun _ s5 ⟨x,H5,I5,r5,y5,st5,fr5⟩=> ?_)
  have I5':=I5.pinned (stat fr5) (T.obj _ _ st5)
  refine wpAny_passesOwn hp (bI (hg _ s5 σ3 H5 x u _ I5' r5 (step x H5 y5)) fun _ s6 ⟨σ6,H6,I6,q6⟩=> ?_)
  refine wpAny_passesOwn hp (bI (hb _ s6 σ6 H6 _ I6 q6) fun f s7 q7=> ?_)
  have again: ∀ {σ7:St} {H7:Hp},Inv X (pins++jt fp s5.heap) σ7 H7 s7->N σ7 H7-> ∃m,m<n/\ ∃i σ' H',Inv X pins σ' H' s7/\tn i s7.heap/\(∀b∈fp,H' b=none)/\W i m σ' H':=fun {σ7 H7} I7 n7=>by
   obtain ⟨m',hm,w7⟩:=hN σ7 H7 n7
   refine ⟨m',hm,i+1,σ7,H7,I7.unpinned,T.keep _ _ _ st5 fun b hb o e=>(I7.pin (b,o) (Yi _ (Yi _ (eY hb e)))).1,fun b hb=> ?_,w7⟩
   obtain ⟨o,e,d⟩:=T.obj _ _ st5 b hb
   exact (I7.pin (b,o) (Yi _ (Yi _ (eY hb e)))).2.1
  cases f with
  | next=>obtain ⟨σ7,H7,I7,n7⟩:=q7;exact again I7 n7
  | cont=>obtain ⟨σ7,H7,I7,n7⟩:=q7;exact again I7 n7
  | brk=>obtain ⟨σ7,H7,I7,q7⟩:=q7;exact ⟨σ7,H7,I7.unpinned,q7⟩
  | ret v=>obtain ⟨x7,σ7,H7,I7,r7,q7⟩:=q7;exact ⟨x7,σ7,H7,I7.unpinned,r7,q7⟩
end
theorem wY {K:W.Frag} {a:Addr} {xs:List V} {g:TG} {tb:TS} {D:Ends} {σ:St} {H:Hp} (Pv:Nat->St->Hp->Prop) (h0:Pv 0 σ H) (hl: ∀i σ H,i<=xs.length->Pv i σ H->SqL K H a xs)
  (hs: ∀i x σ H,xs[i]? =some x->Pv i σ H->g x σ H fun σ2 H2=>tb { D with nx:=Pv (i+1),ct:=Pv (i+1),bk:=D.nx } σ2 H2) (hd: ∀σ H,Pv xs.length σ H->D.nx σ H):
  ∃W:Nat->Nat->St->Hp->Prop,(∃m,W 0 m σ H)/\ ∀i m σ H,W i m σ H->
   ((Dg K a).stop i H/\D.nx σ H)\/((Dg K a).go i H/\ ∃N:St->Hp->Prop,(∀σ' H',N σ' H'-> ∃m',m'<m/\W (i+1) m' σ' H')/\ ∀x H',(Dg K a).yld i H x H'->g x σ H' fun σ2 H2=>tb { D with nx:=N,ct:=N,bk:=D.nx } σ2 H2):=by
 refine ⟨fun i m σ H=>m=xs.length-i/\i<=xs.length/\Pv i σ H,⟨xs.length,by simp,Yp _,h0⟩,?_⟩
 rintro i m σ H ⟨rfl,hi,p⟩
 have q:=hl i σ H hi p
 by_cases hlt:i<xs.length
 ·refine .inr ⟨⟨xs,xs[i],q,by simp [hlt]⟩,Pv (i+1),fun σ' H' p'=>⟨xs.length-(i+1),by rfl',rfl,hlt,p'⟩,fun x H' y=> ?_⟩
  obtain ⟨e,y⟩:=y
  subst e
  exact hs i x σ _ (y xs q) p
 ·have e:i=xs.length:=by rfl'
  subst e
  exact .inl ⟨⟨xs,q,Zh _⟩,hd σ H p⟩
theorem Di {K:W.Frag} {a:Addr} {xs:List V} {g:TG} {tb:TS} {D:Ends} {σ:St} {H:Hp} (Pv:Nat->St->Hp->Prop) (h0:Pv 0 σ H) (hl: ∀i σ H,i<=xs.length->Pv i σ H->SqT K H a xs)
  (hs: ∀i x σ H,xs[i]? =some x->Pv i σ H->g x σ H fun σ2 H2=>tb { D with nx:=Pv (i+1),ct:=Pv (i+1),bk:=D.nx } σ2 H2) (hd: ∀σ H,Pv xs.length σ H->D.nx σ H):
  ∃W:Nat->Nat->St->Hp->Prop,(∃m,W 0 m σ H)/\ ∀i m σ H,W i m σ H->
   ((N7 K a).stop i H/\D.nx σ H)\/((N7 K a).go i H/\ ∃N:St->Hp->Prop,(∀σ' H',N σ' H'-> ∃m',m'<m/\W (i+1) m' σ' H')/\ ∀x H',(N7 K a).yld i H x H'->g x σ H' fun σ2 H2=>tb { D with nx:=N,ct:=N,bk:=D.nx } σ2 H2):=by
 refine ⟨fun i m σ H=>m=xs.length-i/\i<=xs.length/\Pv i σ H,⟨xs.length,by simp,Yp _,h0⟩,?_⟩
 rintro i m σ H ⟨rfl,hi,p⟩
 have q:=hl i σ H hi p
 by_cases hlt:i<xs.length
 ·refine .inr ⟨⟨xs,xs[i],q,by simp [hlt]⟩,Pv (i+1),fun σ' H' p'=>⟨xs.length-(i+1),by rfl',rfl,hlt,p'⟩,fun x H' y=> ?_⟩
  obtain ⟨e,y⟩:=y
  subst e
  exact hs i x σ _ (y xs q) p
 ·have e:i=xs.length:=by rfl'
  subst e
  exact .inl ⟨⟨xs,q,Zh _⟩,hd σ H p⟩
theorem vz {lo:Int} {n:Nat} {g:TG} {tb:TS} {D:Ends} {σ:St} {H:Hp} (Pv:Nat->St->Hp->Prop) (h0:Pv 0 σ H)
  (hs: ∀i σ H,i<n->Pv i σ H->g (.int (lo+i)) σ H fun σ2 H2=>tb { D with nx:=Pv (i+1),ct:=Pv (i+1),bk:=D.nx } σ2 H2) (hd: ∀σ H,Pv n σ H->D.nx σ H):
  ∃W:Nat->Nat->St->Hp->Prop,(∃m,W 0 m σ H)/\ ∀i m σ H,W i m σ H->
   ((oV lo n).stop i H/\D.nx σ H)\/((oV lo n).go i H/\ ∃N:St->Hp->Prop,(∀σ' H',N σ' H'-> ∃m',m'<m/\W (i+1) m' σ' H')/\ ∀x H',(oV lo n).yld i H x H'->g x σ H' fun σ2 H2=>tb { D with nx:=N,ct:=N,bk:=D.nx } σ2 H2):=by
 refine ⟨fun i m σ H=>m=n-i/\i<=n/\Pv i σ H,⟨n,by simp,Yp _,h0⟩,?_⟩
 rintro i m σ H ⟨rfl,hi,p⟩
 by_cases hlt:i<n
 ·refine .inr ⟨hlt,Pv (i+1),fun σ' H' p'=>⟨n-(i+1),by rfl',rfl,hlt,p'⟩,fun x H' y=> ?_⟩
  obtain ⟨e,y⟩:=y
  subst e y
  exact hs i σ _ hlt p
 ·have e:i=n:=by rfl'
  subst e
  exact .inl ⟨Nat.le_refl _,hd σ H p⟩
theorem oW {c:TT} {tb:TS} {D:Ends} {σ:St} {H:Hp} (Pv:St->Hp->Prop) (μ:St->Hp->Nat) (h0:Pv σ H)
  (hs: ∀σ H,Pv σ H->c σ H fun b H1=>if b=true then tb { D with nx:=fun σ' H'=>Pv σ' H'/\μ σ' H'<μ σ H,ct:=fun σ' H'=>Pv σ' H'/\μ σ' H'<μ σ H,bk:=D.nx } σ H1 else D.nx σ H1)
  (mono: ∀σ H Q Q',(∀b H1,Q b H1->Q' b H1)->c σ H Q->c σ H Q'):fJ c tb D σ H:=by
 refine ⟨fun m σ H=>m=μ σ H/\Pv σ H,⟨_,rfl,h0⟩,?_⟩
 rintro m σ H ⟨rfl,p⟩
 refine mono σ H _ _ (fun b H1 q=> ?_) (hs σ H p)
 cases b with
 | true=>exact ⟨_,fun σ' H' ⟨p',l⟩=>⟨_,l,rfl,p'⟩,q⟩
 | false=>exact q
noncomputable abbrev R2:=V->V->Hp->VK->Prop
noncomputable def gM (X:Cx) (f:Value->Value->Sem Value) (r:R2):Prop:=
 ∀ (pins:List (Addr×Obj)) (s:Shared) (σ:St) (H:Hp) (x y:V) (v u:Value) (Q:VK),Inv X pins σ H s->RelV x v->RelV y u->r x y H Q->
  wpAny (model X.prog X.w) X.A (f v u) (EP X pins σ Q) X.xe s
noncomputable def cg (X:Cx) (f:Value) (r:List V->Hp->VK->Prop):Prop:=
 ∀ (pins:List (Addr×Obj)) (s:Shared) (σ:St) (H:Hp) (xs:List V) (us:List Value) (Q:VK),Inv X pins σ H s->Vals xs us->r xs H Q->
  wpAny (model X.prog X.w) X.A (call f us) (EP X pins σ Q) X.xe s
noncomputable def R3 (X:Cx) (r:V->Hp->(Bool->Hp->Prop)->Prop):Prop:=
 ∀ (pins:List (Addr×Obj)) (s:Shared) (σ:St) (H:Hp) (x:V) (v:Value) (Q:Bool->Hp->Prop),Inv X pins σ H s->RelV x v->r x H Q->
  wpAny (model X.prog X.w) X.A (truthy v) (TP X pins σ Q) X.xe s
noncomputable def aX (r:R2) (ta tb:TE):TE:=fun σ H Q=>ta σ H fun x H1=>tb σ H1 fun y H2=>r x y H2 Q
noncomputable def U5 (r:V->Hp->VK->Prop) (ta:TE):TE:=fun σ H Q=>ta σ H fun x H1=>r x H1 Q
noncomputable def rI (C:Int->Int->Prop) (g:Int->Int->V):R2:=fun x y H Q=> ∃i j,x= .int i/\y= .int j/\C i j/\Q (g i j) H
noncomputable def oJ (g:Int->Int->V):R2:=fun x y H Q=> ∃i j,x= .int i/\y= .int j/\Q (g i j) H
noncomputable def rU (g:Int->V):V->Hp->VK->Prop:=fun x H Q=> ∃i,x= .int i/\Q (g i) H
section
variable {X:Cx} {a b c:Expr} {ta tb tc:TE} {pos:Pos}
theorem Jb (ha:PE X a ta) (hb:PE X b tb) {pins:List (Addr×Obj)} {s:Shared} {σ:St} {H:Hp} {R:V->V->Hp->Prop} (I:Inv X pins σ H s)
  (h:ta σ H fun x H1=>tb σ H1 fun y H2=>R x y H2) {Q:Value->Shared->Prop} {f:Value->Value->Sem Value}
  (hf: ∀v u s2 x y H2,Inv X pins σ H2 s2->RelV x v->RelV y u->R x y H2->wpAny (model X.prog X.w) X.A (f v u) Q X.xe s2):
  wpAny (model X.prog X.w) X.A (eval a X.env) (fun v s₁=>wpAny (model X.prog X.w) X.A (eval b X.env) (fun u s₂=>wpAny (model X.prog X.w) X.A (f v u) Q X.xe s₂) X.xe s₁) X.xe s:=by
 refine bI (ha pins s σ H _ I h) fun v s1 ⟨x,H1,I1,r1,q1⟩=> ?_
 refine bI (hb pins s1 σ H1 _ I1 q1) fun u s2 ⟨y,H2,I2,r2,q2⟩=> ?_
 exact hf v u s2 x y H2 I2 r1 r2 q2
theorem aM {op:Operator} {r:R2} (ho:gM X (binaryOp op) r) (ha:PE X a ta) (hb:PE X b tb):PE X (.BinOp a op b pos) (aX r ta tb):=by
 intro pins s σ H Q I h
 exact wpAny_BinOp (Jb ha hb I h fun v u s2 x y H2 I2 rx ry q=>ho pins s2 σ H2 x y v u Q I2 rx ry q)
theorem Jc {f:Value->Value->Sem Value} {C:Int->Int->Prop} {g:Int->Int->Int}
  (rule: ∀ (i j:Int) (t u:Tok) (s:Shared) (Q:Value->Shared->Prop) (E:Value->Shared->Prop),C i j->Q (.int (g i j) s.toks) { s with toks:=s.toks+1 }->wpAny (model X.prog X.w) X.A (f (.int i t) (.int j u)) Q E s):
  gM X f (rI C fun i j=> .int (g i j)):=by
 intro pins s σ H x y v u Q I rx ry h
 obtain ⟨i,j,rfl,rfl,hc,q⟩:=h
 obtain ⟨t,rfl⟩:=rx
 obtain ⟨t',rfl⟩:=ry
 exact rule i j t t' s _ _ hc ⟨.int (g i j),H,I.tok _,⟨_,rfl⟩,q⟩
theorem Dj {f:Value->Value->Sem Value} {g:Int->Int->Int}
  (rule: ∀ (i j:Int) (t u:Tok) (s:Shared) (Q:Value->Shared->Prop) (E:Value->Shared->Prop),Q (.int (g i j) s.toks) { s with toks:=s.toks+1 }->wpAny (model X.prog X.w) X.A (f (.int i t) (.int j u)) Q E s):
  gM X f (oJ fun i j=> .int (g i j)):=by
 intro pins s σ H x y v u Q I rx ry h
 obtain ⟨i,j,rfl,rfl,q⟩:=h
 obtain ⟨t,rfl⟩:=rx
 obtain ⟨t',rfl⟩:=ry
 exact rule i j t t' s _ _ ⟨.int (g i j),H,I.tok _,⟨_,rfl⟩,q⟩
theorem Jd {f:Value->Value->Sem Value} {g:Int->Int->Bool}
  (rule: ∀ (i j:Int) (t u:Tok) (s:Shared) (Q:Value->Shared->Prop) (E:Value->Shared->Prop),Q (.bool (g i j)) s->wpAny (model X.prog X.w) X.A (f (.int i t) (.int j u)) Q E s):
  gM X f (oJ fun i j=> .bl (g i j)):=by
 intro pins s σ H x y v u Q I rx ry h
 obtain ⟨i,j,rfl,rfl,q⟩:=h
 obtain ⟨t,rfl⟩:=rx
 obtain ⟨t',rfl⟩:=ry
 exact rule i j t t' s _ _ ⟨.bl (g i j),H,I,rfl,q⟩
noncomputable def Nq (i j:Int):Prop:=0<j/\j<1073741824
noncomputable def Dk (i j:Int):Prop:=0<=j/\j<=1000000/\i.natAbs<2^64
noncomputable def CMul (i j:Int):Prop:=(-(2^64)<i/\i<2^64)\/(-(2^64)<j/\j<2^64)
theorem CMul.ok {i j:Int} (h:CMul i j):IntMulOk i j:=by
 rcases h with ⟨h1,h2⟩ | ⟨h1,h2⟩
 ·exact .of_left (intBits_le_64 h1 h2)
 ·exact .of_right (intBits_le_64 h1 h2)
theorem cC:gM X (binaryOp .Add) (oJ fun i j=> .int (i+j)):=Dj fun _ _ _ _ _ _ _ q=>add_int q
theorem qN:gM X (binaryOp .Sub) (oJ fun i j=> .int (i-j)):=Dj fun _ _ _ _ _ _ _ q=>sub_int q
theorem wZ:gM X (binaryOp .Mult) (rI CMul fun i j=> .int (i*j)):=Jc fun _ _ _ _ _ _ _ hc q=>mul_int q hc.ok
theorem bV:gM X (binaryOp .FloorDiv) (rI Nq fun i j=> .int (i / j)):=Jc fun i j _ _ _ _ _ hc q=>by
 have h1:(0:Int)<j:=hc.1
 have h2:j<1073741824:=hc.2
 exact floordiv_int (by rfl') (by rw [Int.fdiv_eq_ediv_of_nonneg i (by rfl')];exact q) (.inl (PyProof.noPylong_small (by rfl')))
theorem bB:gM X (binaryOp .Mod) (rI (fun _ j=>0<j) fun i j=> .int (i%j)):=Jc fun i j _ _ _ _ _ hc q=>by
 have h1:(0:Int)<j:=hc
 exact mod_int' (by rfl') (by rw [Int.fmod_eq_emod_of_nonneg i (by rfl')];exact q)
theorem xf:gM X (binaryOp .Pow) (rI Dk fun i j=> .int (i^j.toNat)):=Jc fun _ _ _ _ _ _ _ hc q=>pow_int_small hc.1 hc.2.1 hc.2.2 q
theorem qO:gM X (binaryOp .LShift) (rI Dk fun i j=> .int (i*2^j.toNat)):=Jc fun _ _ _ _ _ _ _ hc q=>lshift_int_small hc.1 hc.2.1 hc.2.2 q
theorem Je:gM X (binaryOp .BitAnd) (oJ fun i j=> .int (Builtin.bitAnd i j)):=Dj fun _ _ _ _ _ _ _ q=>and_int q
theorem xg:gM X (binaryOp .BitXor) (oJ fun i j=> .int (Builtin.bitXor i j)):=Dj fun _ _ _ _ _ _ _ q=>xor_int q
end
noncomputable def Nr:V->V->Bool
 | .non, .non=>true | .non, .int _=>true | .int _, .non=>true | .non, .bl _=>true | .bl _, .non=>true | .non, .str _=>true | .str _, .non=>true
 | .int _, .int _=>true | .bl _, .bl _=>true | .str _, .str _=>true | .byt _, .byt _=>true
 | .int _, .str _=>true | .str _, .int _=>true | .bl _, .str _=>true | .str _, .bl _=>true
 | _,_=>false
noncomputable def Dm:R2:=fun x y H Q=>Nr x y=true/\Q (.bl (decide (x=y))) H
noncomputable def Nt:R2:=fun x y H Q=>Nr x y=true/\Q (.bl (!decide (x=y))) H
theorem u9 {i j:Int}:decide (V.int i=V.int j)=(i==j):=by
 rw [Bool.eq_iff_iff]
 simp
theorem xj {i j:Bool}:decide (V.bl i=V.bl j)=(i==j):=by
 rw [Bool.eq_iff_iff]
 simp
theorem uc {i j:Str}:decide (V.str i=V.str j)=(i==j):=by
 rw [Bool.eq_iff_iff]
 simp
theorem ud {i j:Array UInt8}:decide (V.byt i=V.byt j)=(i.toList==j.toList):=by
 rw [Bool.eq_iff_iff]
 cases i
 cases j
 simp
section
variable {X:Cx} {a b c:Expr} {ta tb tc:TE} {pos:Pos}
theorem bh {pins:List (Addr×Obj)} {σ:St} {H:Hp} {s:Shared} {Q:VK} {k k':Bool} (I:Inv X pins σ H s) (q:Q (.bl k) H) (e:k=k'):EP X pins σ Q (.bool k') s:=by
 subst e
 exact ⟨.bl k,H,I,rfl,q⟩
theorem ju:gM X (compareOp .Eq) Dm:=by
 intro pins s σ H x y v u Q I rx ry h
 obtain ⟨hs,q⟩:=h
 cases x with
 | non=>
  cases rx
  cases y with
  | non=>cases ry;exact PySem.EqNone.eq_none_none (bh I q (by simp))
  | bl j=>cases ry;exact PySem.EqNone.eq_none_bool (bh I q (by simp))
  | int j=>obtain ⟨t',rfl⟩:=ry;exact PySem.EqNone.eq_none_int (bh I q (by simp))
  | str j=>obtain ⟨t',rfl⟩:=ry;exact PySem.EqNone.eq_none_str (bh I q (by simp))
  | _=>exact absurd (show false=true from hs) Zl
 | bl i=>
  cases rx
  cases y with
  | non=>cases ry;exact PySem.EqNone.eq_bool_none (bh I q (by simp))
  | bl j=>cases ry;exact eq_bool (bh I q xj)
  | str j=>obtain ⟨t',rfl⟩:=ry;exact PySem.EqMixed.eq_bool_str (bh I q (by simp))
  | _=>exact absurd (show false=true from hs) Zl
 | int i=>
  obtain ⟨t,rfl⟩:=rx
  cases y with
  | non=>cases ry;exact PySem.EqNone.eq_int_none (bh I q (by simp))
  | int j=>obtain ⟨t',rfl⟩:=ry;exact eq_int (bh I q u9)
  | str j=>obtain ⟨t',rfl⟩:=ry;exact PySem.EqMixed.eq_int_str (bh I q (by simp))
  | _=>exact absurd (show false=true from hs) Zl
 | str i=>
  obtain ⟨t,rfl⟩:=rx
  cases y with
  | non=>cases ry;exact PySem.EqNone.eq_str_none (bh I q (by simp))
  | bl j=>cases ry;exact PySem.EqMixed.eq_str_bool (bh I q (by simp))
  | int j=>obtain ⟨t',rfl⟩:=ry;exact PySem.EqMixed.eq_str_int (bh I q (by simp))
  | str j=>obtain ⟨t',rfl⟩:=ry;exact eq_str (bh I q uc)
  | _=>exact absurd (show false=true from hs) Zl
 | byt i=>
  obtain ⟨t,rfl⟩:=rx
  cases y with
  | byt j=>obtain ⟨t',rfl⟩:=ry;exact PySem.W.eq_bytes (bh I q ud)
  | _=>exact absurd (show false=true from hs) Zl
 | _=>cases y<;>exact absurd (show false=true from hs) Zl
theorem xm:gM X (compareOp .NotEq) Nt:=by
 intro pins s σ H x y v u Q I rx ry h
 obtain ⟨hs,q⟩:=h
 cases x with
 | non=>
  cases rx
  cases y with
  | non=>cases ry;exact PySem.EqNone.ne_none_none (bh I q (by simp))
  | bl j=>cases ry;exact PySem.EqNone.ne_none_bool (bh I q (by simp))
  | int j=>obtain ⟨t',rfl⟩:=ry;exact PySem.EqNone.ne_none_int (bh I q (by simp))
  | str j=>obtain ⟨t',rfl⟩:=ry;exact PySem.EqNone.ne_none_str (bh I q (by simp))
  | _=>exact absurd (show false=true from hs) Zl
 | bl i=>
  cases rx
  cases y with
  | non=>cases ry;exact PySem.EqNone.ne_bool_none (bh I q (by simp))
  | bl j=>cases ry;exact ne_bool (bh I q (Xr not xj))
  | str j=>obtain ⟨t',rfl⟩:=ry;exact PySem.EqMixed.ne_bool_str (bh I q (by simp))
  | _=>exact absurd (show false=true from hs) Zl
 | int i=>
  obtain ⟨t,rfl⟩:=rx
  cases y with
  | non=>cases ry;exact PySem.EqNone.ne_int_none (bh I q (by simp))
  | int j=>obtain ⟨t',rfl⟩:=ry;exact ne_int (bh I q (Xr not u9))
  | str j=>obtain ⟨t',rfl⟩:=ry;exact PySem.EqMixed.ne_int_str (bh I q (by simp))
  | _=>exact absurd (show false=true from hs) Zl
 | str i=>
  obtain ⟨t,rfl⟩:=rx
  cases y with
  | non=>cases ry;exact PySem.EqNone.ne_str_none (bh I q (by simp))
  | bl j=>cases ry;exact PySem.EqMixed.ne_str_bool (bh I q (by simp))
  | int j=>obtain ⟨t',rfl⟩:=ry;exact PySem.EqMixed.ne_str_int (bh I q (by simp))
  | str j=>obtain ⟨t',rfl⟩:=ry;exact ne_str (bh I q (Xr not uc))
  | _=>exact absurd (show false=true from hs) Zl
 | byt i=>
  obtain ⟨t,rfl⟩:=rx
  cases y with
  | byt j=>obtain ⟨t',rfl⟩:=ry;exact PySem.W.ne_bytes (bh I q (Xr not ud))
  | _=>exact absurd (show false=true from hs) Zl
 | _=>cases y<;>exact absurd (show false=true from hs) Zl
theorem Hg:gM X (compareOp .Lt) (oJ fun i j=> .bl (decide (i<j))):=Jd fun _ _ _ _ _ _ _ q=>lt_int q
theorem Hh:gM X (compareOp .LtE) (oJ fun i j=> .bl (decide (i<=j))):=Jd fun _ _ _ _ _ _ _ q=>le_int q
theorem xn:gM X (compareOp .Gt) (oJ fun i j=> .bl (decide (j<i))):=Jd fun _ _ _ _ _ _ _ q=>gt_int q
theorem bJ (b:Expr) {op:CmpOp} (h:op≠ .In:=by decide) (h2:op≠ .NotIn:=by decide):behindInMarks op b=false:=by
 have e1:(op==CmpOp.In)=false:=by cases op<;>first | rfl | exact absurd rfl h
 have e2:(op==CmpOp.NotIn)=false:=by cases op<;>first | rfl | exact absurd rfl h2
 cases b<;>simp [behindInMarks,e1,e2]
theorem ue {op:CmpOp} {r:R2} (ho:gM X (compareOp op) r) (ha:PE X a ta) (hb:PE X b tb) (hm:behindInMarks op b=false):PE X (.Compare a [op] [b] pos) (aX r ta tb):=by
 intro pins s σ H Q I h
 exact wpAny_Compare1 (Jb ha hb I h fun v u s2 x y H2 I2 rx ry q=>ho pins s2 σ H2 x y v u Q I2 rx ry q) hm
noncomputable def bT (t:TE):TT:=fun σ H Q=>t σ H fun x H'=> ∃k,x= .bl k/\Q k H'
theorem bz {op:CmpOp} {r:R2} (ho:gM X (compareOp op) r) (ha:PE X a ta) (hb:PE X b tb) (hm:behindInMarks op b=false):PT X (.Compare a [op] [b] pos) (bT (aX r ta tb)):=by
 intro pins s σ H Q I h
 refine wpAny_isTrue_Compare1 (bI (ha pins s σ H _ I h) fun v s1 ⟨x,H1,I1,r1,q1⟩=>bI (hb pins s1 σ H1 _ I1 q1) fun u s2 ⟨y,H2,I2,r2,q2⟩=>
  bI (ho pins s2 σ H2 x y v u _ I2 r1 r2 q2) fun c s3 ⟨z,H3,I3,r3,k,e,q3⟩=> ?_) hm
 subst e
 cases r3
 exact wpAny_truthy_bool ⟨H3,I3,q3⟩
noncomputable def R4 (r r':R2) (ta tb tc:TE):TE:=fun σ H Q=>ta σ H fun x H1=>tb σ H1 fun y H2=>r x y H2 fun z H3=> ∃k,z= .bl k/\
 (if k=true then tc σ H3 fun w' H4=>r' y w' H4 Q else Q (.bl false) H3)
noncomputable def xq (K:W.Frag) (x:V) (H:Hp) (k:Bool):Prop:=
 match x with
 | .non=>k=false
 | .bl b=>k=b
 | .int i=>k=(i !=0)
 | .str y=>y.length<=sizeLine/\k=((y.length:Int)!=0)
 | .byt y=>y.size<=sizeLine/\k=((y.size:Int)!=0)
 | .ref p=>(∃xs,SqL K H p xs/\k= !xs.isEmpty)\/(∃xs,SqT K H p xs/\k= !xs.isEmpty)\/ ∃kvs,H p=some (.dK kvs)/\k= !kvs.isEmpty
 | _=>False
theorem qP {κ:Type} {kvs:List (κ×V)} {vs:List (κ×Value)} (r:KV kvs vs):(!vs.isEmpty)= !kvs.isEmpty:=by
 cases r<;>rfl
theorem jw {xs:List V} {its:List Value} (r:Vals xs its):(!its.toArray.isEmpty)= !xs.isEmpty:=by
 cases r<;>simp
theorem iM:(sizeLine:Nat)<2^63:=by rw [Wd];decide
theorem Jf:R3 X (fun x H Q=> ∃k,xq X.K x H k/\Q k H):=by
 intro pins s σ H x v Q I rx h
 obtain ⟨k,e,q⟩:=h
 have hl:=iM
 have hs:sizeLine=16777216:=Wd
 cases x with
 | non=>
  cases rx
  have e':k=false:=e
  subst e'
  exact truthy_none ⟨H,I,q⟩
 | bl b=>
  cases rx
  have e':k=b:=e
  subst e'
  exact wpAny_truthy_bool ⟨H,I,q⟩
 | int i=>
  obtain ⟨t,rfl⟩:=rx
  have e':k=(i !=0):=e
  subst e'
  exact PySem.P.truthy_int ⟨H,I,q⟩
 | str y=>
  obtain ⟨t,rfl⟩:=rx
  obtain ⟨hy,e'⟩:y.length<=sizeLine/\k=((y.length:Int)!=0):=e
  subst e'
  exact PySem.P.truthy_str (by rfl') ⟨H,I.tok _,q⟩
 | byt y=>
  obtain ⟨t,rfl⟩:=rx
  obtain ⟨hy,e'⟩:y.size<=sizeLine/\k=((y.size:Int)!=0):=e
  subst e'
  exact PySem.W.truthy_bytes (by rfl') ⟨H,I.tok _,q⟩
 | ref p=>
  cases rx
  have e':(∃xs,SqL X.K H p xs/\k= !xs.isEmpty)\/(∃xs,SqT X.K H p xs/\k= !xs.isEmpty)\/ ∃kvs,H p=some (.dK kvs)/\k= !kvs.isEmpty:=e
  rcases e' with ⟨xs,hx,e'⟩ | ⟨xs,hx,e'⟩ | ⟨kvs,hx,e'⟩
  ·subst e'
   obtain ⟨its,r,pl,hz⟩:=I.list hx
   have hlen:=r.length
   exact wpAny_truthy_list pl.isList (by simp only [Ya];rfl') ⟨H,I.tok _,by rw [jw r];exact q⟩
  ·subst e'
   obtain ⟨its,r,pl,hz⟩:=I.tuple hx
   have hlen:=r.length
   exact truthy_tuple pl (by simp only [Ya];rfl') ⟨H,I.tok _,by rw [jw r];exact q⟩
  ·subst e'
   obtain ⟨hz,hS,vs,r,m⟩:kvs.length<=sizeLine/\(p==sysModules)=false/\ ∃vs,KV kvs vs/\s.heap.DictOf (bF X.prog X.w) p vs:=I.hok p _ hx
   have hlen:kvs.length=vs.length:=Paired.length r
   exact wpAny_truthy_dict hS m (by rfl') ⟨H,I.tok _,by rw [qP r];exact q⟩
 | _=>exact (show False from e).elim
theorem xr (ha:PE X a ta) (he: ∀whole,isTrue a X.env whole=(do let v <- whole;standAt a.pos;holding [v] (truthy v))):
  PT X a (fun σ H Q=>ta σ H fun x H'=> ∃k,xq X.K x H' k/\Q k H'):=by
 intro pins s σ H Q I h
 exact isTrue_plain (bI (ha pins s σ H _ I h) fun v s1 ⟨x,H1,I1,r1,q1⟩=>Jf pins s1 σ H1 x v Q I1 r1 q1) (he _)
theorem gR:gM X (binaryOp .Add) (fun x y H Q=> ∃i j,x= .str i/\y= .str j/\i.length+j.length<=sizeLine/\Q (.str (i++j)) H):=by
 intro pins s σ H x y v u Q I rx ry h
 obtain ⟨i,j,rfl,rfl,hz,q⟩:=h
 obtain ⟨t,rfl⟩:=rx
 obtain ⟨t',rfl⟩:=ry
 exact add_str (fun t' tk=>⟨.str (i++j),H,I.tok _,⟨_,rfl⟩,q⟩) hz
theorem vals1 {x:V} {us:List Value} (r:Vals [x] us): ∃u,us=[u]/\RelV x u:=by
 cases r with
 | cons r1 r2=>cases r2;exact ⟨_,rfl,r1⟩
theorem vals2 {x y:V} {us:List Value} (r:Vals [x,y] us): ∃u w',us=[u,w']/\RelV x u/\RelV y w':=by
 cases r with
 | cons r1 r2=>
  cases r2 with
  | cons r3 r4=>cases r4;exact ⟨_,_,rfl,r1,r3⟩
theorem lK (hc:X.calm=true):cg X (.builtin "min") (fun xs H Q=> ∃i j,xs=[.int i, .int j]/\Q (.int (if j<i then j else i)) H):=by
 intro pins s σ H xs us Q I r h
 obtain ⟨i,j,rfl,q⟩:=h
 obtain ⟨u,w',rfl,⟨t,rfl⟩,⟨t',rfl⟩⟩:=vals2 r
 refine min_two_ints (I.ok.hd hc) fun h' tk k=>⟨_,H,I.kept k,?_,q⟩
 by_cases hj:j<i
 ·rw [if_pos hj,if_pos hj];exact ⟨_,rfl⟩
 ·rw [if_neg hj,if_neg hj];exact ⟨_,rfl⟩
noncomputable def Nu (K:W.Frag) (x:V) (H:Hp) (n:Nat):Prop:=
 match x with
 | .str y=>y.length<=sizeLine/\n=y.length
 | .byt y=>y.size<=sizeLine/\n=y.size
 | .ref p=>(∃xs,SqL K H p xs/\n=xs.length)\/ ∃xs,SqT K H p xs/\n=xs.length
 | _=>False
theorem xu:cg X (.builtin "len") (fun xs H Q=> ∃x n,xs=[x]/\Nu X.K x H n/\Q (.int n) H):=by
 intro pins s σ H xs us Q I r h
 obtain ⟨x,n,rfl,e,q⟩:=h
 obtain ⟨u,rfl,rx⟩:=vals1 r
 have hl:=iM
 have hs:sizeLine=16777216:=Wd
 cases x with
 | str y=>
  obtain ⟨t,rfl⟩:=rx
  obtain ⟨hy,e'⟩:y.length<=sizeLine/\n=y.length:=e
  subst e'
  exact len_str (by rfl') ⟨.int _,H,I.tok _,⟨_,rfl⟩,q⟩
 | byt y=>
  obtain ⟨t,rfl⟩:=rx
  obtain ⟨hy,e'⟩:y.size<=sizeLine/\n=y.size:=e
  subst e'
  exact PySem.W.len_bytes (by rfl') ⟨.int _,H,I.tok _,⟨_,rfl⟩,q⟩
 | ref p=>
  cases rx
  have e':(∃xs,SqL X.K H p xs/\n=xs.length)\/ ∃xs,SqT X.K H p xs/\n=xs.length:=e
  rcases e' with ⟨xs,hx,e'⟩ | ⟨xs,hx,e'⟩
  ·subst e'
   obtain ⟨its,r',pl,hz⟩:=I.list hx
   have hlen:=r'.length
   exact Calls.call_len_list pl.isList (by simp only [Ya];rfl') ⟨.int xs.length,H,I.tok _,⟨_,by simp only [Ya];rw [hlen]⟩,q⟩
  ·subst e'
   obtain ⟨its,r',pl,hz⟩:=I.tuple hx
   have hlen:=r'.length
   exact len_tuple pl (by simp only [Ya];rfl') ⟨.int xs.length,H,I.tok _,⟨_,by simp only [Ya];rw [hlen]⟩,q⟩
 | _=>exact (show False from e).elim
end
structure ObjM (h:Heap) (x dx C:Addr) (mA:Str->Option Value):Prop where
 obj:h.get? x=some (PySem.W.instObj C dx)
 ns:h.Ns1 dx mA
 ne:dx≠x
theorem vA {h:Heap} {dx:Addr} {mA:Str->Option Value} (n:h.Ns1 dx mA): ∃od,h.get? dx=some od/\ ∀name,PySem.W.lookIn name od=some (mA name):=by
 obtain ⟨o,es,ep,ho,hd,hk,_,hm⟩:=n
 refine ⟨o,ho,fun name=> ?_⟩
 have e:=hm name
 unfold nsFind findBy at e
 rw [<- Array.find?_toList] at e
 unfold PySem.W.lookIn
 rw [hd]
 dsimp only
 split
 ·rename_i y q
  rw [q] at e
  exact Xr some e
 ·rename_i q
  rw [q] at e
  have a:es.toList.any (·.refKey)=false:=by
   rw [List.any_eq_false]
   intro y hy
   obtain ⟨z,t,hkey⟩:=hk y (Array.mem_toList_iff.mp hy)
   simp [DictEntry.refKey,hkey]
  have a': ¬es.toList.any (·.refKey)=true:=by rw [a];exact Zl
  rw [if_neg a']
  exact Xr some e
theorem ObjM.look {h:Heap} {x dx C:Addr} {mA:Str->Option Value} (I:ObjM h x dx C mA): ∃od,PySem.W.InstAt h x (PySem.W.instObj C dx) C (some od)/\ ∀name,PySem.W.lookIn name od=some (mA name):=
 let ⟨od,ho,hl⟩:=vA I.ns
 ⟨od,⟨I.obj,rfl,rfl,ho⟩,hl⟩
theorem RelO.some_of {v:V} {o:Option Value} (r:RelO (some v) o): ∃u,o=some u/\RelV v u:=by
 cases o with
 | none=>exact (show False from r).elim
 | some u=>exact ⟨u,rfl,r⟩
section
variable {P:Program} {w:World} {H H':Hp} {h h':Heap} {a C dx:Addr} {fs fs':List (Str×V)}
theorem Do (hok:HOk P w H h) (e:H a=some (.ins C dx fs)): ∃mA,ObjM h a dx C mA/\(∀f,RelO (fs.lookup f) (mA f))/\PySem.Within mA (fs.map (·.1))/\fs.length<=1000/\H dx=some (.own a):=by
 obtain ⟨d,z,ne,ob,mA,n,r,q⟩:=(show ObjOk P w H h a (.ins C dx fs) from hok a _ e)
 exact ⟨mA,⟨ob,n,ne⟩,r,q,z,d⟩
end
structure Cls (K:W.Frag) (C:Addr):Prop where
 pg:PySem.W.plainGet K C Str.empty=true
 hd:PySem.W.hasDictIn K C=true
 po:PySem.W.plainOver K C=true
 sa:PySem.W.findIn K (.ref C) "__setattr__"=some (some (.builtin "object.__setattr__"))
theorem Cls.get {K:W.Frag} {C:Addr} (c:Cls K C) (f:Str):PySem.W.plainGet K C f=true:=c.pg
noncomputable def Jg (K:W.Frag) (C:Addr) (f:Str):Prop:=PySem.W.findIn K (.ref C) f=some none
structure Con (K:W.Frag) (C:Addr) (f:Str) (v:V) (u:Value):Prop where
 at_:PySem.W.findIn K (.ref C) f=some (some u)
 rel:RelV v u
 get:PySem.W.specialIn K u "__get__"=some none
 cp:PySem.W.copiedNames.contains f=false
structure Meth (K:W.Frag) (C:Addr) (m:Str) (f:Addr):Prop where
 at_:PySem.W.findIn K (.ref C) m=some (some (.ref f))
 fn:PySem.W.isFn K (.ref f)=true
 kp:W.keepIn K (.ref f)=true
noncomputable def Tj (K:W.Frag) (ta:TE) (f:Str):TE:=fun σ H Q=>ta σ H fun x H1=> ∃a C dx fs v,x= .ref a/\H1 a=some (.ins C dx fs)/\Cls K C/\Jg K C f/\fs.lookup f=some v/\Q v H1
section
variable {X:Cx} {pins:List (Addr×Obj)} {σ:St} {H:Hp} {s:Shared} {A:Around} {E:Value->Shared->Prop} {Q:Value->Shared->Prop} {c:Value} {b:Bool}
inductive TyOf (K:W.Frag) (H:Hp):V->Value->Prop where
 | non:TyOf K H .non (.type "NoneType")
 | bl (x:Bool):TyOf K H (.bl x) (.type "bool")
 | int (i:Int):TyOf K H (.int i) (.type "int")
 | str (x:Str):TyOf K H (.str x) (.type "str")
 | flt (x:UInt64):TyOf K H (.flt x) (.type "float")
 | lst {a:Addr} {xs:List V} (e:H a=some (.lst xs)):TyOf K H (.ref a) (.type "list")
 | frz {a:Addr} {o:Obj} {xs:List V} (e:H a=some (.frz o (.lst xs))):TyOf K H (.ref a) (.type "list")
 | tup {a:Addr} {xs:List V} (e:H a=some (.tup xs)):TyOf K H (.ref a) (.type "tuple")
 | dK {a:Addr} {kvs:List (Key×V)} (e:H a=some (.dK kvs)):TyOf K H (.ref a) (.type "dict")
 | dT {a:Addr} {kvs:List (List Key×V)} (e:H a=some (.dT kvs)):TyOf K H (.ref a) (.type "dict")
 | ins {a C dx:Addr} {fs:List (Str×V)} (e:H a=some (.ins C dx fs)) (cl:Cls K C) (ha:PySem.W.findIn K (.ref C) "__class__"=some (some (.builtin "object.__class__")))
   (hn:PySem.W.specialIn K (.builtin "object.__class__") "__get__"=some (some (.builtin "getset_descriptor.__get__"))) (htk:PySem.W.takesIn K (.builtin "object.__class__")=some true)
   (hm:PySem.W.mroIn K C (.type "object")=some true):TyOf K H (.ref a) (.ref C)
theorem vB {x:V} {u t:Value} (I:Inv X pins σ H s) (rx:RelV x u) (ty:TyOf X.K H x t) (e:PySem.W.kitOne X.K t c=some b) (h: ∀tk,Q (.bool b) { s with toks:=tk }):
  wpAny (model X.prog X.w) A (call (.builtin "isinstance") [u,c]) Q E s:=by
 cases ty with
 | non=>cases (show u=Value.none from rx);exact PySem.W.kia_one PySem.W.kitx_none I.kIn True.intro e (fun z=>nomatch z) h
 | bl y=>cases (show u=Value.bool y from rx);exact PySem.W.kia_one PySem.W.kitx_bool I.kIn True.intro e (fun z=>nomatch z) h
 | int i=>obtain ⟨t,q⟩:=(show ∃t,u=Value.int i t from rx);cases q;exact PySem.W.kia_one PySem.W.kitx_int I.kIn True.intro e (fun z=>nomatch z) h
 | str y=>obtain ⟨t,q⟩:=(show ∃t,u=Value.str y t from rx);cases q;exact PySem.W.kia_one PySem.W.kitx_str I.kIn True.intro e (fun z=>nomatch z) h
 | flt y=>obtain ⟨t,q⟩:=(show ∃t,u=Value.float y t from rx);cases q;exact PySem.W.kia_one PySem.W.kitx_float I.kIn True.intro e (fun z=>nomatch z) h
 | @lst a xs ea=>
  cases (show u=Value.ref a from rx)
  obtain ⟨_,_,n,_,h1⟩:=(show ObjOk X.prog X.w H s.heap a (.lst xs) from I.hok a _ ea)
  exact PySem.W.kia_one PySem.W.kitx_list I.kIn ⟨_,h1,rfl⟩ e (fun z=>nomatch z) h
 | @frz a ob xs ea=>
  cases (show u=Value.ref a from rx)
  obtain ⟨_,_,_,n,_,h1⟩:=(show ObjOk X.prog X.w H s.heap a (.frz ob (.lst xs)) from I.hok a _ ea)
  exact PySem.W.kia_one PySem.W.kitx_list I.kIn ⟨_,h1,rfl⟩ e (fun z=>nomatch z) h
 | @tup a xs ea=>
  cases (show u=Value.ref a from rx)
  obtain ⟨_,_,_,p⟩:=(show ObjOk X.prog X.w H s.heap a (.tup xs) from I.hok a _ ea)
  obtain ⟨o,h1,h2,_⟩:=p
  exact PySem.W.kia_one PySem.W.kitx_tuple I.kIn ⟨o,h1,h2⟩ e (fun z=>nomatch z) h
 | @dK a kvs ea=>
  cases (show u=Value.ref a from rx)
  obtain ⟨_,_,vs,_,p⟩:=(show ObjOk X.prog X.w H s.heap a (.dK kvs) from I.hok a _ ea)
  obtain ⟨o,es,ep,h1,h2,_⟩:=p
  exact PySem.W.kia_one PySem.W.kitx_dict I.kIn ⟨o,h1,h2.1⟩ e (fun z=>nomatch z) h
 | @dT a kvs ea=>
  cases (show u=Value.ref a from rx)
  obtain ⟨_,_,xs,_,o,es,ep,h1,h2,_⟩:=(show ObjOk X.prog X.w H s.heap a (.dT kvs) from I.hok a _ ea)
  exact PySem.W.kia_one PySem.W.kitx_dict I.kIn ⟨o,h1,h2.1⟩ e (fun z=>nomatch z) h
 | @ins a C dx fs ea cl ha hn htk hm=>
  cases (show u=Value.ref a from rx)
  obtain ⟨mA,O,_⟩:=Do I.hok ea
  obtain ⟨od,J,_⟩:=O.look
  exact PySem.W.kia_one (PySem.W.kitx_own (cl.get _) cl.hd ha hn htk hm) I.kIn J e (fun z=>nomatch z) h
end
structure Room (k:Nat) (A:Around):Prop where
 hd:A.handled=none
 dp:A.depth+3*k+5<recursionLimit
 un:A.units+16*k+200<cLine
theorem Room.mono {j k:Nat} {A:Around} (r:Room k A) (h:j<=k):Room j A:=⟨r.hd,by have:=r.dp;rfl',by have:=r.un;rfl'⟩
theorem Room.deeper {k:Nat} {A:Around} (r:Room (k+1) A) (env:Env):Room k (A.deeper env):=
 ⟨r.hd,by have:=r.dp;show A.depth+1+3*k+5<_;rfl',by have:=r.un;show A.units+3+16*k+200<_;rfl'⟩
theorem Room.depth {k:Nat} {A:Around} (r:Room k A):A.depth<recursionLimit:=by have:=r.dp;rfl'
theorem Room.units {k:Nat} {A:Around} (r:Room k A):A.units+64<cLine:=by have:=r.un;rfl'
noncomputable def aH:TA:=fun _ H Q=>Q [] H
noncomputable def aj (ta:TE) (tr:TA):TA:=fun σ H Q=>ta σ H fun x H1=>tr σ H1 fun xs H2=>Q (x::xs) H2
section
variable {X:Cx} {e:Expr} {es:List Expr} {te:TE} {t:TA} {pos:Pos}
theorem aq:PA X [] aH:=fun _ _ _ _ H Q I h=>Calls.spliced_nil ⟨[],H,I, .nil,h⟩
theorem aa (ha:PE X e te) (hr:PA X es t) (hs:starEach (e::es) X.env=(false,eval e X.env)::starEach es X.env:=by rfl):PA X (e::es) (aj te t):=by
 intro pos pins s σ H Q I h
 rw [hs]
 show wpAny _ _ (spliced ((false,eval e X.env)::backTo pos (starEach es X.env))) _ _ s
 refine Calls.spliced_cons (bI (ha pins s σ H _ I h) fun u s1 ⟨x,H1,I1,r1,q1⟩=> ?_)
 exact bI (hr pos pins s1 σ H1 _ I1 q1) fun us s2 ⟨xs,H2,I2,r2,q2⟩=>⟨x::xs,H2,I2, .cons r1 r2,q2⟩
noncomputable def cW (t:TA):TE:=fun σ H Q=>t σ H fun xs H1=>xs.length<=sizeLine/\ ∀p,H1 p=none->Q (.ref p) (upd H1 p (.tup xs))
noncomputable def jh (t:TA):TE:=fun σ H Q=>t σ H fun xs H1=>xs.length<=sizeLine/\ ∀p,H1 p=none->Q (.ref p) (upd H1 p (.lst xs))
theorem bC {x1} (h:PA X es t):PE X (.Tuple es x1 pos) (cW t):=by
 intro pins s σ H Q I hq
 refine wpAny_Tuple_spliced (bI (h pos pins s σ H _ I hq) fun us s1 ⟨xs,H1,I1,r,z,q⟩=>⟨by rw [<- r.length];exact z,?_⟩)
 have hf:H1 s1.heap.objs.size=none:=I1.hok.fresh (Zh _)
 refine ⟨.ref s1.heap.objs.size,upd H1 s1.heap.objs.size (.tup xs),I1.laid (t':=s1.toks) (fun b u e=>Zb _ e) (Zh _) ?_,rfl,q _ hf⟩
 exact ⟨z,us,r,⟨_,Zm _ rfl,rfl,_,rfl⟩⟩
theorem dX (h:PA X es t):PE X (.List es pos) (jh t):=by
 intro pins s σ H Q I hq
 refine wpAny_List_spliced (bI (h pos pins s σ H _ I hq) fun us s1 ⟨xs,H1,I1,r,z,q⟩=>⟨by rw [<- r.length];exact z,?_⟩)
 have hf:H1 s1.heap.objs.size=none:=I1.hok.fresh (Zh _)
 refine ⟨.ref s1.heap.objs.size,upd H1 s1.heap.objs.size (.lst xs),I1.laid (t':=s1.toks) (fun b u e=>Zb _ e) (Zh _) ?_,rfl,q _ hf⟩
 exact ⟨z,us,0,r,Zm _ rfl⟩
end
noncomputable abbrev Sp:=List V->Hp->VK->XK->Prop
noncomputable abbrev wI:=List Env->Hp->Shared->XK->Value->Shared->Prop
structure Env0 (P:Program) (w:World) (K:W.Frag) (mg:Str->Option Value) (base:Heap) (A:Around) (outer:List Env) (s:Shared) (H:Hp):Prop where
 frames:A.frames=some outer
 mod:Mod K mg base
 bs: ∀b o,base.get? b=some o->s.heap.get? b=some o/\H b=none
 bsz:base.objs.size<=s.heap.objs.size
 funs:s.heap.FunFrames base outer
 frf: ∀b∈frs outer,H b=none
 hok:HOk P w H s.heap
 bare:AllBare s.gens
noncomputable def CE (outer:List Env) (P:Program) (w:World) (H:Hp) (s:Shared) (Q:VK) (u:Value) (s':Shared):Prop:=
 ∃v H',s'.os=s.os/\AllBare s'.gens/\Un (frs outer) [] H H' s.heap s'.heap/\HOk P w H' s'.heap/\RelV v u/\Q v H'
noncomputable def CR (CX:wI) (outer:List Env) (P:Program) (w:World) (H:Hp) (s:Shared) (Q:VK) (E:XK) (r:Result) (s':Shared):Prop:=
 match r with
 | .ok (.ret u)=>CE outer P w H s Q u s'
 | .ok _=>False
 | .error e=>CX outer H s E e s'
structure FnOk (P:Program) (w:World) (K:W.Frag) (mg:Str->Option Value) (base:Heap) (CX:wI) (k:Nat) (f:Addr) (fd:FuncData) (ps:List Str) (sp:Sp):Prop where
 len: ∀vs H Q E,sp vs H Q E->vs.length=ps.length
 run: ∀ (A:Around) (outer:List Env) (s:Shared) (H:Hp) (args:Args) (us:List Value) (vs:List V) (Q:VK) (E:XK),Room k A->Env0 P w K mg base A outer s H->BindsTo s fd args (ps.zip us)->Vals vs us->sp vs H Q E->
  codeAny (model P w) A (.call (.ref f) args) (CR CX outer P w H s Q E) s
section
variable {X:Cx} {pins:List (Addr×Obj)} {σ:St} {H:Hp} {s s':Shared}
theorem Inv.env0 (I:Inv X pins σ H s):Env0 X.prog X.w X.K X.mg X.base X.A X.stack s H:=
 ⟨I.ok.frames,I.ok.mod,I.bs,Yk I.ok.bsz I.sz,I.stack,I.stkFree,I.hok,I.bare⟩
theorem Inv.after {Q:VK} {u:Value} (I:Inv X pins σ H s) (h:CE X.stack X.prog X.w H s Q u s'):EP X pins σ Q u s':=by
 obtain ⟨v,H',os,bare,un,hok,r,q⟩:=h
 obtain ⟨hh,g,d,t,os'⟩:=s'
 obtain rfl:os'=s.os:=os
 exact ⟨v,H',I.call (h':=hh) (g':=g) (d':=d) (t':=t) (ch:=[]) un hok bare (fun b z=>absurd z (by simp)),r,q⟩
end
noncomputable def bu (sp:Sp) (dvs:List V) (E:XK) (t:TA):TE:=fun σ H Q=>t σ H fun vs H1=>sp (vs++dvs) H1 Q E
noncomputable def RK (C:Addr) (m:Str) (sp:Sp) (dvs:List V) (E:XK) (ta:TE) (t:TA):TE:=fun σ H Q=>ta σ H fun x H1=> ∃a dx fs,x= .ref a/\H1 a=some (.ins C dx fs)/\fs.lookup m=none/\
 t σ H1 fun vs H2=>sp (x::(vs++dvs)) H2 Q E
noncomputable def RL (C:Addr) (sp:Sp) (dvs:List V) (E:XK) (t:TA):TE:=fun σ H Q=>t σ H fun vs H1=> ∀x dx,H1 x=none->H1 dx=none->dx≠x->
 sp (.ref x::(vs++dvs)) (upd (upd H1 dx (.own x)) x (.ins C dx [])) (fun v H2=>v= .non/\Q (.ref x) H2) E
noncomputable def Binds (K:W.Frag) (fd:FuncData) (ps:List Str) (ds:List Value):Prop:=
 ∀ (s:Shared) (us:List Value),K.In s.heap->(us++ds).length=ps.length->BindsTo s fd ⟨us,[]⟩ (ps.zip (us++ds))
theorem Binds.all {K:W.Frag} {fd:FuncData} {ps:List Str} (h: ∀us:List Value,us.length=ps.length->bindArgs fd ⟨us,[]⟩=pure (ps.zip us)):Binds K fd ps []:=fun s us _ hl=>by
 rw [Yx] at hl ⊢
 exact .of_eq (h us hl)
noncomputable def qQ (CX:wI) (X:Cx) (E:XK):Prop:= ∀ (pins:List (Addr×Obj)) (σ:St) (H:Hp) (s:Shared) (e:Value) (s':Shared),Inv X pins σ H s->CX X.stack H s E e s'->X.xe e s'
section
variable {X:Cx} {CX:wI} {k:Nat} {f C:Addr} {fd:FuncData} {ps:List Str} {sp:Sp} {dvs:List V} {ds:List Value} {E:XK} {x m:Str} {p pos apos:Pos} {e o:Expr} {es:List Expr} {ta:TE} {t:TA}
theorem Jh {pins:List (Addr×Obj)} {σ:St} {H:Hp} {s:Shared} {Q:VK} {us:List Value} {vs:List V} (F:FnOk X.prog X.w X.K X.mg X.base CX k f fd ps sp) (hr:Room k X.A) (hb:Binds X.K fd ps ds) (hd:Vals dvs ds) (hx:qQ CX X E)
  (I:Inv X pins σ H s) (r:Vals vs us) (h:sp (vs++dvs) H Q E):wpAny (model X.prog X.w) X.A (call (.ref f) us) (EP X pins σ Q) X.xe s:=by
 have r2:Vals (vs++dvs) (us++ds):=r.append hd
 have hl:(us++ds).length=ps.length:=by rw [<- r2.length];exact F.len _ _ _ _ h
 refine wpAny_call (codeAny_mono (F.run X.A X.stack s H ⟨us,[]⟩ (us++ds) (vs++dvs) Q E hr I.env0 (hb s us I.kIn hl) r2 h) fun r s' hq=> ?_)
 cases r with
 | error e=>exact hx pins σ H s e s' I hq
 | ok fl=>
  cases fl with
  | ret u=>exact I.after hq
  | next=>exact False.elim hq
  | brk=>exact False.elim hq
  | cont=>exact False.elim hq
theorem Dq (F:FnOk X.prog X.w X.K X.mg X.base CX k f fd ps sp) (hr:Room k X.A) (hg:Gl X x) (hm:X.mg x=some (.ref f)) (hk:W.keepIn X.K (.ref f)=true) (hb:Binds X.K fd ps ds) (hd:Vals dvs ds) (hx:qQ CX X E)
  (ha:PA X (e::es) t) (hdb:(x==("__debug__":Str))=false:=by decide) (he:starEach (e::es) X.env=(false,eval e X.env)::starEach es X.env:=by rfl) (hpl:(backTo pos (starEach es X.env)).any (·.1)=false:=by rfl):
  PE X (.Call (.Name x p) (e::es) [] pos) (bu sp dvs E t):=by
 intro pins s σ H Q I h
 refine wpAny_Call_Name_kw (De I hg hm ?_ hdb)
 refine PySem.W.callWith_K (h₀:=X.base) I.ok.mod.kin hk (bI (ha pos pins s σ H _ I h) fun us s1 ⟨vs,H1,I1,r,q⟩=>⟨I1.kIn,?_⟩) he hpl
 exact Jh F hr hb hd hx I1 r q
structure Mk (K:W.Frag) (C f:Addr):Prop where
 makes:PySem.W.makesIn K C=true
 init:PySem.W.findIn K (.ref C) "__init__"=some (some (.ref f))
 fn:PySem.W.isFn K (.ref f)=true
 kp:W.keepIn K (.ref C)=true
end
section
variable {X:Cx} {CX:wI} {k:Nat} {f C:Addr} {fd:FuncData} {ps ks:List Str} {sp:Sp} {E:XK} {x m:Str} {p pos apos kpos:Pos} {e o:Expr} {es:List Expr} {kws:List Keyword} {te ta:TE} {t tk:TA} {nm:Option Str}
structure KBinds (K:W.Frag) (fd:FuncData) (ps ks:List Str) (g:List Value->List Value->List Value) (gV:List V->List V->List V):Prop where
 to: ∀ (s:Shared) (us ws:List Value),K.In s.heap->(g us ws).length=ps.length->BindsTo s fd ⟨us,ks.zip ws⟩ (ps.zip (g us ws))
 rel: ∀ {vs:List V} {us:List Value} {zs:List V} {ws:List Value},Vals vs us->Vals zs ws->Vals (gV vs zs) (g us ws)
variable {g:List Value->List Value->List Value} {gV:List V->List V->List V}
end
structure FnScope (N P:List Str) (sc:Scope):Prop where
 kind:sc.kind= .function
 co:sc.isCoroutine=false
 gen:sc.isGenerator=false
 nd:N.Nodup
 pre:N.take P.length=P
 par: ∀x∈P,sc.names.lookup x=some .local\/sc.names.lookup x=some .cell
 nofree: ∀y∈sc.names,y.2≠ .free
theorem lL {kindOf:Str->Option NameKind} {x:Str}: ∀ {binds:List (Str×Value)} {m:Str->Option Value},(∀v,(x,v)∉binds)->bindL kindOf binds m x=m x
 | [],_,_=>rfl
 | (n,v)::r,m,h=>by
  unfold bindL
  rw [lL fun w hw=>h w (Zs _ hw)]
  split
  ·have:x≠n:=by rintro rfl;exact h v Zq
   simp [this]
  ·rfl
theorem lM {kindOf:Str->Option NameKind} {x:Str}: ∀ {binds:List (Str×Value)} {m:Str->Option Value},(∀v,(x,v)∉binds)->bindC kindOf binds m x=m x
 | [],_,_=>rfl
 | (n,v)::r,m,h=>by
  unfold bindC
  rw [lM fun w hw=>h w (Zs _ hw)]
  split
  ·rfl
  ·have:x≠n:=by rintro rfl;exact h v Zq
   simp [this]
theorem lN {kindOf:Str->Option NameKind} {x:Str} {v:Value}: ∀ {P:List Str} {vs:List Value} {i:Nat} {m:Str->Option Value},P.Nodup->P[i]? =some x->vs[i]? =some v->kindOf x=some .local->
  bindL kindOf (P.zip vs) m x=some v
 | [],_,_,_,_,h,_,_=>by simp at h
 | _::_,[],_,_,_,_,h,_=>by simp at h
 | p::P,w::vs,0,m,nd,h1,h2,hk=>by
  simp at h1 h2;subst h1;subst h2
  show bindL kindOf ((p,w)::P.zip vs) m p=_
  unfold bindL
  rw [lL fun v hv=>(Xn.mp nd).1 (List.of_mem_zip hv).1,if_pos hk]
  simp
 | p::P,w::vs,i+1,m,nd,h1,h2,hk=>by
  show bindL kindOf ((p,w)::P.zip vs) m x=_
  unfold bindL
  exact lN (i:=i) (Xn.mp nd).2 (by simpa using h1) (by simpa using h2) hk
theorem lO {kindOf:Str->Option NameKind} {x:Str} {v:Value}: ∀ {P:List Str} {vs:List Value} {i:Nat} {m:Str->Option Value},P.Nodup->P[i]? =some x->vs[i]? =some v->kindOf x≠some .local->
  bindC kindOf (P.zip vs) m x=some v
 | [],_,_,_,_,h,_,_=>by simp at h
 | _::_,[],_,_,_,_,h,_=>by simp at h
 | p::P,w::vs,0,m,nd,h1,h2,hk=>by
  simp at h1 h2;subst h1;subst h2
  show bindC kindOf ((p,w)::P.zip vs) m p=_
  unfold bindC
  rw [lM fun v hv=>(Xn.mp nd).1 (List.of_mem_zip hv).1,if_neg hk]
  simp
 | p::P,w::vs,i+1,m,nd,h1,h2,hk=>by
  show bindC kindOf ((p,w)::P.zip vs) m x=_
  unfold bindC
  exact lO (i:=i) (Xn.mp nd).2 (by simpa using h1) (by simpa using h2) hk
noncomputable def start (N:List Str) (vs:List V):St:=vs.map some++List.replicate (N.length-vs.length) none
noncomputable def vC (CX:wI) (P:Program) (w:World) (K:W.Frag) (mg:Str->Option Value) (base:Heap) (N:List Str) (qual:Str) (scope:Scope) (f:Addr) (cd:Value) (A:Around) (outer:List Env) (s:Shared) (H:Hp) (E:XK):Cx where
 prog:=P
 w:=w
 K:=K
 mg:=mg
 base:=base
 A:=A.deeper (envOfC qual scope s.heap.objs.size f cd)
 N:=N
 s₀:=s
 H₀:=H
 env:=envOfC qual scope s.heap.objs.size f cd
 outer:=outer
 stack:=envOfC qual scope s.heap.objs.size f cd::outer
 ex:=[]
 calm:=true
 fn:=fun _=>true
 pn:=[]
 xe:=fun e s'=>wpAny (model P w) (A.deeper (envOfC qual scope s.heap.objs.size f cd)) (leaving (envOfC qual scope s.heap.objs.size f cd) e) (fun _ s''=>CX outer H s E e s'') (fun e' s''=>CX outer H s E e' s'') s'
theorem oX {sc:Scope} {n:Nat} {x:Str} (h:sc.names.lookup x=some .cell): ∃c,(cellsFrom n sc.names []).lookup x=some c:=by
 have q:=PySem.W.cellsFrom_some sc.names n [] (.inl h)
 exact Option.isSome_iff_exists.mp q
theorem vD {CX:wI} {P:Program} {w:World} {K:W.Frag} {mg:Str->Option Value} {base:Heap} {N ps:List Str} {qual:Str} {scope:Scope} {f:Addr} {cd:Value} {A:Around} {outer:List Env} {s s1:Shared} {H:Hp} {E:XK} {us:List Value} {vs:List V}
  (S:FnScope N ps scope) (hd:A.handled=none) (e0:Env0 P w K mg base A outer s H) (hl:vs.length=ps.length) (r:Vals vs us)
  (x:InCallC s s.heap.objs.size (bindL (envOfC qual scope s.heap.objs.size f cd).kindOf (ps.zip us) fun _=>none) (cellsFrom (s.heap.objs.size+1) scope.names []) (bindC (envOfC qual scope s.heap.objs.size f cd).kindOf (ps.zip us) fun _=>none) s1):
  Inv (vC CX P w K mg base N qual scope f cd A outer s H E) [] (start N vs) H s1:=by
 have hpl:ps.length<=N.length:=by have:=Xr List.length S.pre;rw [Yf] at this;rfl'
 obtain ⟨h1,tk,rfl,hk⟩:=x.done
 have noA: ∀b:Addr,b∉(vC CX P w K mg base N qual scope f cd A outer s H E).ex:=fun b z=>absurd (show b∈([]:List Addr) from z) (by simp)
 refine ⟨⟨e0.mod,S.kind,rfl,rfl,Zh _,fun y z c h1 h2=> ?_,fun y hy=> ?_,fun y c _ h=> ?_,fun _=>hd,Around.frames_deeper e0.frames, .inr ⟨rfl,rfl⟩,fun b z=>absurd z (noA b),e0.bs,e0.bsz,fun b _ _=>noA b,fun b z=>absurd z (noA b),e0.funs,e0.frf⟩,
  rfl,e0.bare,Un.kept hk,⟨_,x.toInCall.ns,fun i y v h1 h2 h3=> ?_⟩,fun y c h=>⟨_,x.cell y c h⟩,e0.hok.fresh (Zh _),fun y c h=> ?_,fun p hp=>absurd (show p∈([]:List (Addr×Obj)) from hp) (by simp),e0.hok.kept hk,?_⟩
 ·exact name_of_addr x.apart (PySem.mem_of_lookup h1) (PySem.mem_of_lookup h2)
 ·have hy:scope.names.lookup y=some .cell\/scope.names.lookup y=some .free:=hy
  rcases hy with hy | hy
  ·exact oX hy
  ·exact absurd rfl (S.nofree _ (PySem.mem_of_lookup hy))
 ·exact Xq (x.above y c (PySem.mem_of_lookup h))
 ·have hi:i<vs.length:=by
   unfold start at h2
   by_cases hi:i<vs.length
   ·exact hi
   ·rw [Wv (by simpa using hi)] at h2
    rw [List.getElem?_replicate] at h2
    split at h2<;>cases h2
  have ha:vs[i]? =some v:=by
   unfold start at h2
   rw [List.getElem?_append_left (by simpa using hi),Zd] at h2
   cases e:vs[i]? with
   | none=>rw [e] at h2;cases h2
   | some a=>rw [e] at h2;cases h2;rfl
  obtain ⟨u,hu,rv⟩:=r.get ha
  have hp:ps[i]? =some y:=by
   rw [<- S.pre,List.getElem?_take_of_lt (by rfl')];exact h1
  have ndP:ps.Nodup:=by rw [<- S.pre];exact S.nd.sublist (List.take_sublist _ _)
  refine ⟨u,rv,?_⟩
  rcases S.par y (Zj hp) with k | k
  ·exact .inl ⟨k,lN ndP hp hu k⟩
  ·obtain ⟨c,e⟩:=oX (n:=s.heap.objs.size+1) k
   refine .inr ⟨.inl k,c,e,?_⟩
   have q:=x.cell y c e
   rw [lO ndP hp hu (by show scope.names.lookup y≠_;rw [k];decide)] at q
   exact q
 ·exact e0.hok.fresh (Xq (x.above y c (PySem.mem_of_lookup h)))
 ·unfold start
  show _=N.length
  rw [Zn,Qr,List.length_replicate]
  rfl'
theorem Nv {CX:wI} {P:Program} {w:World} {K:W.Frag} {mg:Str->Option Value} {base:Heap} {k:Nat} {f:Addr} {name qual:Str} {params:Arguments} {body:List Stmt} {scope:Scope} {dV kV doc pm cdv ct oc:Value} {an od:Option Addr}
  {osl:Array (Option Value)} {N ps:List Str} {sp:Sp} (lk:K.lookup f=some ⟨oc,od, .func (W.fnOf name qual params body scope dV kV doc pm an cdv ct),osl⟩) (hcd:W.codeIn K cdv qual=true) (S:FnScope N ps scope)
  (len: ∀vs H Q E,sp vs H Q E->vs.length=ps.length)
  (hbody: ∀ (A:Around) (outer:List Env) (s:Shared) (H:Hp) (vs:List V) (Q:VK) (E:XK),Room k (A.deeper (envOfC qual scope s.heap.objs.size f cdv))->sp vs H Q E->
   ∃t,PSs (vC CX P w K mg base N qual scope f cdv A outer s H E) body t/\t { nx:=fun _ H'=>Q .non H',rt:=Q } (start N vs) H):
  FnOk P w K mg base CX (k+1) f (W.fnOf name qual params body scope dV kV doc pm an cdv ct) ps sp:=by
 refine ⟨len,fun A outer s H args us vs Q E hr e0 hb r hsp=> ?_⟩
 have hl:=len _ _ _ _ hsp
 have KX:K.In s.heap:=e0.mod.kin.keeps fun b o e=>(e0.bs b o e).1
 have lim:s.heap.NoLimit:=e0.mod.nolimit.keeps fun b o e=>(e0.bs b o e).1
 have hkind: ∀y∈ps.zip us,scope.names.lookup y.1=some .local\/(scope.names.lookup y.1=some .cell/\((cellsFrom (s.heap.objs.size+1) scope.names []).lookup y.1).isSome=true):=fun ⟨n,v⟩ hy=>by
  rcases S.par n (List.of_mem_zip hy).1 with q | q
  ·exact .inl q
  ·exact .inr ⟨q,PySem.W.cellsFrom_some _ _ _ (.inl q)⟩
 refine codeAny_call_function hr.depth (KX _ _ lk) rfl S.co S.gen rfl (PySem.W.codeRec_of KX hcd) (hb _ _ _ _ ?_)
 refine wpAny_newFunctionEnv_cells S.kind hkind fun env he s1 x=> ?_
 subst he
 refine ⟨lim.keeps x.toInCall.keep,codeAny_func ?_⟩
 obtain ⟨t,ht,hq⟩:=hbody A outer s H vs Q E (hr.deeper _) hsp
 have I:Inv (vC CX P w K mg base N qual scope f cdv A outer s H E) [] (start N vs) H s1:=vD S hr.hd e0 hl r x
 refine Xz (ht [] s1 (start N vs) H _ I hq) (fun fl s' hs=> ?_) fun e s' hs=>hs
 have fin: ∀ {σ':St} {H':Hp} {v:V} {u:Value},Inv (vC CX P w K mg base N qual scope f cdv A outer s H E) [] σ' H' s'->RelV v u->Q v H'->CE outer P w H s Q u s':=
  fun {σ' H' v u} J rv q=>⟨v,H',J.os,J.bare,J.base,J.hok,rv,q⟩
 cases fl with
 | ret u=>
  obtain ⟨v,σ',H',J,rv,q⟩:=hs
  exact fin J rv q
 | next=>
  obtain ⟨σ',H',J,q⟩:=hs
  exact fin (v:=V.non) (u:=Value.none) J rfl q
 | brk=>
  obtain ⟨_,_,_,q⟩:=hs
  exact False.elim q
 | cont=>
  obtain ⟨_,_,_,q⟩:=hs
  exact False.elim q
section
variable {X:Cx} {x:Str} {p pos:Pos} {e:Expr} {es:List Expr} {t:TA} {id T:String} {r:List V->Hp->VK->Prop}
noncomputable def cV (r:List V->Hp->VK->Prop) (t:TA):TE:=fun σ H Q=>t σ H fun vs H1=>r vs H1 Q
theorem aJ (hc:cg X (.builtin id) r) (hg:Gl X x) (hm:X.mg x=none) (hv:bootBuiltins x=some (.builtin id)) (ha:PA X (e::es) t) (hn:x≠"__name__":=by decide) (hdb:(x==("__debug__":Str))=false:=by decide)
  (he:starEach (e::es) X.env=(false,eval e X.env)::starEach es X.env:=by rfl) (hpl:(backTo pos (starEach es X.env)).any (·.1)=false:=by rfl):PE X (.Call (.Name x p) (e::es) [] pos) (cV r t):=by
 intro pins s σ H Q I h
 refine wpAny_Call_Name_kw (dW I hg hm hv ?_ hn hdb)
 exact PyProof.Rows.callWith_builtin1 (bI (ha pos pins s σ H _ I h) fun us s1 ⟨vs,H1,I1,r1,q1⟩=>hc pins s1 σ H1 vs us Q I1 r1 q1) he hpl
theorem d9 (hc:cg X (.type T) r) (hg:Gl X x) (hm:X.mg x=none) (hv:bootBuiltins x=some (.type T)) (ha:PA X (e::es) t) (hn:x≠"__name__":=by decide) (hdb:(x==("__debug__":Str))=false:=by decide)
  (he:starEach (e::es) X.env=(false,eval e X.env)::starEach es X.env:=by rfl) (hpl:(backTo pos (starEach es X.env)).any (·.1)=false:=by rfl):PE X (.Call (.Name x p) (e::es) [] pos) (cV r t):=by
 intro pins s σ H Q I h
 refine wpAny_Call_Name_kw (dW I hg hm hv ?_ hn hdb)
 exact Wc (bI (ha pos pins s σ H _ I h) fun us s1 ⟨vs,H1,I1,r1,q1⟩=>hc pins s1 σ H1 vs us Q I1 r1 q1) he hpl
end
end L2
namespace HT
open PySem PyProof.Rows
noncomputable def lexLt:List Int->List Int->Bool
 | [],[]=>false
 | [],_::_=>true
 | _::_,[]=>false
 | x::xs,y::ys=>if x=y then lexLt xs ys else decide (x<y)
theorem dg (x y:Int) (xs ys:List Int):lexLt (x::xs) (y::ys)=if x=y then lexLt xs ys else decide (x<y):=rfl
theorem lA:lexLt [] []=false:=rfl
theorem jx (y:Int) (ys:List Int):lexLt [] (y::ys)=true:=rfl
theorem jy (x:Int) (xs:List Int):lexLt (x::xs) []=false:=rfl
theorem xx (A:Around) (s:Shared) (a:Int) (t:Tok) (c:Int) (u:Tok): ∃e,SeqAt.EqAt A s (.int a t) (.int c u) e/\(e=true↔a=c):=
 ⟨(a==c),SeqAt.EqAt.int_int a t c u,by simp⟩
theorem xF (A:Around) (s:Shared) (a:Int) (t:Tok) (c:Int) (u:Tok) (prog:Program) (w:World) (E:Value->Shared->Prop) (Q:Value->Shared->Prop) (h:Q (.bool (decide (a<c))) s):
  wpAny (model prog w) A (richCompare .Lt (.int a t) (.int c u)) Q E s:=
 (PyProof.Rows.lt_int h:wpAny (model prog w) A (compareOp .Lt (.int a t) (.int c u)) Q E s)
section
open PySem.SeqAt
open PySem.AutoSeq1 (wpAny_loadPart')
open PySem.MeetsSeq PySem.MeetsSeq2 PySem.MeetsSeq3
theorem lB (l b:Addr) (items items2:Array Value) (n n2:Nat) (dd dd2:Option Addr) (sl sl2:Array (Option Value)) (ns ms:List Int) (hi:IntsAre items.toList ns) (hj:IntsAre items2.toList ms):
  Meets (Builtin.«tuple.__lt__» ⟨[.ref l, .ref b],[]⟩)
   (fun _ R s=>s.heap.get? l=some { cls:= .type "tuple",dict:=dd,data:= .seq items n,slots:=sl }/\s.heap.get? b=some { cls:= .type "tuple",dict:=dd2,data:= .seq items2 n2,slots:=sl2 }/\
    R (.ok (.ret (.bool (lexLt ns ms)))) s):=
 .of_wp fun prog w A R s h=>by
  obtain ⟨hp,g,d,tk,os⟩:=s;obtain ⟨hl,hb,h⟩:=h
  have f2:=AutoSeq1.sub_tuple_tuple
  have z1:items.size=ns.length:=by rw [<- hi.length];simp
  have z2:items2.size=ms.length:=by rw [<- hj.length];simp
  wp_walk using wpAny_loadPart' hl,wpAny_loadPart' hb,wpAny_forIn_list _ (fun rest b s'=>b.1=none/\s'=⟨hp,g,d,tk,os⟩/\ ∃ (vs ws:List Value) (ns' ms':List Int),rest=vs.zip ws/\
   IntsAre vs ns'/\IntsAre ws ms'/\ns'.length+items2.size=ms'.length+items.size/\R (.ok (.ret (.bool (lexLt ns' ms')))) ⟨hp,g,d,tk,os⟩) _
  case turn=>
   rintro ⟨y,x⟩ rest b s' ⟨hb',rfl,vs,ws,ns',ms',hz,hvi,hwi,hlen,hR⟩
   cases hvi with
   | nil=>rw [List.zip_nil_left] at hz;cases hz
   | cons a t hvi'=>
    cases hwi with
    | nil=>rw [List.zip_nil_right] at hz;cases hz
    | cons c u hwi'=>
     rw [List.zip_cons_cons] at hz
     injection hz with hyx hrest
     injection hyx with hy hx
     subst hy hx
     rw [dg] at hR
     simp only [Yv] at hlen
     obtain ⟨e,he,hiff⟩:=xx A.in1 ⟨hp,g,d,tk,os⟩ a t c u
     refine Qb (he prog w _ _ ?_)
     cases e with
     | true=>
      rw [if_pos (hiff.mp rfl)] at hR
      wp_walk
      exact ⟨rfl,rfl,_,_,_,_,hrest,hvi',hwi',by rfl',hR⟩
     | false=>
      rw [if_neg (fun q=>absurd (hiff.mpr q) Zl)] at hR
      have hri:=xF A.in1 ⟨hp,g,d,tk,os⟩ a t c u prog w
      wp_walk using hri
      exact ⟨_,rfl,by simpa using hR⟩
  case fin=>
   rintro ⟨b1,b2⟩ s' ⟨hb',rfl,vs,ws,ns',ms',hz,hvi,hwi,hlen,hR⟩
   simp only at hb'
   subst hb'
   have hv:lexLt ns' ms'=decide (items.size<items2.size):=by
    cases hvi with
    | nil=>
     cases hwi with
     | nil=>
      simp only [List.length_nil] at hlen
      rw [lA]
      exact (Zp (by rfl')).symm
     | cons c u hw=>
      simp only [List.length_nil,Yv] at hlen
      rw [jx]
      exact (Ym (by rfl')).symm
    | cons a t hv=>
     cases hwi with
     | nil=>
      simp only [List.length_nil,Yv] at hlen
      rw [jy]
      exact (Zp (by rfl')).symm
     | cons c u hw=>
      rw [List.zip_cons_cons] at hz
      cases hz
   rw [hv] at hR
   wp_walk
   exact ⟨_,rfl,by simpa [Builtin.Tuple.tupleCompareSizes] using hR⟩
  case h=>
   exact ⟨rfl,rfl,items.toList,items2.toList,ns,ms,rfl,hi,hj,by rfl',h⟩
end
section
variable {prog:Program} {w:World} {A:Around} {E:Value->Shared->Prop} {s:Shared}
theorem qR {l b:Addr} {items items2:Array Value} {ns ms:List Int} {Q:Value->Shared->Prop} (hl:IsTup s.heap l items) (hb:IsTup s.heap b items2) (hi:IntsAre items.toList ns) (hj:IntsAre items2.toList ms)
  (hu:A.units<cLine) (h:Q (.bool (lexLt ns ms)) s):wpAny (model prog w) A (compareOp .Lt (.ref l) (.ref b)) Q E s:=by
 obtain ⟨⟨cls,dd,data,sl⟩,ho,hc,n,hd⟩:=id hl
 obtain ⟨⟨cls2,dd2,data2,sl2⟩,ho2,hc2,n2,hd2⟩:=id hb
 simp only at hc hd hc2 hd2
 subst hc hd hc2 hd2
 exact richCompare_meets_room (op:= .Lt) ⟨_,ho,rfl⟩ ⟨_,ho2,rfl⟩ PySem.F.slot_tuple_lt PySem.F.entry_tuple_lt (PySem.F.args_tuple_lt_2 _ _) (lB l b items items2 n n2 dd dd2 sl sl2 ns ms hi hj)
  ⟨ho,ho2,show Value.bool (lexLt ns ms)≠Value.notImplemented/\Q (.bool (lexLt ns ms)) s from ⟨(fun x=>nomatch x),h⟩⟩ hu
theorem Dr {t b:Addr} {vs ws:List Value} {Q:Value->Shared->Prop} (ht:IsTup s.heap t vs.toArray) (hb:IsTup s.heap b ws.toArray) (hv:vs≠[])
  (h1:ws=[]->Q (.ref t) s) (h2:ws≠[]->Q (.ref s.heap.objs.size) { s with heap:=s.heap.push { cls:= .type "tuple",data:= .seq (vs++ws).toArray } })
  (hsz:vs.length+ws.length<=sizeLine):wpAny (model prog w) A (binaryOp .Add (.ref t) (.ref b)) Q E s:=by
 obtain ⟨⟨cls,dd,data,sl⟩,ho,hc,n,hd⟩:=id ht
 obtain ⟨⟨cls2,dd2,data2,sl2⟩,ho2,hc2,n2,hd2⟩:=id hb
 simp only at hc hd hc2 hd2
 subst hc hd hc2 hd2
 have e:vs.toArray++ws.toArray=(vs++ws).toArray:=by simp
 by_cases hw:ws=[]
 ·exact concat_meets ⟨_,ho,rfl⟩ ⟨_,ho2,rfl⟩ noFill_tuple_add seq_tuple_add PySem.F.slot_tuple_add PySem.F.entry_tuple_add (PySem.F.args_tuple_add_2 _ _)
   (tuple_addW1 t b vs.toArray ws.toArray n n2 dd dd2 sl sl2 (by simpa using hv) (by simp [hw])) ⟨ho,ho2,h1 hw⟩
 ·refine concat_meets ⟨_,ho,rfl⟩ ⟨_,ho2,rfl⟩ noFill_tuple_add seq_tuple_add PySem.F.slot_tuple_add PySem.F.entry_tuple_add (PySem.F.args_tuple_add_2 _ _)
   (tuple_addW2 t b vs.toArray ws.toArray n n2 dd dd2 sl sl2 (by simpa using hv) (by simpa using hw) (by rw [Ya,Ya];exact hsz)) ⟨ho,ho2,?_⟩
  rw [e]
  exact h2 hw
noncomputable def cG (n d:Nat):Option Int->Nat
 | none=>d
 | some v=>if v<0 then (v+(n:Int)).toNat else min v.toNat n
theorem Ji (n d:Nat) (hd:d<=n) (o:Option Int):cG n d o<=n:=by
 cases o with
 | none=>exact hd
 | some v=>
  show (if v<0 then (v+(n:Int)).toNat else min v.toNat n)<=n
  by_cases hv:v<0
  ·rw [if_pos hv];rfl'
  ·rw [if_neg hv];exact Nat.min_le_right _ _
theorem uf (v:Int) (n d:Nat):(if v<0 then max (v+(n:Int)) 0 else min v (n:Int))=((cG n d (some v):Nat):Int):=by
 show (if v<0 then max (v+(n:Int)) 0 else min v (n:Int))=(((if v<0 then (v+(n:Int)).toNat else min v.toNat n):Nat):Int)
 by_cases hv:v<0
 ·simp only [if_pos hv];rfl'
 ·simp only [if_neg hv];rfl'
theorem qT (lo hi:Option Int) (n:Nat):Builtin.Slice.sliceAdjust lo hi 1 (n:Int)=(((cG n 0 lo:Nat):Int),((cG n n hi:Nat):Int)):=by
 have h1: ¬ ((1:Int)<0):=by rfl'
 unfold Builtin.Slice.sliceAdjust
 simp only [h1,Xg]
 refine Prod.ext ?_ ?_
 ·cases lo with
  | none=>rfl
  | some v=>exact uf v n 0
 ·cases hi with
  | none=>rfl
  | some v=>exact uf v n n
theorem qU (i j:Nat):Builtin.Slice.slicePlaces (i:Int) (j:Int) 1=j-i:=by
 unfold Builtin.Slice.slicePlaces
 have h1:(1:Int)>0:=by rfl'
 simp only [h1,if_true,Int.ediv_one]
 split<;>rfl'
theorem jz {v:Value} {o:Option Int} {Q:Option Int->Shared->Prop} (p:IsPart v o) (h:Q o s):wpAny (model prog w) A (Builtin.Slice.slicePartIndex v) Q E s:=by
 cases p with
 | none=>exact slicePart_none h
 | int i t=>exact slicePart_int h
theorem eQ {sl:Addr} {vl vu:Value} {lo hi:Option Int} {n:Nat} {Q:Int×Int×Nat->Shared->Prop} (hs:s.heap.IsSliceOf sl vl vu .none) (pl:IsPart vl lo) (pu:IsPart vu hi)
  (h:Q (((cG n 0 lo:Nat):Int),1,cG n n hi-cG n 0 lo) s):wpAny (model prog w) A (Builtin.Slice.sliceApplied (.ref sl) (pure (n:Int))) Q E s:=by
 obtain ⟨os,hos,hcs,hds⟩:=id hs
 unfold Builtin.Slice.sliceApplied Builtin.Slice.sliceFields
 refine Qb (Qb (wpAny_field hos hds (x:=vl) rfl (Qb (wpAny_field hos hds (x:=vu) rfl (Qb (wpAny_field hos hds (x:= .none) rfl (Za ?_)))))))
 refine Qb (slicePart_none ?_)
 show wpAny _ _ (if ((1:Int)==0)=true then _ else _) _ _ s
 rw [if_neg (by decide)]
 refine Qb (jz pl (Qb (jz pu (Qb (Za ?_)))))
 show wpAny _ _ (match Builtin.Slice.sliceAdjust lo hi 1 (n:Int) with | (lo,hi)=>pure (lo,(1:Int),Builtin.Slice.slicePlaces lo hi 1)) _ _ s
 rw [qT lo hi n]
 show wpAny _ _ (pure (((cG n 0 lo:Nat):Int),(1:Int),Builtin.Slice.slicePlaces ((cG n 0 lo:Nat):Int) ((cG n n hi:Nat):Int) 1)) _ _ s
 rw [qU]
 exact Za h
theorem xG (xs:Array Value) (i k:Nat):((List.range k).filterMap fun (m:Nat)=>xs[((i:Int)+(m:Int)*1).toNat]?).toArray=((xs.toList.drop i).take k).toArray:=by
 have e:(fun (m:Nat)=>xs[((i:Int)+(m:Int)*1).toNat]?)=fun m=>xs[i+m]? :=by
  funext m
  have:((i:Int)+(m:Int)*1).toNat=i+m:=by rfl'
  rw [this]
 rw [e]
 have:=pick_run xs i k
 rw [List.filterMap_map] at this
 have e2:((fun x=>xs[x]?)∘fun x=>i+x)=fun m=>xs[i+m]? :=rfl
 rw [e2] at this
 rw [this]
theorem ik {t sl:Addr} {items:Array Value} {vl vu:Value} {lo hi:Option Int} {Q:Value->Shared->Prop} (ht:IsTup s.heap t items) (hs:s.heap.IsSliceOf sl vl vu .none) (pl:IsPart vl lo) (pu:IsPart vu hi)
  (hw: ¬ (cG items.size 0 lo=0/\cG items.size items.size hi=items.size))
  (h:Q (.ref s.heap.objs.size) { s with heap:=s.heap.push { cls:= .type "tuple",data:= .seq ((items.toList.drop (cG items.size 0 lo)).take (cG items.size items.size hi-cG items.size 0 lo)).toArray } })
  (hsz:items.size<=sizeLine):wpAny (model prog w) A (getItem (.ref t) (.ref sl)) Q E s:=by
 have htake:sizeOk (.seq ((items.toList.drop (cG items.size 0 lo)).take (cG items.size items.size hi-cG items.size 0 lo)).toArray):=by
  show ((items.toList.drop (cG items.size 0 lo)).take (cG items.size items.size hi-cG items.size 0 lo)).toArray.size<=sizeLine
  rw [Ya,Yf,Xs,Yd]
  rfl'
 have hj:cG items.size items.size hi<=items.size:=Ji _ _ (Zh _) hi
 obtain ⟨os,hos,hcs,hds⟩:=id hs
 have hTs:s.TypeIs (.ref sl) "slice":=⟨os,hos,hcs⟩
 unfold getItem
 try with_reducible refine Xp ?_
 first | refine Qb (Za ?_) | skip
 refine Qb (wpAny_sequenceKey ht.typeIs (by decide) ?_)
 refine Qb (wpAny_callSpecial?_slot (name:=Str.ofString "__getitem__") ht.typeIs PyProof.Rows.slot_tuple_getitem
  (Yy PyProof.Rows.slot_tuple_getitem ht.typeIs entry_tuple_getitem ?_ (args_tuple_getitem _ _)))
 show wpAny _ _ (Builtin.Tuple.tupleItemsOf (.ref t) >>= _) _ _ s
 refine Qb (tupleItemsOf_ ht ?_)
 refine Qb (wpAny_typeOf hTs ?_)
 rw [if_pos (by decide)]
 refine Qb (eQ hs pl pu ?_)
 have hno: ¬ ((((cG items.size 0 lo:Nat):Int)==0&&(1:Int)==1&&(cG items.size items.size hi-cG items.size 0 lo)==items.size)=true):=by
  intro q
  rw [Bool.and_eq_true,Bool.and_eq_true] at q
  have q1:((cG items.size 0 lo:Nat):Int)=0:=eq_of_beq q.1.1
  have q2:cG items.size items.size hi-cG items.size 0 lo=items.size:=eq_of_beq q.2
  exact hw ⟨by rfl',by rfl'⟩
 show wpAny _ _ (if (((cG items.size 0 lo:Nat):Int)==0&&(1:Int)==1&&(cG items.size items.size hi-cG items.size 0 lo)==items.size)=true then _ else _) _ _ s
 rw [if_neg hno,xG]
 first
  | exact Qb (m:=Builtin.Tuple.tupleExact _) (Xc (Za ⟨_,rfl,Za h⟩) htake)
  | exact Qb (m:=Builtin.Tuple.tupleExact _) (Xc (Qb (Za (Za ⟨_,rfl,Za h⟩))) htake)
  | exact Qb (Qb (m:=Builtin.Tuple.tupleExact _) (Xc (Za (Za ⟨_,rfl,Za h⟩)) htake))
  | exact Qb (Qb (m:=Builtin.Tuple.tupleExact _) (Xc (Za ⟨_,rfl,Za h⟩) htake))
end
end HT
namespace L2
open PySem PySem.Spec PyProof.Rows
noncomputable abbrev TO:=St->Hp->(Option Int->Hp->Prop)->Prop
noncomputable def PO (X:Cx) (e:Option Expr) (t:TO):Prop:=
 ∀ (pins:List (Addr×Obj)) (s:Shared) (σ:St) (H:Hp) (Q:Option Int->Hp->Prop),Inv X pins σ H s->t σ H Q->
  wpAny (model X.prog X.w) X.A (evalPart e X.env) (fun u s'=> ∃o H',Inv X pins σ H' s'/\IsPart u o/\Q o H') X.xe s
noncomputable def bW:TO:=fun _ H Q=>Q none H
noncomputable def dI (t:TE):TO:=fun σ H Q=>t σ H fun x H1=> ∃i,x= .int i/\Q (some i) H1
theorem intsAre_of {ns:List Int}: ∀ {us:List Value},Vals (ns.map V.int) us->IntsAre us ns:=by
 induction ns with
 | nil=>intro us r;rw [List.map_nil] at r;cases r;exact .nil
 | cons n ns ih=>
  intro us r
  rw [Zr] at r
  cases r with
  | cons r1 r2=>
   obtain ⟨t,e⟩:=r1
   subst e
   exact .cons n t (ih r2)
section
variable {X:Cx} {e:Expr} {te:TE} {lo hi:Option Expr} {tl th:TO} {pos p2:Pos}
theorem cJ:PO X none bW:=by
 intro pins s σ H Q I h
 rw [evalPart_none]
 exact Za ⟨none,H,I, .none,h⟩
theorem bY (h:PE X e te):PO X (some e) (dI te):=by
 intro pins s σ H Q I hw
 rw [evalPart_some]
 refine bI (h pins s σ H _ I hw) fun u s1 ⟨x,H1,I1,r1,q1⟩=> ?_
 obtain ⟨i,rfl,q⟩:=q1
 obtain ⟨t,rfl⟩:=r1
 exact ⟨some i,H1,I1, .int i t,q⟩
noncomputable def Jj (X:Cx) (r:V->Option Int->Option Int->Hp->VK->Prop):Prop:=
 ∀ (pins:List (Addr×Obj)) (s:Shared) (σ:St) (H:Hp) (x:V) (v vl vu:Value) (lo hi:Option Int) (sl:Addr) (Q:VK),Inv X pins σ H s->RelV x v->s.heap.IsSliceOf sl vl vu .none->IsPart vl lo->IsPart vu hi->r x lo hi H Q->
  ∃T id,typeLookup (.type T) "__getitem__"=pure (some (.builtin id))/\s.TypeIs v T/\wpAny (model X.prog X.w) X.A (getItem v (.ref sl)) (EP X pins σ Q) X.xe s
noncomputable def vG (r:V->Option Int->Option Int->Hp->VK->Prop) (te:TE) (tl th:TO):TE:=fun σ H Q=>te σ H fun x H1=>tl σ H1 fun l H2=>th σ H2 fun u H3=>r x l u H3 Q
theorem bN {r:V->Option Int->Option Int->Hp->VK->Prop} (hr:Jj X r) (he:PE X e te) (hl:PO X lo tl) (hu:PO X hi th):PE X (.Subscript e (.Slice lo hi none p2) pos) (vG r te tl th):=by
 intro pins s σ H Q I h
 refine Subscript_ (bI (he pins s σ H _ I h) fun v s1 ⟨x,H1,I1,r1,q1⟩=> ?_)
 refine wpAny_Slice (bI (hl pins s1 σ H1 _ I1 q1) fun vl s2 ⟨l,H2,I2,pl,q2⟩=>bI (hu pins s2 σ H2 _ I2 q2) fun vu s3 ⟨u,H3,I3,pu,q3⟩=> ?_)
 rw [evalPart_none]
 refine Za ?_
 have I4:Inv X pins σ H3 { s3 with heap:=s3.heap.push { cls:= .type "slice",data:= .fields #[vl,vu, .none] } }:=I3.kept (t':=s3.toks) fun b ob q=>Zb _ q
 obtain ⟨T,id,hT,ht,hg⟩:=hr pins { s3 with heap:=s3.heap.push { cls:= .type "slice",data:= .fields #[vl,vu, .none] } } σ H3 x v vl vu l u s3.heap.objs.size Q I4 r1 (Heap.IsSliceOf.new ..) pl pu q3
 show wpAny (model X.prog X.w) X.A (subscriptTail e (.Slice lo hi none p2) v (.ref s3.heap.objs.size)) (EP X pins σ Q) X.xe { s3 with heap:=s3.heap.push { cls:= .type "slice",data:= .fields #[vl,vu, .none] } }
 exact tail_any (ops:=[.ref s3.heap.objs.size,v]) ht hT hg (by with_unfolding_all rfl)
noncomputable def dY (xs:List V) (lo hi:Option Int):List V:=(xs.drop (HT.cG xs.length 0 lo)).take (HT.cG xs.length xs.length hi-HT.cG xs.length 0 lo)
theorem j7 (xs:List V) (lo hi:Option Int):(dY xs lo hi).length<=xs.length:=by
 unfold dY
 rw [Yf,Xs]
 rfl'
noncomputable def R5 (K:W.Frag):V->Option Int->Option Int->Hp->VK->Prop:=fun x lo hi H Q=> ∃a xs,x= .ref a/\SqT K H a xs/\
 ¬ (HT.cG xs.length 0 lo=0/\HT.cG xs.length xs.length hi=xs.length)/\ ∀p,H p=none->Q (.ref p) (upd H p (.tup (dY xs lo hi)))
theorem Jk:Jj X (R5 X.K):=by
 intro pins s σ H x v vl vu lo hi sl Q I rx hs pl pu h
 obtain ⟨a,xs,rfl,hx,hw,q⟩:=h
 cases rx
 obtain ⟨its,r,ht,hz⟩:=I.tuple hx
 have hlen:its.toArray.size=xs.length:=by rw [Ya];exact r.length.symm
 refine ⟨"tuple",_,PyProof.Rows.slot_tuple_getitem.lookup,ht.typeIs,?_⟩
 refine HT.ik ht hs pl pu (by rw [hlen];exact hw) ?_ (by rw [hlen];exact hz)
 rw [hlen]
 refine ⟨.ref s.heap.objs.size,_,I.laid (t':=s.toks) (o:= .tup (dY xs lo hi)) (fun b ob q=>Zb _ q) (Zh _) ?_,rfl,q _ (I.hok.fresh (Zh _))⟩
 exact ⟨Nat.le_trans (j7 xs lo hi) hz,_,(r.drop (HT.cG xs.length 0 lo)).take (HT.cG xs.length xs.length hi-HT.cG xs.length 0 lo),IsTup.new _ _⟩
noncomputable def Ny (K:W.Frag):R2:=fun x y H Q=> ∃a b xs ys,x= .ref a/\y= .ref b/\SqT K H a xs/\SqT K H b ys/\xs≠[]/\xs.length+ys.length<=sizeLine/\
 (ys=[]->Q (.ref a) H)/\(ys≠[]-> ∀p,H p=none->Q (.ref p) (upd H p (.tup (xs++ys))))
theorem Vals.nil_iff {xs:List V} {us:List Value} (r:Vals xs us):us=[]↔xs=[]:=by
 cases r with
 | nil=>simp
 | cons _ _=>simp
theorem Ds:gM X (binaryOp .Add) (Ny X.K):=by
 intro pins s σ H x y v u Q I rx ry h
 obtain ⟨a,b,xs,ys,rfl,rfl,ha,hb,hx,hz,q1,q2⟩:=h
 cases rx
 cases ry
 obtain ⟨its,r1,p1,_⟩:=I.tuple ha
 obtain ⟨its2,r2,p2,_⟩:=I.tuple hb
 refine HT.Dr p1 p2 (fun z=>hx (r1.nil_iff.mp z)) (fun z=>⟨.ref a,H,I,rfl,q1 (r2.nil_iff.mp z)⟩) (fun z=> ?_) (by rw [<- r1.length,<- r2.length];exact hz)
 refine ⟨.ref s.heap.objs.size,_,I.laid (t':=s.toks) (o:= .tup (xs++ys)) (fun b ob q=>Zb _ q) (Zh _) ?_,rfl,q2 (fun w=>z (r2.nil_iff.mpr w)) _ (I.hok.fresh (Zh _))⟩
 exact ⟨by rw [Zn];exact hz,_,r1.append r2,IsTup.new _ _⟩
end
noncomputable def Hi (n:Nat) (i:Int):Option Nat:=if 0<=i then (if i<n then some i.toNat else none) else if-(n:Int)<=i then some (i+n).toNat else none
noncomputable def vH {α:Type} (xs:List α) (i:Int):Option α:=(Hi xs.length i).bind fun j=>xs[j]?
theorem ug {n:Nat} {i:Int} {j:Nat} (h:Hi n i=some j):seqIndex? i n=some j/\j<n/\ -(n:Int)<=i/\i<n:=by
 unfold Hi at h
 by_cases h0:0<=i
 ·rw [if_pos h0] at h
  by_cases h1:i<n
  ·rw [if_pos h1] at h
   have e:i.toNat=j:=Yt h
   exact ⟨by rw [seqIndex_of h0 h1,e],by rfl',by rfl',h1⟩
  ·rw [if_neg h1] at h;cases h
 ·rw [if_neg h0] at h
  by_cases h1: -(n:Int)<=i
  ·rw [if_pos h1] at h
   have e:(i+n).toNat=j:=Yt h
   exact ⟨by rw [seqIndex_neg (by rfl') h1,e],by rfl',h1,by rfl'⟩
  ·rw [if_neg h1] at h;cases h
theorem mO {α:Type} {xs:List α} {i:Int} {v:α} (h:vH xs i=some v): ∃j,seqIndex? i xs.length=some j/\xs[j]? =some v/\j<xs.length/\ -(xs.length:Int)<=i/\i<xs.length:=by
 unfold vH at h
 cases e:Hi xs.length i with
 | none=>rw [e] at h;cases h
 | some j=>
  rw [e] at h
  obtain ⟨h1,h2,h3,h4⟩:=ug e
  exact ⟨j,h1,h,h2,h3,h4⟩
theorem aK {α:Type} {xs:List α} {j:Nat} {v:α} (h:xs[j]? =some v):vH xs (j:Int)=some v:=by
 have hj:j<xs.length:=(Xa.mp h).1
 have e:Hi xs.length (j:Int)=some j:=by
  unfold Hi
  rw [if_pos (by rfl'),if_pos (by rfl')];simp
 unfold vH;rw [e];exact h
noncomputable def Dt (b:Expr):Prop:= ∀o i,subscripted b false o i=operate [o,i] (getItem o i)
noncomputable def N8 (X:Cx) (r:R2):Prop:=
 ∀ (value slice:Expr) (pins:List (Addr×Obj)) (s:Shared) (σ:St) (H:Hp) (x y:V) (v u:Value) (Q:VK),Inv X pins σ H s->RelV x v->RelV y u->r x y H Q->
  subscripted slice false v u=operate [v,u] (getItem v u)->wpAny (model X.prog X.w) X.A (subscriptTail value slice v u) (EP X pins σ Q) X.xe s
noncomputable def RM (X:Cx) (id:String) (r:V->List V->Hp->VK->Prop):Prop:=
 ∀ (pins:List (Addr×Obj)) (s:Shared) (σ:St) (H:Hp) (x:V) (xs:List V) (v:Value) (us:List Value) (Q:VK),Inv X pins σ H s->RelV x v->Vals xs us->r x xs H Q->
  wpAny (model X.prog X.w) X.A (call (.builtin id) (v::us)) (EP X pins σ Q) X.xe s
section
variable {X:Cx} {a b:Expr} {ta tb:TE} {pos:Pos}
theorem aV {r:R2} (hr:N8 X r) (ha:PE X a ta) (hb:PE X b tb) (hs:Dt b):PE X (.Subscript a b pos) (aX r ta tb):=by
 intro pins s σ H Q I h
 exact Subscript_ (Jb ha hb I h fun v u s2 x y H2 I2 rx ry q=>hr a b pins s2 σ H2 x y v u Q I2 rx ry q (hs _ _))
noncomputable def dC (K:W.Frag):R2:=fun x y H Q=> ∃p xs i v,x= .ref p/\y= .int i/\SqL K H p xs/\vH xs i=some v/\Q v H
noncomputable def bQ (K:W.Frag):R2:=fun x y H Q=> ∃p xs i v,x= .ref p/\y= .int i/\SqT K H p xs/\vH xs i=some v/\Q v H
noncomputable def Jl:R2:=fun x y H Q=> ∃z i c,x= .str z/\y= .int i/\z.length<=sizeLine/\vH z.cps.toList i=some c/\Q (.str ⟨#[c]⟩) H
theorem Du:N8 X (dC X.K):=by
 intro value slice pins s σ H x y v u Q I rx ry h hs
 obtain ⟨p,xs,i,z,rfl,rfl,hq,he,q⟩:=h
 cases rx
 obtain ⟨t,rfl⟩:=ry
 obtain ⟨its,r,pl,hz⟩:=I.list hq
 obtain ⟨j,h1,h2,h3,h4,h5⟩:=mO he
 obtain ⟨w,ew,rw'⟩:=r.get h2
 have hl:=r.length
 have hn:=iM
 have fin:EP X pins σ Q w s:=⟨z,H,I,rw',q⟩
 by_cases h0:0<=i
 ·have hj:i.toNat=j:=by
   rw [seqIndex_of h0 h5] at h1
   exact Yt h1
  exact item_listR pl.isList h0 (by rfl') (by rw [hj];simpa using ew) fin hs
 ·have hj:(i+(its.toArray.size:Int)).toNat=j:=by
   rw [seqIndex_neg (by rfl') h4] at h1
   rw [Ya,<- hl]
   exact Yt h1
  exact subscriptTail_builtinR (x:=w) pl.isList.typeIs slot_list_getitem.lookup
   (wpAny_getItem_list_neg (Q:=fun r s'=>r=w/\EP X pins σ Q r s') pl.isList (by rfl') (by rw [Ya]<;>rfl') (by rfl') (by rw [hj];simpa using ew) ⟨rfl,fin⟩) hs
theorem Jm:N8 X (bQ X.K):=by
 intro value slice pins s σ H x y v u Q I rx ry h hs
 obtain ⟨p,xs,i,z,rfl,rfl,hq,he,q⟩:=h
 cases rx
 obtain ⟨t,rfl⟩:=ry
 obtain ⟨its,r,pl,hz⟩:=I.tuple hq
 obtain ⟨j,h1,h2,h3,h4,h5⟩:=mO he
 obtain ⟨w,ew,rw'⟩:=r.get h2
 have hl:=r.length
 have hn:=iM
 have fin:EP X pins σ Q w s:=⟨z,H,I,rw',q⟩
 exact subscriptTail_builtinR (x:=w) pl.typeIs slot_tuple_getitem.lookup
  (getItem_tuple (j:=j) (Q:=fun r s'=>r=w/\EP X pins σ Q r s') pl (by rfl') (by rfl') (by rw [Ya,<- hl];exact h1) (by simpa using ew) ⟨rfl,fin⟩) hs
theorem Jo:N8 X Jl:=by
 intro value slice pins s σ H x y v u Q I rx ry h hs
 obtain ⟨z,i,c,rfl,rfl,hz,he,q⟩:=h
 obtain ⟨t,rfl⟩:=rx
 obtain ⟨t',rfl⟩:=ry
 obtain ⟨j,h1,h2,h3,h4,h5⟩:=mO he
 have hl:z.cps.toList.length=z.length:=by simp [Str.length]
 rw [hl] at h1 h4 h5
 have hn:=iM
 exact tail_any (typeIs_str s z t) slot_str_getitem.lookup (getItem_str (c:=c) (by
  have e1:decide (i< -(2^63:Int))=false:=Zp (by rfl')
  have e2:decide (i>=2^63)=false:=Zp (by rfl')
  rw [e1,e2,Bool.or_false]) (by rw [h1];simpa using h2) ⟨.str ⟨#[c]⟩,H,I.tok _,⟨_,rfl⟩,q⟩) hs
theorem qW (its:List Value) (n j:Nat) (u:Value):Obj.mapSeq (·.setIfInBounds j u) { cls:= .type "list",data:= .seq its.toArray n }={ cls:= .type "list",data:= .seq (its.set j u).toArray n }:=by
 simp [Obj.mapSeq]
theorem Inv.lst {pins:List (Addr×Obj)} {σ:St} {H:Hp} {s:Shared} {p:Addr} {xs:List V} (I:Inv X pins σ H s) (h:H p=some (.lst xs)):
  ∃ (its:List Value) (n:Nat),Vals xs its/\s.heap.get? p=some { cls:= .type "list",data:= .seq its.toArray n }/\xs.length<=sizeLine:=by
 obtain ⟨z,its,n,r,e⟩:=I.hok p _ h
 exact ⟨its,n,r,e,z⟩
theorem Inv.lstUpd {pins:List (Addr×Obj)} {σ:St} {H:Hp} {s:Shared} {p:Addr} {xs ys:List V} {its its':List Value} {n n':Nat} {f:Obj->Obj} (I:Inv X pins σ H s) (h:H p=some (.lst xs))
  (ho:s.heap.get? p=some { cls:= .type "list",data:= .seq its.toArray n }) (hf:f { cls:= .type "list",data:= .seq its.toArray n }={ cls:= .type "list",data:= .seq its'.toArray n' }) (r:Vals ys its') (hz:ys.length<=sizeLine) (t:Nat):
  Inv X pins σ (upd H p (.lst ys)) { s with heap:=s.heap.update p f,toks:=t }:=by
 have e:(s.heap.update p f).get? p=some { cls:= .type "list",data:= .seq its'.toArray n' }:=by
  rw [Xx f ho (by rw [hf]<;>rfl),hf]
 refine I.write (x:=p) (e:=p) (by rw [h];trivial) (.inl rfl) (fun b u hb q=>(Heap.get?_update_other _ _ (Ne.symm hb)).trans q) ⟨_,e⟩ ?_
 exact ⟨hz,its',n',r,e⟩
noncomputable def uh:V->V->V->Hp->(Hp->Prop)->Prop:=fun o i v H Q=> ∃p xs k j,o= .ref p/\i= .int k/\H p=some (.lst xs)/\Hi xs.length k=some j/\Q (upd H p (.lst (xs.set j v)))
theorem set_list:Np X uh:=by
 intro pins s σ H o i v ov iv u Q I ro ri rv h
 obtain ⟨p,xs,k,j,rfl,rfl,hp,hj,q⟩:=h
 cases ro
 obtain ⟨t,rfl⟩:=ri
 obtain ⟨its,n,r,ho,hz⟩:=I.lst hp
 obtain ⟨h1,h2,h3,h4⟩:=ug hj
 have hl:=r.length
 have hn:=iM
 have I':Inv X pins σ (upd H p (.lst (xs.set j v))) { s with heap:=s.heap.update p (Obj.mapSeq (·.setIfInBounds j u)) }:=
  I.lstUpd hp ho (qW its n j u) (r.set rv j) (by rw [List.length_set];exact hz) s.toks
 by_cases h0:0<=k
 ·have hk:k.toNat=j:=by
   rw [seqIndex_of h0 h4] at h1
   exact Yt h1
  exact PySem.W.ki_setAt ho h0 (by rfl') (by rw [Ya,<- hl];exact h4) (by rw [hk];exact ⟨_,I',q⟩)
 ·have hk:(k+(its.toArray.size:Int)).toNat=j:=by
   rw [seqIndex_neg (by rfl') h3] at h1
   rw [Ya,<- hl]
   exact Yt h1
  exact PySem.W.ki_setBack ho (by rfl') (by rw [Ya,<- hl];exact h3) (by rfl') (by rw [hk];exact ⟨_,I',q⟩)
theorem mQ (lo hi:Option Int) (n:Nat):(sliceBounds lo hi none n).1=((HT.cG n 0 lo:Nat):Int)/\(sliceBounds lo hi none n).2.1=((HT.cG n n hi:Nat):Int)/\(sliceBounds lo hi none n).2.2=1:=by
 refine ⟨?_,?_,rfl⟩
 ·cases lo with
  | none=>simp [sliceBounds,HT.cG]
  | some i=>
   simp only [sliceBounds,HT.cG,Option.getD_none,show (1:Int)>0 by decide,if_true]
   by_cases h:i<0
   ·simp only [h,if_true]<;>rfl'
   ·simp only [h,Xg]<;>rfl'
 ·cases hi with
  | none=>simp [sliceBounds,HT.cG]
  | some i=>
   simp only [sliceBounds,HT.cG,Option.getD_none,show (1:Int)>0 by decide,if_true]
   by_cases h:i<0
   ·simp only [h,if_true]<;>rfl'
   ·simp only [h,Xg]<;>rfl'
theorem lC (its:List Value) (lo hi:Option Int):slicePick its.toArray lo hi none=((its.drop (HT.cG its.length 0 lo)).take (HT.cG its.length its.length hi-HT.cG its.length 0 lo)).toArray:=by
 obtain ⟨h1,h2,h3⟩:=mQ lo hi its.toArray.size
 unfold slicePick
 rw [h1,h2,h3]
 simp only [sliceRange_one,pick_run,Ya]<;>rfl
noncomputable def xH (K:W.Frag):V->Option Int->Option Int->Hp->VK->Prop:=fun x lo hi H Q=> ∃a xs,x= .ref a/\SqL K H a xs/\ ∀p,H p=none->Q (.ref p) (upd H p (.lst (dY xs lo hi)))
theorem Dv:Jj X (xH X.K):=by
 intro pins s σ H x v vl vu lo hi sl Q I rx hs pl pu h
 obtain ⟨a,xs,rfl,hx,q⟩:=h
 cases rx
 obtain ⟨its,r,ht,hz⟩:=I.list hx
 have hlen:=r.length
 refine ⟨"list",_,slot_list_getitem.lookup,ht.isList.typeIs,?_⟩
 refine wpAny_getItem_list_slice ht.isList hs pl pu .none (by simp) ?_ (by rw [Ya]<;>rfl')
 rw [lC,<- hlen]
 refine ⟨.ref s.heap.objs.size,_,I.laid (t':=s.toks) (o:= .lst (dY xs lo hi)) (fun b ob q=>Zb _ q) (Zh _) ?_,rfl,q _ (I.hok.fresh (Zh _))⟩
 exact ⟨Nat.le_trans (j7 xs lo hi) hz,_,0,(r.drop (HT.cG xs.length 0 lo)).take (HT.cG xs.length xs.length hi-HT.cG xs.length 0 lo),Zm _ rfl⟩
noncomputable def dJ:V->Bool
 | .non=>true
 | .bl _=>true
 | .int _=>true
 | .str _=>true
 | _=>false
noncomputable def wJ:V->V->Bool
 | .non, .non=>true
 | .bl a, .bl b=>a==b
 | .bl a, .int b=>(if a then 1 else 0)==b
 | .int a, .bl b=>a==(if b then 1 else 0)
 | .int a, .int b=>a==b
 | .str a, .str b=>a==b
 | _,_=>false
theorem Jp {A:Around} {s:Shared} {y x:V} {u v:Value} (ry:RelV y u) (rx:RelV x v) (fy:dJ y=true) (fx:dJ x=true):SeqAt.EqAt A s u v (wJ y x):=by
 cases y with
 | non=>
  cases ry
  cases x with
  | non=>cases rx;exact SeqAt.EqAt.same _
  | bl b=>cases rx;exact SeqAt.EqAt.none_bool b
  | int b=>obtain ⟨t,rfl⟩:=rx;exact SeqAt.EqAt.none_int b t
  | str b=>obtain ⟨t,rfl⟩:=rx;exact SeqAt.EqAt.none_str b t
  | _=>exact absurd (show false=true from fx) Zl
 | bl a=>
  cases ry
  cases x with
  | non=>cases rx;exact SeqAt.EqAt.bool_none a
  | bl b=>cases rx;exact SeqAt.EqAt.bool_bool a b
  | int b=>obtain ⟨t,rfl⟩:=rx;exact SeqAt.EqAt.bool_int a b t
  | str b=>obtain ⟨t,rfl⟩:=rx;exact SeqAt.EqAt.bool_str a b t
  | _=>exact absurd (show false=true from fx) Zl
 | int a=>
  obtain ⟨t',rfl⟩:=ry
  cases x with
  | non=>cases rx;exact SeqAt.EqAt.int_none a t'
  | bl b=>cases rx;exact SeqAt.EqAt.int_bool a t' b
  | int b=>obtain ⟨t,rfl⟩:=rx;exact SeqAt.EqAt.int_int a t' b t
  | str b=>obtain ⟨t,rfl⟩:=rx;exact SeqAt.EqAt.int_str a t' b t
  | _=>exact absurd (show false=true from fx) Zl
 | str a=>
  obtain ⟨t',rfl⟩:=ry
  cases x with
  | non=>cases rx;exact SeqAt.EqAt.str_none a t'
  | bl b=>cases rx;exact SeqAt.EqAt.str_bool a t' b
  | int b=>obtain ⟨t,rfl⟩:=rx;exact SeqAt.EqAt.str_int a t' b t
  | str b=>obtain ⟨t,rfl⟩:=rx;exact SeqAt.EqAt.str_str a t' b t
  | _=>exact absurd (show false=true from fx) Zl
 | _=>exact absurd (show false=true from fy) Zl
noncomputable def Dw (x:V) (u:Value):Bool:=match u with
 | .none=>wJ .non x
 | .bool b=>wJ (.bl b) x
 | .int i _=>wJ (.int i) x
 | .str z _=>wJ (.str z) x
 | _=>false
theorem xJ {x y:V} {u:Value} (r:RelV y u) (f:dJ y=true):Dw x u=wJ y x:=by
 cases y with
 | non=>cases r;rfl
 | bl b=>cases r;rfl
 | int i=>obtain ⟨t,rfl⟩:=r;rfl
 | str z=>obtain ⟨t,rfl⟩:=r;rfl
 | _=>exact absurd (show false=true from f) Zl
theorem mR {x:V}: ∀ {xs:List V} {us:List Value},Vals xs us->xs.all dJ=true->us.any (Dw x)=xs.any fun y=>wJ y x
 | _,_, .nil,_=>rfl
 | y::xs,u::us, .cons r t,f=>by
  rw [List.all_cons,Bool.and_eq_true] at f
  rw [List.any_cons,List.any_cons,xJ r f.1,mR t f.2]
theorem jA {A:Around} {s:Shared} {x:V} {v:Value} (rx:RelV x v) (fx:dJ x=true): ∀ {xs:List V} {us:List Value},Vals xs us->xs.all dJ=true-> ∀u∈us,SeqAt.EqAt A s u v (Dw x u)
 | _,_, .nil,_=>fun u hu=>by cases hu
 | y::xs,u::us, .cons r t,f=>fun u' hu=>by
  rw [List.all_cons,Bool.and_eq_true] at f
  rcases Zu.mp hu with rfl | hu
  ·rw [xJ r f.1];exact Jp r rx f.1 fx
  ·exact jA rx fx t f.2 u' hu
noncomputable def inV (x:V) (xs:List V):Bool:=xs.any fun y=>wJ y x
noncomputable def Nz (K:W.Frag) (neg:Bool):R2:=fun x y H Q=> ∃p xs,y= .ref p/\(SqL K H p xs\/SqT K H p xs)/\dJ x=true/\xs.all dJ=true/\Q (.bl (if neg then !inV x xs else inV x xs)) H
theorem mU:gM X (compareOp .NotIn) (Nz X.K true):=by
 intro pins s σ H x y v u Q I rx ry h
 obtain ⟨p,xs,rfl,hq,fx,fs,q⟩:=h
 cases ry
 rcases hq with hq | hq
 ·obtain ⟨its,r,pl,hz⟩:=I.list hq
  refine SeqAt.notIn_listAt (Dw x) pl.isList (fun w hw=>jA rx fx r fs w (by simpa using hw)) ⟨.bl _,H,I,rfl,?_⟩
  rw [show its.toArray.any (Dw x)=its.any (Dw x) by simp,mR r fs]
  exact q
 ·obtain ⟨its,r,pl,hz⟩:=I.tuple hq
  refine SeqAt.notIn_tupleAt (Dw x) pl (fun w hw=>jA rx fx r fs w (by simpa using hw)) ⟨.bl _,H,I,rfl,?_⟩
  rw [show its.toArray.any (Dw x)=its.any (Dw x) by simp,mR r fs]
  exact q
theorem lD:cg X (.type "tuple") (fun xs H Q=> ∃p ys,xs=[.ref p]/\((SqL X.K H p ys/\ ∀l,H l=none->Q (.ref l) (upd H l (.tup ys)))\/(SqT X.K H p ys/\Q (.ref p) H))):=by
 intro pins s σ H xs us Q I r h
 obtain ⟨p,ys,rfl,h⟩:=h
 obtain ⟨u,rfl,rx⟩:=vals1 r
 cases rx
 rcases h with ⟨hq,q⟩ | ⟨hq,q⟩
 ·obtain ⟨its,r',pl,hz⟩:=I.list hq
  have hlen:=r'.length
  refine call_tuple_list pl.isList (fun h' kp=> ?_) (by simp only [Ya]<;>rfl')
  have I1:Inv X pins σ H { s with heap:=h' }:=I.kept (t':=s.toks) kp
  have I2:Inv X pins σ (upd H h'.objs.size (.tup ys)) { s with heap:=h'.push { cls:= .type "tuple",data:= .seq its.toArray } }:=
   I1.laid (t':=s.toks) (fun b o e=>Zb _ e) (Zh _) (show ObjOk X.prog X.w _ _ _ (.tup ys) from ⟨hz,its,r',IsTup.new _ _⟩)
  exact ⟨.ref h'.objs.size,_,I2,rfl,q _ (I1.hok.fresh (Zh _))⟩
 ·obtain ⟨its,r',pl,hz⟩:=I.tuple hq
  exact call_tuple_same pl ⟨.ref p,H,I,rfl,q⟩
noncomputable def Nb (K:W.Frag) (T:String) (x:V) (H:Hp):Prop:=match x with
 | .str _=>T="str"
 | .int _=>T="int"
 | .ref p=>(T="list"/\ ∃xs,SqL K H p xs)\/(T="tuple"/\ ∃o,K.lookup p=some o/\o.cls= .type "tuple"/\o.dict=none)\/
   (T="dict"/\((∃kvs,H p=some (.dK kvs))\/ ∃kvs,H p=some (.dT kvs)))\/(T="set"/\ ∃S n,H p=some (.set S n))
 | _=>False
theorem Jq {pins:List (Addr×Obj)} {σ:St} {H:Hp} {s:Shared} {T:String} {x:V} {v:Value} (I:Inv X pins σ H s) (r:RelV x v) (ty:Nb X.K T x H):
  s.TypeIs v T/\ ∀a,v= .ref a-> ∃ob,s.heap.get? a=some ob/\ob.dict=none:=by
 cases x with
 | str z=>
  obtain ⟨t,rfl⟩:=r
  cases (show T="str" from ty)
  exact ⟨typeIs_str s z t,fun _ e=>nomatch e⟩
 | int i=>
  obtain ⟨t,rfl⟩:=r
  cases (show T="int" from ty)
  exact ⟨typeIs_int s i t,fun _ e=>nomatch e⟩
 | ref p=>
  cases r
  rcases ty with ⟨rfl,xs,hq⟩ | ⟨rfl,o,hk,hc,hd⟩ | ⟨rfl,hk⟩ | ⟨rfl,S,n,hk⟩
  ·obtain ⟨its,_,pl,_⟩:=I.list hq
   refine ⟨pl.isList.typeIs,fun a e=> ?_⟩
   cases e
   obtain ⟨o,n,e,c,hd,_⟩:=pl
   exact ⟨o,e,hd⟩
  ·refine ⟨⟨o,I.kIn p o hk,hc⟩,fun a e=> ?_⟩
   cases e
   exact ⟨o,I.kIn _ o hk,hd⟩
  ·have z: ∃o,s.heap.get? p=some o/\o.ExactDict:=by
    rcases hk with ⟨kvs,hk⟩ | ⟨kvs,hk⟩
    ·obtain ⟨_,_,_,_,o,_,_,e,ex,_⟩:=I.hok p _ hk
     exact ⟨o,e,ex⟩
    ·obtain ⟨_,_,_,_,o,_,_,e,ex,_⟩:=I.hok p _ hk
     exact ⟨o,e,ex⟩
   obtain ⟨o,e,ex⟩:=z
   refine ⟨⟨o,e,ex.1⟩,fun a e2=> ?_⟩
   cases e2
   exact ⟨o,e,ex.2.1⟩
  ·obtain ⟨o,_,_,_,e,ex,_⟩:=I.hok p _ hk
   refine ⟨⟨o,e,ex.1⟩,fun a e2=> ?_⟩
   cases e2
   exact ⟨o,e,ex.2.1⟩
 | _=>exact False.elim ty
noncomputable def Tp (K:W.Frag) (T:String) (r:V->List V->Hp->VK->Prop) (to:TE):TE:=fun σ H Q=>to σ H fun x H1=>Nb K T x H1/\r x [] H1 Q
noncomputable def xK (K:W.Frag) (T:String) (r:V->List V->Hp->VK->Prop) (to:TE) (t:TA):TE:=fun σ H Q=>to σ H fun x H1=>Nb K T x H1/\t σ H1 fun xs H2=>r x xs H2 Q
variable {o e:Expr} {es:List Expr} {to:TE} {t:TA} {name:Str} {apos cpos:Pos} {T id:String} {r:V->List V->Hp->VK->Prop}
theorem NB (pa:PlainAttrs T) (slot:Slot T name id) (hty:typeOf (.builtin id)=pure (.type "method_descriptor")) (hm:RM X id r) (ho:PE X o to) (ha:PA X (e::es) t)
  (hbase:attributeBase o name X.env (eval o X.env)=eval o X.env:=by rfl)
  (hfew:((backTo cpos (starEach (e::es) X.env)).all (fun x=> !x.1)&&(backToKw cpos (keywordEach [] X.env)).all (fun x=>x.1.isSome)
   &&decide ((e::es).length+([]:List Keyword).length+(if ([]:List Keyword).isEmpty then 0 else 1)<30))=true:=by rfl)
  (hline:(apos.endLine==cpos.line)=true:=by rfl) (hs:starEach (e::es) X.env=(false,eval e X.env)::starEach es X.env:=by rfl) (hplain:(backTo cpos (starEach es X.env)).any (·.1)=false:=by rfl):
  PE X (.Call (.Attribute o name apos) (e::es) [] cpos) (xK X.K T r to t):=by
 intro pins s σ H Q I h
 refine wpAny_Call_method_late hbase hfew hline rfl (bI (ho pins s σ H _ I h) fun v s1 ⟨x,H1,I1,r1,ty,q1⟩=> ?_)
 obtain ⟨h1,h2⟩:=Jq I1 r1 ty
 refine ⟨T,id,pa,slot,hty,h1,h2,?_⟩
 have hA:=ha cpos pins s1 σ H1 _ I1 q1
 rw [hs] at hA ⊢
 refine Calls.callWith_builtin (by show (false||(backTo cpos (starEach es X.env)).any (·.1))=false;rw [hplain]<;>rfl) (Calls.evalArgs_plain ?_)
 exact bI hA fun us s2 ⟨vs,H2,I2,r2,q2⟩=>hm pins s2 σ H2 x vs v us Q I2 r1 r2 q2
end
noncomputable def RN (X:Cx) (id:String) (r:V->List V->Hp->VK->Prop):Prop:=
 ∀ (pins:List (Addr×Obj)) (s:Shared) (σ:St) (H:Hp) (x:V) (xs:List V) (v:Value) (us:List Value) (Q:VK),Inv X pins σ H s->RelV x v->Vals xs us->r x xs H Q->
  wpAny (model X.prog X.w) X.A (call (.builtin id) (v::us)) (EP X pins σ Q) X.xe s
theorem Vals.one: ∀ {x:V} {us:List Value},Vals [x] us-> ∃u,us=[u]/\RelV x u
 | _,_, .cons r .nil=>⟨_,rfl,r⟩
theorem Vals.two: ∀ {x y:V} {us:List Value},Vals [x,y] us-> ∃u v,us=[u,v]/\RelV x u/\RelV y v
 | _,_,_, .cons r (.cons q .nil)=>⟨_,_,rfl,r,q⟩
theorem Vals.eraseIdx: ∀ {xs:List V} {us:List Value} (i:Nat),Vals xs us->Vals (xs.eraseIdx i) (us.eraseIdx i)
 | _,_,_, .nil=> .nil
 | _,_,0, .cons _ t=>t
 | _,_,i+1, .cons r t=> .cons r (Vals.eraseIdx i t)
theorem lQ {α:Type}: ∀ (l:List α) (i:Nat),(l.eraseIdx i).length<=l.length
 | [],_=>Zh _
 | _::_,0=>Nat.le_succ _
 | _::r,i+1=>Nat.succ_le_succ (lQ r i)
section
variable {X:Cx} {pins:List (Addr×Obj)} {σ:St} {H:Hp} {s:Shared} {l b:Addr} {xs ys zs:List V}
theorem Inv.lset {its its':List Value} {n:Nat} {f:Array Value->Array Value} {t':Nat} (I:Inv X pins σ H s) (hH:H l=some (.lst xs))
  (e:s.heap.get? l=some { cls:= .type "list",data:= .seq its.toArray n }) (hf:f its.toArray=its'.toArray) (hv:Vals ys its') (hz:ys.length<=sizeLine):
  Inv X pins σ (upd H l (.lst ys)) { s with heap:=s.heap.update l (Obj.mapSeq f),toks:=t' }:=by
 have q:=PySem.IsL.update e f
 rw [hf] at q
 refine I.write (x:=l) (e:=l) (by rw [hH];exact trivial) (.inl rfl) (fun b' u hb hu=>(Heap.get?_update_other s.heap (Obj.mapSeq f) (Ne.symm hb)).trans hu) ⟨_,q⟩ ?_
 exact ⟨hz,its',_,hv,q⟩
theorem Inv.lstM (I:Inv X pins σ H s) (hH:H l=some (.lst xs)):xs.length<=sizeLine/\ ∃ (its:List Value) (n:Nat),Vals xs its/\xs.length=its.length/\s.heap.get? l=some { cls:= .type "list",data:= .seq its.toArray n }:=by
 obtain ⟨z,its,n,r,e⟩:=I.hok l _ hH
 exact ⟨z,its,n,r,r.length,e⟩
end
section
variable {X:Cx}
noncomputable def cY:V->List V->Hp->VK->Prop:=fun x vs H Q=> ∃l xs y,x= .ref l/\vs=[y]/\H l=some (.lst xs)/\xs.length<sizeLine/\Q .non (upd H l (.lst (xs++[y])))
theorem cH:RN X "list.append" cY:=by
 intro pins s σ H x vs v us Q I rx rv h
 obtain ⟨l,xs,y,rfl,rfl,hH,hz,q⟩:=h
 cases rx
 obtain ⟨u,rfl,ru⟩:=rv.one
 obtain ⟨z,its,n,r,hl,e⟩:=I.lstM hH
 refine call_meets F.slot_list_append ⟨_,e,rfl⟩ F.entry_list_append (F.args_list_append_2 _ _) (PySem.list_append l its.toArray n u (by rw [Ya];rfl')) ⟨e,?_⟩
 refine ⟨.non,_,I.lset (its':=its++[u]) hH e (by simp) (r.append (.cons ru .nil)) ?_,rfl,q⟩
 rw [Zn,We]
 rfl'
noncomputable def qX:V->List V->Hp->VK->Prop:=fun x vs H Q=> ∃l xs i k y,x= .ref l/\vs=[.int i]/\H l=some (.lst xs)/\ -(2^63)<=i/\i<2^63/\seqIndex? i xs.length=some k/\xs[k]? =some y/\Q y (upd H l (.lst (xs.eraseIdx k)))
theorem xM:RN X "list.pop" qX:=by
 intro pins s σ H x vs v us Q I rx rv h
 obtain ⟨l,xs,i,k,y,rfl,rfl,hH,h1,h2,hk,hy,q⟩:=h
 cases rx
 obtain ⟨u,rfl,ru⟩:=rv.one
 obtain ⟨t,rfl⟩:=ru
 obtain ⟨z,its,n,r,hl,e⟩:=I.lstM hH
 obtain ⟨w,hw,rw'⟩:=r.get hy
 refine call_meets F.slot_list_pop ⟨_,e,rfl⟩ F.entry_list_pop (F.args_list_pop_2 _ _)
  (MeetsSeq.list_pop_at l its.toArray n i t k w (fitsIndex_both h1 h2) (by rw [Ya,<- hl];exact hk) (by rw [<- Yr];exact hw) (by rw [Ya];rfl')) ⟨e,?_⟩
 refine ⟨y,_,I.lset (its':=its.eraseIdx k) hH e ?_ (r.eraseIdx k) ?_,rw',q⟩
 ·show its.toArray.eraseIdxIfInBounds k=(its.eraseIdx k).toArray
  rw [List.eraseIdxIfInBounds_toArray]
 ·have:=lQ xs k
  rfl'
end
end L2
namespace Att
open PySem PySem.W PySem.Calls PyProof.Rows
theorem ji {P:Params} {h:Heap}: ∀ (ns:List Int) (vs:List Value),WellAll P h vs (ns.map WData.int)->IntsAre vs ns:=by
 intro ns
 induction ns with
 | nil=>
  intro vs w
  rw [List.map_nil] at w
  cases w
  exact .nil
 | cons n ns ih=>
  intro vs w
  rw [Zr] at w
  cases w with
  | cons a b=>
   cases a
   exact .cons _ _ (ih _ b)
theorem vI {l:OpenLaw} {n:Nat} (hn:l.most=some n) {P:Params} {h:Heap} {args:List WData} {vals:List Value}
  (hpre:l.row.toRowW.claim.pre args=true) (hwl:WellAll P h vals args):
  ∃a vs ns,vals=[Value.ref a]/\args=[WData.list (ns.map WData.int)]/\h.get? a=some { cls:= .type "list",data:= .seq vs.toArray }/\IntsAre vs ns/\ns.length<=n:=by
 have hsh:WShape.hasAll [] args [.list .int]=true:=(pre_splitW hpre).1
 have hc:l.pre.holds [] { args:=args }=true:=(pre_splitW hpre).2
 obtain ⟨d,r,rfl,h1,h2⟩:=hasAllW_cons hsh
 obtain rfl:=hasAllW_nil h2
 obtain ⟨xs,rfl,h3⟩:=hasW_list h1
 obtain ⟨ns,rfl⟩:=items_int h3
 have hlen:ns.length<=n:=by
  unfold OpenLaw.pre at hc
  have h4:(WTm.not (.lt (.lit (.int (n:Int))) (.len (.arg 0)))).holds [] { args:=[.list (ns.map .int)] }=true:=by
   have h4:=(holds_andW hc).1
   rw [hn] at h4
   exact h4
  have h5:=condW_of h4 (w_not (w_lt w_lit (w_len_list (w_arg rfl))))
  rw [Qr] at h5
  refine Nat.le_of_not_lt fun q=> ?_
  have q':(n:Int)<((ns.length:Nat):Int):=by rfl'
  first
   | (rw [Ym q'] at h5;exact absurd h5 (by decide))
   | (simp at h5;rfl')
 cases hwl with
 | cons w1 w2=>
  cases w2
  cases w1 with
  | list ho hall=>exact ⟨_,_,ns,rfl,rfl,ho,ji ns _ hall,hlen⟩
theorem vJ (l:OpenLaw) (args:List WData):l.row.toRowW.claim.post args (.bool true) args=true:=
 postW_of (r:=l.row.toRowW) (X:=(true==true))
  (show WShape.has [] (.bool true) .bool=true by first | rfl | decide | simp [WShape.has,WShape.arms,WShape.armsAll])
  (show (WTm.eq .res (.lit (.bool true))).value [] { args:=args,res:=some (.bool true),after:=args }=some (.bool (true==true)) from w_eq_bool (w_res rfl) w_lit) rfl
section
variable {prog:Program} {w:World} {A:Around} {E:Value->Shared->Prop} {s:Shared} {K:Frag}
noncomputable def ledger (h:Heap) (L d:Addr):List (Addr×Obj):=(List.range h.objs.size).filterMap fun a=>if a=L\/a=d then none else (h.get? a).map fun o=>(a,o)
end
end Att
namespace L2
open PySem PySem.Spec PyProof.Rows
theorem lR: ∀ {vs:List Value} {ns:List Int},IntsAre vs ns->Vals (ns.map V.int) vs
 | _,_, .nil=> .nil
 | _,_, .cons n t h=> .cons ⟨t,rfl⟩ (lR h)
noncomputable def Only (H:Hp):Prop:= ∀b,H b=none\/ ∃o xs,H b=some (.frz o (.lst xs))
theorem xN {P:Program} {w:World} {K:W.Frag} {mg mb:Str->Option Value} {CX:wI} {k:Nat} {fa a:Addr} {fd:FuncData} {x:Str} {sp:Sp} {s₁:Shared} {vs:List Value} {ns:List Int}
  (KX:K.In s₁.heap) (hns:s₁.heap.Ns mainGlobals mg) (hb:s₁.heap.Ns builtinsNs mb) (hbb: ∀x:Str,x≠"__name__"->mb x=bootBuiltins x) (hlim:s₁.heap.NoLimit) (hg:s₁.gens= #[])
  (ha:s₁.heap.get? a=some { cls:= .type "list",data:= .seq vs.toArray }) (hi:IntsAre vs ns) (hl:ns.length<=sizeLine) (hr:Room k callerA)
  (F: ∀base:Heap,K.In base->base.Ns mainGlobals mg->FnOk P w K mg base CX k fa fd [x] sp) (hbind: ∀ (s:Shared) (u:Value),BindsTo s fd ⟨[u],[]⟩ [(x,u)])
  (hsp: ∀H:Hp,Only H->SqL K H a (ns.map V.int)->sp [.ref a] H (fun v _=>v= .bl true) fun _ _ _=>False)
  (hCX: ∀H e s',CX [] H s₁ (fun _ _ _=>False) e s'->False):
  codeAny (model P w) callerA (.call (.ref fa) ⟨[.ref a],[]⟩) (fun r s'=>r= .ok (.ret (.bool true))/\OldK s₁.heap s'.heap/\s'.os=s₁.os/\AllBare s'.gens) s₁:=by
 have rv:=lR hi
 have lenV:=hi.length
 have core : ∀ H : Hp, Only H -> SqL K H a (ns.map V.int) -> HOk P w H s₁.heap -> (∀ b, H b ≠ none -> b = a) -> (H a ≠ none -> K.lookup a = none) ->
   codeAny (model P w) callerA (.call (.ref fa) ⟨[.ref a],[]⟩) (fun r s'=>r= .ok (.ret (.bool true))/\OldK s₁.heap s'.heap/\s'.os=s₁.os/\AllBare s'.gens) s₁:=by
  intro H hO hS hok hA hK
  have base_of: ∀ {b:Addr} {o:Obj},s₁.heap.get? b=some o->H b=none->(mK s₁.heap H).get? b=some o:=fun e n=>wL e n
  have noA: ∀ {b:Addr} {o:Obj} {es:Array DictEntry} {ep:Nat},s₁.heap.get? b=some o->o.data= .dict es ep->H b=none:=fun {b o es ep} e d=>by
   cases q:H b with
   | none=>rfl
   | some u=>
    have e':b=a:=hA b (by rw [q];simp)
    subst e'
    rw [ha] at e;cases e
    have d':Data.seq vs.toArray _=Data.dict es ep:=d
    cases d'
  have nsK: ∀ {b:Addr} {m:Str->Option Value},s₁.heap.Ns b m->(mK s₁.heap H).Ns b m:=fun {b m} ⟨o,es,ep,e,d,r⟩=>⟨o,es,ep,base_of e (noA e d),d,r⟩
  have hKb:K.In (mK s₁.heap H):=fun b o e=>base_of (KX b o e) (by
   cases q:H b with
   | none=>rfl
   | some u=>
    have e':b=a:=hA b (by rw [q];simp)
    subst e'
    rw [hK (by rw [q];simp)] at e;cases e)
  have hM:Mod K mg (mK s₁.heap H):=⟨hKb,nsK hns,⟨mb,nsK hb,hbb⟩,let ⟨mc,h1,h2⟩:=hlim;⟨mc,nsK h1,h2⟩⟩
  have e0:Env0 P w K mg (mK s₁.heap H) callerA [] s₁ H:=⟨rfl,hM,fun b o e=>CZ e,Nat.le_of_eq (vp _ _),trivial,fun b hb=>absurd (show b∈([]:List Addr) from hb) (by simp),hok, .of_eq hg⟩
  refine codeAny_mono ((F _ hKb (nsK hns)).run callerA [] s₁ H ⟨[.ref a],[]⟩ [.ref a] [.ref a] _ _ hr e0 (hbind s₁ (.ref a)) (.cons rfl .nil) (hsp H hO hS)) fun r s' h=> ?_
  cases r with
  | error e=>exact (hCX H e s' h).elim
  | ok fl=>
   cases fl with
   | next=>exact False.elim h
   | brk=>exact False.elim h
   | cont=>exact False.elim h
   | ret u=>
    obtain ⟨v,H',os,bare,un,hok',r',q⟩:=h
    have q':v= .bl true:=q
    subst q'
    obtain rfl:u=Value.bool true:=r'
    refine ⟨rfl,OldK.of_keep fun b o e=> ?_,os,bare⟩
    cases q:H b with
    | none=>exact un.keep b o e q (by intro z;exact absurd (show b∈([]:List Addr) from z) (by simp)) (by simp)
    | some u=>
     rcases hO b with z | ⟨ob,xs,z⟩
     ·rw [q] at z;cases z
     ·have z2:=un.frzs b ob _ z
      obtain ⟨e1,_⟩:=hok b _ z
      obtain ⟨e2,_⟩:=hok' b _ z2
      rw [e] at e1;cases e1
      exact e2
 cases hk:K.lookup a with
 | some o=>
  have e:=KX a o hk
  rw [ha] at e
  cases e
  refine core (fun _=>none) (fun _=> .inl rfl) (.inr ⟨_,vs.toArray,_,hk,rfl,rfl,rfl,by rw [Ya,lenV];exact hl,by simpa using rv⟩) (fun b u z=>by have z':(none:Option HO)=some u:=z;cases z') (fun b z=>absurd rfl z) fun z=>absurd rfl z
 | none=>
  refine core (fun b=>if b=a then some (.frz { cls:= .type "list",data:= .seq vs.toArray } (.lst (ns.map V.int))) else none) (fun b=> ?_) (.inl (.inr ⟨{ cls:= .type "list",data:= .seq vs.toArray },if_pos rfl⟩)) (fun b u z=> ?_) (fun b z=> ?_) fun _=>hk
  ·by_cases hb:b=a
   ·exact .inr ⟨_,_,if_pos hb⟩
   ·exact .inl (if_neg hb)
  ·by_cases hb:b=a
   ·have z':=(if_pos hb).symm.trans z
    cases z'
    subst hb
    exact ⟨ha,by rw [Qr];exact hl,vs,_,rv,ha⟩
   ·have z':=(if_neg hb).symm.trans z
    cases z'
  ·by_cases hb:b=a
   ·exact hb
   ·exact absurd (if_neg hb) z
noncomputable abbrev KOf {K:W.Frag} {h:Heap} (_:K.In h):W.Frag:=K
noncomputable def dM (s:Stmt):Arguments:=match s with
 | .FunctionDef _ a _ _ _ _ _ _ _ _=>a
 | _=>{ posonlyargs:=[],args:=[],vararg:=none,kwonlyargs:=[],kw_defaults:=[],kwarg:=none,defaults:=[] }
noncomputable def cZ (s:Stmt):List Stmt:=match s with
 | .FunctionDef _ _ b _ _ _ _ _ _ _=>b
 | _=>[]
noncomputable def aD (s:Stmt):Scope:=match s with
 | .FunctionDef _ _ _ _ _ _ sc _ _ _=>sc
 | _=>{ kind:= .function,names:=[],isGenerator:=false,isCoroutine:=false }
noncomputable abbrev gH:wI:=fun _ _ _ _ _ _=>False
noncomputable abbrev E0:XK:=fun _ _ _=>False
theorem NK {X:Cx}:qQ gH X E0:=fun _ _ _ _ _ _ _ h=>h.elim
structure Fun (K:W.Frag) (x qual:Str) (st:Stmt) (f:Addr) (fd:FuncData):Prop where
 ex: ∃ (oc:Value) (od:Option Addr) (kV doc pm:Value) (an:Option Addr) (cdv ct:Value) (osl:Array (Option Value)),
  fd=W.fnOf x qual (dM st) (cZ st) (aD st) .none kV doc pm an cdv ct/\K.lookup f=some ⟨oc,od, .func fd,osl⟩/\W.codeIn K cdv qual=true
 kp:W.keepIn K (.ref f)=true
section
variable {P:Program} {w:World} {K:W.Frag} {mg:Str->Option Value} {base:Heap}
theorem Fun.ok {x qual:Str} {st:Stmt} {f:Addr} {fd:FuncData} {N ps:List Str} {k:Nat} {sp:Sp} (F:Fun K x qual st f fd) (S:FnScope N ps (aD st)) (len: ∀vs H Q E,sp vs H Q E->vs.length=ps.length)
  (hbody: ∀ (cdv:Value) (A:Around) (outer:List Env) (s:Shared) (H:Hp) (vs:List V) (Q:VK) (E:XK),Room k (A.deeper (envOfC qual (aD st) s.heap.objs.size f cdv))->sp vs H Q E->
   ∃t,PSs (vC gH P w K mg base N qual (aD st) f cdv A outer s H E).nox (cZ st) t/\t { nx:=fun _ H'=>Q .non H',rt:=Q } (start N vs) H):FnOk P w K mg base gH (k+1) f fd ps sp:=by
 obtain ⟨oc,od,kV,doc,pm,an,cdv,ct,osl,rfl,lk,hcd⟩:=F.ex
 refine Nv lk hcd S len fun A outer s H vs Q E hr hsp=> ?_
 obtain ⟨t,h,q⟩:=hbody cdv A outer s H vs Q E hr hsp
 exact ⟨t,h.nox,q⟩
theorem Fun.binds {x qual:Str} {st:Stmt} {f:Addr} {fd:FuncData} {ps:List Str} (F:Fun K x qual st f fd)
  (h: ∀ (kV doc pm:Value) (an:Option Addr) (cdv ct:Value) (us:List Value),us.length=ps.length->bindArgs (W.fnOf x qual (dM st) (cZ st) (aD st) .none kV doc pm an cdv ct) ⟨us,[]⟩=pure (ps.zip us)):Binds K fd ps []:=by
 obtain ⟨oc,od,kV,doc,pm,an,cdv,ct,osl,rfl,lk,hcd⟩:=F.ex
 exact .all (h kV doc pm an cdv ct)
theorem qY {x qual:Str} {st:Stmt} {f:Addr} {oc:Value} {od an:Option Addr} {osl:Array (Option Value)} {kV doc pm cdv ct:Value} (l:K.lookup f=some ⟨oc,od, .func (W.fnOf x qual (dM st) (cZ st) (aD st) .none kV doc pm an cdv ct),osl⟩)
  (c:W.codeIn K cdv qual=true) (k:W.keepIn K (.ref f)=true):Fun K x qual st f (W.fnOf x qual (dM st) (cZ st) (aD st) .none kV doc pm an cdv ct):=⟨⟨oc,od,kV,doc,pm,an,cdv,ct,osl,rfl,l,c⟩,k⟩
end
theorem eU {A:Around} {k:Nat} (hr:Room k A):A.units+1<cLine:=Yg (Nat.add_le_add_left (by decide:1<=64) _) hr.units
theorem vK {n:Nat} (h:n<=1000):n<sizeLine:=Yg h (by decide)
section
variable {X:Cx}
theorem pv (i:Nat) {x:Str} {pos:Pos} (hN:X.N[i]? =some x:=by rfl) (hv:QH X.env.scope x:=by first | exact Or.inl rfl | exact Or.inr (Or.inl rfl) | exact Or.inr (Or.inr rfl)) (hd:(x==("__debug__":Str))=false:=by decide)
  (hcd:(x==("__classdict__":Str))=false:=by decide):PE X (.Name x pos) (ao i):=J0 hN hv hd hcd
end
theorem xO {A B:Prop} (h:B):if false=true then A else B:=by
 rw [if_neg Zl]
 exact h
theorem xP {A B:Prop} (h:A):if true=true then A else B:=by
 rw [if_pos rfl]
 exact h
noncomputable def Same (H H':Hp):Prop:= ∀b o,H b=some o->H' b=some o
theorem Same.refl (H:Hp):Same H H:=fun _ _ h=>h
theorem Same.trans {H H1 H2:Hp} (a:Same H H1) (b:Same H1 H2):Same H H2:=fun c o h=>b c o (a c o h)
theorem Same.free {H H':Hp} (e:Same H H') {l:Addr} (h:H' l=Option.none):H l=Option.none:=by
 cases q:H l with
 | none=>rfl
 | some o=>
  rw [e l o q] at h
  cases h
theorem Same.seq {K:W.Frag} {H H':Hp} {a:Addr} {xs:List V} (e:Same H H') (h:SqL K H a xs):SqL K H' a xs:=by
 rcases h with (h | ⟨o,h⟩) | h
 ·exact .inl (.inl (e _ _ h))
 ·exact .inl (.inr ⟨o,e _ _ h⟩)
 ·exact .inr h
section
variable {κ:Type} [DecidableEq κ]
noncomputable def dh (kvs:List (κ×V)) (k:κ):Option V:=(kvs.find? fun kv=>decide (kv.1=k)).map (·.2)
noncomputable def putK (kvs:List (κ×V)) (k:κ) (v:V):List (κ×V):=
 if (kvs.any fun kv=>decide (kv.1=k))=true then kvs.map (fun kv=>if kv.1=k then (kv.1,v) else kv) else kvs++[(k,v)]
noncomputable def RP (kvs:List (κ×V)) (k:κ):List (κ×V):=kvs.filter fun kv=>decide (kv.1≠k)
theorem di {p:κ×V} {r:List (κ×V)} {k:κ} (e:p.1=k):dh (p::r) k=some p.2:=by simp [dh,List.find?_cons,e]
theorem cQ {p:κ×V} {r:List (κ×V)} {k:κ} (e: ¬p.1=k):dh (p::r) k=dh r k:=by simp [dh,List.find?_cons,e]
theorem jB (k:κ): ∀kvs:List (κ×V),(kvs.any fun kv=>decide (kv.1=k))=(dh kvs k).isSome
 | []=>rfl
 | p::r=>by
  rw [List.any_cons]
  by_cases e:p.1=k
  ·simp only [di e,Ym e,Bool.true_or,Option.isSome_some]
  ·rw [cQ e,Zp e,Bool.false_or];exact jB k r
theorem fM (kvs:List (κ×V)) (k:κ) (v:V):(putK kvs k v).length<=kvs.length+1:=by
 unfold putK
 split
 ·rw [Qr];rfl'
 ·rw [Zn,Yv,List.length_nil];rfl'
theorem jC {kvs:List (κ×V)} {k:κ} (v:V) (h:dh kvs k=none):putK kvs k v=kvs++[(k,v)]:=by
 unfold putK
 rw [jB,h]
 exact if_neg (by decide)
theorem RelO.isSome_eq {o:Option V} {u:Option Value} (r:RelO o u):o.isSome=u.isSome:=by
 cases o with
 | none=>cases u with
  | none=>rfl
  | some _=>exact (show False from r).elim
 | some _=>cases u with
  | none=>exact (show False from r).elim
  | some _=>rfl
theorem KV.val {kvs:List (κ×V)} {vs:List (κ×Value)} (r:KV kvs vs) (k:κ):RelO (dh kvs k) (valueAt vs k):=by
 unfold KV at r
 induction r with
 | nil=>exact True.intro
 | @cons p q ps qs h t ih=>
  obtain ⟨h1,h2⟩:=h
  by_cases e:p.1=k
  ·have e':q.1=k:=h1.symm.trans e
   have b:valueAt (q::qs) k=some q.2:=by simp [valueAt,List.find?_cons,e']
   rw [di e,b];exact h2
  ·have e': ¬q.1=k:=fun z=>e (h1.trans z)
   have b:valueAt (q::qs) k=valueAt qs k:=by simp [valueAt,List.find?_cons,e']
   rw [cQ e,b];exact ih
theorem KV.any {kvs:List (κ×V)} {vs:List (κ×Value)} (r:KV kvs vs) (k:κ):(kvs.any fun kv=>decide (kv.1=k))=vs.any fun kv=>decide (kv.1=k):=by
 unfold KV at r
 induction r with
 | nil=>rfl
 | cons h t ih=>rw [List.any_cons,List.any_cons,ih,h.1]
theorem KV.repl {kvs:List (κ×V)} {vs:List (κ×Value)} (r:KV kvs vs) (k:κ) {y:V} {u:Value} (ry:RelV y u):
  KV (kvs.map fun kv=>if kv.1=k then (kv.1,y) else kv) (vs.map fun kv=>if kv.1=k then (kv.1,u) else kv):=by
 unfold KV at r ⊢
 induction r with
 | nil=>exact .nil
 | @cons p q ps qs h t ih=>
  rw [Zr,Zr]
  refine .cons ?_ ih
  obtain ⟨h1,h2⟩:=h
  by_cases e:p.1=k
  ·rw [if_pos e,if_pos (h1.symm.trans e)];exact ⟨h1,ry⟩
  ·rw [if_neg e,if_neg (fun z=>e (h1.trans z))];exact ⟨h1,h2⟩
theorem KV.put {kvs:List (κ×V)} {vs:List (κ×Value)} (r:KV kvs vs) (k:κ) {y:V} {u:Value} (ry:RelV y u):KV (putK kvs k y) (stored vs k u):=by
 unfold putK stored
 rw [r.any k]
 by_cases e:(vs.any fun kv=>decide (kv.1=k))=true
 ·rw [if_pos e,if_pos e];exact r.repl k ry
 ·rw [if_neg e,if_neg e];exact Paired.snoc r ⟨rfl,ry⟩
theorem KV.length {kvs:List (κ×V)} {vs:List (κ×Value)} (r:KV kvs vs):kvs.length=vs.length:=Paired.length r
end
theorem lU {P:Program} {w:World} {k:Key} {u:Value} (r:RelV (kV k) u):(bF P w).is k u=true:=by
 cases k with
 | inl i=>obtain ⟨t,e⟩:=(show ∃t,u=Value.int i t from r);subst e;exact oK P w i t
 | inr x=>obtain ⟨t,e⟩:=(show ∃t,u=Value.str x t from r);subst e;exact oM P w x t
theorem lV {P:Program} {w:World}: ∀ {ks:List Key} {us:List Value},Vals (ks.map kV) us->ItemsAre (bF P w) ks us
 | [],_,r=>by rw [List.map_nil] at r;cases r;exact .nil
 | k::ks,_,r=>by
  rw [Zr] at r
  cases r with
  | cons h t=>exact .cons (lU h) (lV t)
noncomputable abbrev KT (H:Hp):List (List Key×V)->List (List Key×Addr×Value)->Prop:=Paired fun p q=>p.1=q.1/\H q.2.1=some (.tup (p.1.map kV))/\RelV p.2 q.2.2
theorem KT.val {H:Hp} {kvs:List (List Key×V)} {xs:List (List Key×Addr×Value)} (r:KT H kvs xs) (k:List Key):RelO (dh kvs k) ((atKey xs k).map (·.2)):=by
 induction r with
 | nil=>exact True.intro
 | @cons p q ps qs h t ih=>
  obtain ⟨h1,_,h2⟩:=h
  by_cases e:p.1=k
  ·have e':q.1=k:=h1.symm.trans e
   have b:atKey (q::qs) k=some q.2:=by simp [atKey,List.find?_cons,e']
   rw [di e,b];exact h2
  ·have e': ¬q.1=k:=fun z=>e (h1.trans z)
   have b:atKey (q::qs) k=atKey qs k:=by simp [atKey,List.find?_cons,e']
   rw [cQ e,b];exact ih
theorem KT.repl {H:Hp} {kvs:List (List Key×V)} {xs:List (List Key×Addr×Value)} (r:KT H kvs xs) (k:List Key) {y:V} {u:Value} (ry:RelV y u):
  KT H (kvs.map fun kv=>if kv.1=k then (kv.1,y) else kv) (xs.map (putAt k u)):=by
 induction r with
 | nil=>exact .nil
 | @cons p q ps qs h t ih=>
  rw [Zr,Zr]
  refine .cons ?_ ih
  obtain ⟨h1,h2,h3⟩:=h
  unfold putAt
  by_cases e:p.1=k
  ·rw [if_pos e,if_pos (h1.symm.trans e)];exact ⟨h1,h2,ry⟩
  ·rw [if_neg e,if_neg (fun z=>e (h1.trans z))];exact ⟨h1,h2,h3⟩
theorem KT.put {H:Hp} {kvs:List (List Key×V)} {xs:List (List Key×Addr×Value)} (r:KT H kvs xs) (k:List Key) {b:Addr} {y:V} {u:Value} (hb:H b=some (.tup (k.map kV))) (ry:RelV y u):
  KT H (putK kvs k y) (storedH xs k b u):=by
 have e:(kvs.any fun kv=>decide (kv.1=k))=(atKey xs k).isSome:=by
  rw [jB,(r.val k).isSome_eq,Option.isSome_map]
 unfold putK storedH
 rw [e]
 by_cases q:(atKey xs k).isSome=true
 ·rw [if_pos q,if_pos q];exact r.repl k ry
 ·rw [if_neg q,if_neg q];exact Paired.snoc r ⟨rfl,hb,ry⟩
theorem KT.keeps {H H':Hp} {kvs:List (List Key×V)} {xs:List (List Key×Addr×Value)} (r:KT H kvs xs) (ht: ∀b ys,H b=some (.tup ys)->H' b=some (.tup ys)):KT H' kvs xs:=
 Paired.mapP r fun _ _ z=>⟨z.1,ht _ _ z.2.1,z.2.2⟩
section
variable {P:Program} {w:World} {H:Hp} {h:Heap} {a:Addr}
theorem Hj {u:HO} (ok:HOk P w H h) (e:Rd H a u):ObjOk P w H h a u:=e.ok ok
theorem oY {kvs:List (Key×V)} (ok:HOk P w H h) (e:Rd H a (.dK kvs)):kvs.length<=sizeLine/\(a==sysModules)=false/\ ∃vs,KV kvs vs/\h.DictOf (bF P w) a vs:=
 show ObjOk P w H h a (.dK kvs) from Hj ok e
theorem Hk {kvs:List (Key×V)} (ok:HOk P w H h) (e:H a=some (.dK kvs)):kvs.length<=sizeLine/\(a==sysModules)=false/\ ∃vs,KV kvs vs/\h.DictOf (bF P w) a vs:=oY ok (.inl e)
theorem jD {ks:List Key} (ok:HOk P w H h) (e:H a=some (.tup (ks.map kV))):(tupleKind (bF P w)).is h ks a:=by
 obtain ⟨_,its,r,o,h1,h2,n,h3⟩:=(show ObjOk P w H h a (.tup (ks.map kV)) from ok a _ e)
 exact ⟨o,its.toArray,n,h1,h2,h3,by simpa using lV r⟩
theorem oZ {kvs:List (List Key×V)} (ok:HOk P w H h) (e:Rd H a (.dT kvs)):kvs.length<=sizeLine/\(a==sysModules)=false/\
  ∃xs,KT H kvs xs/\h.DictOfH (tupleKind (bF P w)) a xs:=by
 obtain ⟨z,y,xs,r,o,es,ep,h1,h2,h3,h4,h5⟩:=(show ObjOk P w H h a (.dT kvs) from Hj ok e)
 refine ⟨z,y,xs,r,o,es,ep,h1,h2,h3,h4,fun x hx=> ?_,h5⟩
 have all: ∀ {l:List (List Key×V)} {m:List (List Key×Addr×Value)},KT H l m-> ∀x∈m,(tupleKind (bF P w)).is h x.1 x.2.1:=by
  intro l m q
  induction q with
  | nil=>intro x hx;exact nomatch hx
  | @cons p q ps qs hq t ih=>
   intro x hx
   rcases Zu.mp hx with e | hx
   ·subst e
    exact jD ok (by rw [<- hq.1];exact hq.2.1)
   ·exact ih x hx
 exact all r x hx
theorem NP {kvs:List (List Key×V)} (ok:HOk P w H h) (e:H a=some (.dT kvs)):kvs.length<=sizeLine/\(a==sysModules)=false/\
  ∃xs,KT H kvs xs/\h.DictOfH (tupleKind (bF P w)) a xs:=oZ ok (.inl e)
end
noncomputable def DGet (H:Hp) (a:Addr) (y:V) (r:Option V):Prop:=
 (∃kvs k,Rd H a (.dK kvs)/\y=kV k/\r=dh kvs k)\/ ∃kvs k b,Rd H a (.dT kvs)/\y= .ref b/\H b=some (.tup (k.map kV))/\r=dh kvs k
noncomputable def DPut (H:Hp) (a:Addr) (y v:V) (H':Hp):Prop:=
 (∃kvs k,H a=some (.dK kvs)/\y=kV k/\kvs.length<sizeLine/\H'=upd H a (.dK (putK kvs k v)))\/
 ∃kvs k b,H a=some (.dT kvs)/\y= .ref b/\H b=some (.tup (k.map kV))/\kvs.length<sizeLine/\H'=upd H a (.dT (putK kvs k v))
theorem DGet.k {H:Hp} {a:Addr} {kvs:List (Key×V)} {k:Key} (e:H a=some (.dK kvs)):DGet H a (kV k) (dh kvs k):= .inl ⟨kvs,k, .inl e,rfl,rfl⟩
theorem DPut.k {H:Hp} {a:Addr} {kvs:List (Key×V)} {k:Key} {v:V} (e:H a=some (.dK kvs)) (hl:kvs.length<sizeLine):DPut H a (kV k) v (upd H a (.dK (putK kvs k v))):= .inl ⟨kvs,k,e,rfl,hl,rfl⟩
section
variable {X:Cx} {pins:List (Addr×Obj)} {σ:St} {H:Hp} {s:Shared} {a:Addr} {y v:V} {u r:Value} {o:Option V} {A:Around} {E:Value->Shared->Prop}
theorem Inv.big (I:Inv X pins σ H s):sysModules<s.heap.objs.size:=by
 have h:mainGlobals<s.heap.objs.size:=(I.mod.glob.keeps I.bk).lt
 exact Nat.lt_trans (by decide) h
theorem vL {Q:Value->Shared->Prop} (hu:A.units+1<cLine) (I:Inv X pins σ H s) (g:DGet H a y (some v)) (ry:RelV y u) (h: ∀w' s',Inv X pins σ H s'->RelV v w'->Q w' s'):
  wpAny (model X.prog X.w) A (getItem (.ref a) u) Q E s:=by
 rcases g with ⟨kvs,k,e,ey,l⟩ | ⟨kvs,k,b,e,ey,eb,l⟩
 ·subst ey
  obtain ⟨z,hd,vs,rel,dd⟩:=oY I.hok e
  obtain ⟨w',hw,rw'⟩:=RelO.some_of (v:=v) (o:=valueAt vs k) (by rw [l];exact rel.val k)
  exact wpAny_getItem_of (lU ry) dd.mapOf hw (h w' _ (I.tok _) rw')
 ·subst ey
  cases (show u=Value.ref b from ry)
  obtain ⟨z,hd,xs,rel,dd⟩:=oZ I.hok e
  obtain ⟨w',hw,rw'⟩:=RelO.some_of (v:=v) (o:=(atKey xs k).map (·.2)) (by rw [l];exact rel.val k)
  obtain ⟨p,hp,hp2⟩:=Yn.mp hw
  refine wpAny_getItem_heap (tupleKind_room_in1 hu) (jD I.hok eb) dd hp ?_
  rw [hp2]
  exact h w' _ (I.tok _) rw'
theorem R6 {Q:Value->Shared->Prop} (hu:A.units+1<cLine) (I:Inv X pins σ H s) (g:DGet H a y o) (ry:RelV y u) (h: ∀s',Inv X pins σ H s'->Q (.bool o.isSome) s'):
  wpAny (model X.prog X.w) A (compareOp .In u (.ref a)) Q E s:=by
 rcases g with ⟨kvs,k,e,ey,l⟩ | ⟨kvs,k,b,e,ey,eb,l⟩
 ·subst ey
  obtain ⟨z,hd,vs,rel,dd⟩:=oY I.hok e
  refine wpAny_in_of (lU ry) hd dd.mapOf ?_
  rw [<- (rel.val k).isSome_eq,<- l]
  exact h _ (I.tok _)
 ·subst ey
  cases (show u=Value.ref b from ry)
  obtain ⟨z,hd,xs,rel,dd⟩:=oZ I.hok e
  refine wpAny_in_heap (tupleKind_room_in1 hu) (jD I.hok eb) hd dd ?_
  have q:=(rel.val k).isSome_eq
  rw [Option.isSome_map] at q
  rw [<- q,<- l]
  exact h _ (I.tok _)
theorem Dy {Q:Value->Shared->Prop} (hu:A.units+1<cLine) (I:Inv X pins σ H s) (g:DGet H a y o) (ry:RelV y u) (h: ∀s',Inv X pins σ H s'->Q (.bool (!o.isSome)) s'):
  wpAny (model X.prog X.w) A (compareOp .NotIn u (.ref a)) Q E s:=by
 rcases g with ⟨kvs,k,e,ey,l⟩ | ⟨kvs,k,b,e,ey,eb,l⟩
 ·subst ey
  obtain ⟨z,hd,vs,rel,dd⟩:=oY I.hok e
  refine wpAny_notIn_of (lU ry) hd dd.mapOf ?_
  rw [<- (rel.val k).isSome_eq,<- l]
  exact h _ (I.tok _)
 ·subst ey
  cases (show u=Value.ref b from ry)
  obtain ⟨z,hd,xs,rel,dd⟩:=oZ I.hok e
  refine wpAny_notIn_heap (tupleKind_room_in1 hu) (jD I.hok eb) hd dd ?_
  have q:=(rel.val k).isSome_eq
  rw [Option.isSome_map] at q
  rw [<- q,<- l]
  exact h _ (I.tok _)
theorem jl {h':Heap} {t':Nat} {ob:HO} (I:Inv X pins σ H s) (mu:Nj (H a)) (hs:Heap.SameBut a s.heap h') (he: ∃q,h'.get? a=some q) (new:ObjOk X.prog X.w (upd H a ob) h' a ob):
  Inv X pins σ (upd H a ob) { s with heap:=h',toks:=t' }:=
 I.write (x:=a) (e:=a) mu (.inl rfl) (fun b q hb z=>(hs.2 b hb).trans z) he new
theorem xQ {P:Program} {w:World} {H':Hp} {h':Heap} {kvs:List (Key×V)} {vs:List (Key×Value)} (z:kvs.length<=sizeLine) (hd:(a==sysModules)=false) (rel:KV kvs vs) (dd:h'.DictOf (bF P w) a vs):
  ObjOk P w H' h' a (.dK kvs):=⟨z,hd,vs,rel,dd⟩
theorem vM {H':Hp} {Q:Unit->Shared->Prop} (hu:A.units+1<cLine) (I:Inv X pins σ H s) (g:DPut H a y v H') (ry:RelV y u) (rv:RelV v r) (h: ∀s',Inv X pins σ H' s'->Q () s'):
  wpAny (model X.prog X.w) A (setItem (.ref a) u r) Q E s:=by
 rcases g with ⟨kvs,k,e,ey,l,eH⟩ | ⟨kvs,k,b,e,ey,eb,l,eH⟩
 ·subst ey eH
  obtain ⟨z,hd,vs,rel,dd⟩:=Hk I.hok e
  have hz:vs.length<=sizeLine:=by rw [<- rel.length];exact z
  have hl:(putK kvs k v).length<=sizeLine:=by have:=fM kvs k v;rfl'
  refine wpAny_setItem_pairs (hsz:=hz) (lU ry) dd fun h' dd' hs=>h _ ?_
  have he: ∃q,h'.get? a=some q:=let ⟨q,_,_,hq,_⟩:=dd';⟨q,hq⟩
  exact jl I (by rw [e];exact True.intro) hs he (xQ hl hd (rel.put k rv) dd')
 ·subst ey eH
  cases (show u=Value.ref b from ry)
  obtain ⟨z,hd,xs,rel,dd⟩:=NP I.hok e
  have hz:xs.length<=sizeLine:=by rw [<- Paired.length rel];exact z
  have hl:(putK kvs k v).length<=sizeLine:=by have:=fM kvs k v;rfl'
  refine wpAny_setItem_heap (hsz:=hz) (tupleKind_room_in1 hu) (jD I.hok eb) dd fun h' dd' hs=>h _ ?_
  obtain ⟨q,es,ep,hq,h2,h3,h4,_,h5⟩:=dd'
  refine jl I (by rw [e];exact True.intro) hs ⟨q,hq⟩ ⟨hl,hd,_,(rel.put k eb rv).keeps fun c ys ec=> ?_,q,es,ep,hq,h2,h3,h4,h5⟩
  rw [aF (cO ec e (fun z=>nomatch z))]
  exact ec
end
noncomputable def NQ (i:Expr):Prop:= ∀ov iv,subscripted i false ov iv=operate [ov,iv] (getItem ov iv)
theorem DG {prog:Program} {w:World} {A:Around} {E:Value->Shared->Prop} {s:Shared} {env:Env} {value slice:Expr} {pos:Pos} {T id:String} {Q:Value->Shared->Prop}
  (hl:typeLookup (.type T) "__getitem__"=pure (some (.builtin id))) (hs:NQ slice)
  (h:wpAny (model prog w) A (eval value env) (fun o s₁=>wpAny (model prog w) A (eval slice env) (fun i s₂=>s₂.TypeIs o T/\wpAny (model prog w) A (getItem o i) Q E s₂) E s₁) E s):
  wpAny (model prog w) A (eval (.Subscript value slice pos) env) Q E s:=by
 refine Subscript_ (Xz h (fun o s₁ h₁=>Xz h₁ (fun i s₂ h₂=> ?_) fun _ _ x=>x) fun _ _ x=>x)
 obtain ⟨hT,h₂⟩:=h₂
 unfold subscriptTail
 refine Qb ?_
 rw [getitemInPython_of_ne hT.not_modules]
 refine Qb (Wn hT hl ?_)
 have fin:wpAny (model prog w) A (subscripted slice false o i) (fun r s₃=>wpAny (model prog w) A (letTemporaryGo value o r >>= fun _=>pure r) Q E s₃) E s₂:=by
  rw [hs o i]
  exact wpAny_operating (Xz h₂ (fun r s₃ h₃=>Qb (wpAny_letTemporaryGo (Za h₃))) fun _ _ x=>x)
 first
  | exact Za (Qb fin)
  | exact Qb (Za (Qb fin))
  | exact Qb fin
theorem p6 {X:Cx} {pins:List (Addr×Obj)} {σ:St} {H:Hp} {s:Shared} {a:Addr} {y:V} {o:Option V} (I:Inv X pins σ H s) (g:DGet H a y o):s.TypeIs (.ref a) "dict":=by
 rcases g with ⟨kvs,k,e,_,_⟩ | ⟨kvs,k,b,e,_,_,_⟩
 ·obtain ⟨_,_,vs,_,dd⟩:=oY I.hok e
  exact dd.typeIs
 ·obtain ⟨_,_,xs,_,dd⟩:=oZ I.hok e
  exact dd.typeIs
noncomputable def j8 (td ty:TE):TE:=fun σ H Q=>td σ H fun x H1=>ty σ H1 fun y H2=> ∃a v,x= .ref a/\DGet H2 a y (some v)/\Q v H2
noncomputable def xR (ty td:TE):TE:=fun σ H Q=>ty σ H fun y H1=>td σ H1 fun x H2=> ∃a o,x= .ref a/\DGet H2 a y o/\Q (.bl o.isSome) H2
noncomputable def mV (ty td:TE):TE:=fun σ H Q=>ty σ H fun y H1=>td σ H1 fun x H2=> ∃a o,x= .ref a/\DGet H2 a y o/\Q (.bl (!o.isSome)) H2
noncomputable def p7 (td ty tv:TE):TS:=fun D σ H=>tv σ H fun v H1=>td σ H1 fun x H2=>ty σ H2 fun y H3=> ∃a H4,x= .ref a/\DPut H3 a y v H4/\D.nx σ H4
section
variable {X:Cx} {o i e value:Expr} {pos pos' tpos:Pos} {td ty tv:TE}
theorem gq (hu:X.A.units+1<cLine) (ho:PE X o td) (hi:PE X i ty) (hs:NQ i):PE X (.Subscript o i pos) (j8 td ty):=by
 intro pins s σ H Q I h
 refine DG PySem.F.slot_dict_getitem.lookup hs (bI (ho pins s σ H _ I h) fun u s1 ⟨x,H1,I1,rx,q1⟩=>bI (hi pins s1 σ H1 _ I1 q1) fun iv s2 ⟨y,H2,I2,ry,a,v,ex,g,q2⟩=> ?_)
 subst ex
 obtain rfl:u=Value.ref a:=rx
 exact ⟨p6 I2 g,vL hu I2 g ry fun w' s3 I3 rw'=>⟨v,H2,I3,rw',q2⟩⟩
theorem qZ (hu:X.A.units+1<cLine) (hi:PE X i ty) (ho:PE X o td):PC X .In i o (xR ty td):=by
 intro pins s σ H Q I h
 refine bI (hi pins s σ H _ I h) fun iv s1 ⟨y,H1,I1,ry,q1⟩=>bI (ho pins s1 σ H1 _ I1 q1) fun u s2 ⟨x,H2,I2,rx,a,ov,ex,g,q2⟩=> ?_
 subst ex
 obtain rfl:u=Value.ref a:=rx
 exact R6 hu I2 g ry fun s3 I3=>⟨.bl ov.isSome,H2,I3,rfl,q2⟩
theorem vN (hu:X.A.units+1<cLine) (hi:PE X i ty) (ho:PE X o td):PC X .NotIn i o (mV ty td):=by
 intro pins s σ H Q I h
 refine bI (hi pins s σ H _ I h) fun iv s1 ⟨y,H1,I1,ry,q1⟩=>bI (ho pins s1 σ H1 _ I1 q1) fun u s2 ⟨x,H2,I2,rx,a,ov,ex,g,q2⟩=> ?_
 subst ex
 obtain rfl:u=Value.ref a:=rx
 exact Dy hu I2 g ry fun s3 I3=>⟨.bl (!ov.isSome),H2,I3,rfl,q2⟩
theorem mW (hu:X.A.units+1<cLine) (ho:PE X o td) (hi:PE X i ty) (hv:PE X value tv) (hs:swapsWith value (some (.Subscript o i pos')) pos.line X.env=pure false):
  PS X (.Assign [.Subscript o i pos'] value pos) (p7 td ty tv):=by
 intro pins s σ H D I h
 refine wpAny_Assign_Subscript (bI (hv pins s σ H _ I h) fun r s1 ⟨v,H1,I1,rv,q1⟩=>bI (ho pins s1 σ H1 _ I1 q1) fun u s2 ⟨x,H2,I2,rx,q2⟩=>bI (hi pins s2 σ H2 _ I2 q2) fun iv s3 ⟨y,H3,I3,ry,a,H4,ex,g,q3⟩=> ?_) hs
 subst ex
 obtain rfl:u=Value.ref a:=rx
 exact vM hu I3 g ry rv fun s4 I4=>⟨σ,H4,I4,q3⟩
end
theorem p8 {P:Program} {w:World} {H:Hp} (h:Heap) (hb:sysModules<h.objs.size):ObjOk P w H (h.push { cls:= .type "dict",data:= .dict #[] }) h.objs.size (.dK []):=
 ⟨Nat.zero_le _,beq_eq_false_iff_ne.mpr (Ne.symm (Yh hb)),[], .nil,Heap.DictOf.new h⟩
noncomputable def mX:TE:=fun _ H Q=> ∀p,H p=none->Q (.ref p) (upd H p (.dK []))
noncomputable def R7:TE:=fun _ H Q=> ∀p,H p=none->Q (.ref p) (upd H p (.dT []))
section
variable {X:Cx} {pos:Pos}
theorem ph:PE X (.Dict [] [] pos) mX:=fun pins s σ H Q I h=>
 wpAny_Dict_empty ⟨.ref s.heap.objs.size,_,I.laid (a:=s.heap.objs.size) (o:= .dK []) (t':=s.toks) (fun _ _ q=>Zb _ q) (Zh _) (p8 s.heap I.big),rfl,h _ (I.hok.fresh (Zh _))⟩
end
noncomputable def rA:List (TE×TE)->St->Hp->(List (V×V)->Hp->Prop)->Prop
 | [],_,H,Q=>Q [] H
 | (tk,tv)::r,σ,H,Q=>tk σ H fun x H1=>tv σ H1 fun y H2=>rA r σ H2 fun ps H3=>Q ((x,y)::ps) H3
noncomputable abbrev VV:List (V×V)->List (Value×Value)->Prop:=Paired fun p q=>RelV p.1 q.1/\RelV p.2 q.2
noncomputable def QJ (X:Cx) (pos:Pos) (keys:List (Option Expr)) (values:List Expr) (trs:List (TE×TE)):Prop:=
 ∀ (pins:List (Addr×Obj)) (s:Shared) (σ:St) (H:Hp) (Q:List (V×V)->Hp->Prop),Inv X pins σ H s->rA trs σ H Q->
  wpAny (model X.prog X.w) X.A (evalPairs (pairTrees keys values X.env pos)) (fun vs s'=> ∃ps H',Inv X pins σ H' s'/\VV ps vs/\Q ps H') X.xe s
theorem DK {X:Cx} {pos:Pos}:QJ X pos [] [] []:=fun pins s σ H Q I h=>pairTrees_nil_walk ⟨[],H,I, .nil,h⟩
theorem xT {X:Cx} {pos:Pos} {k v:Expr} {ks:List (Option Expr)} {vs:List Expr} {tk tv:TE} {trs:List (TE×TE)} (hk:PE X k tk) (hv:PE X v tv) (hr:QJ X pos ks vs trs):
  QJ X pos (some k::ks) (v::vs) ((tk,tv)::trs):=fun pins s σ H Q I h=>
 pairTrees_cons_walk (bI (hk pins s σ H _ I h) fun u s1 ⟨x,H1,I1,rx,q1⟩=>bI (hv pins s1 σ H1 _ I1 q1) fun w2 s2 ⟨y,H2,I2,ry,q2⟩=>
  bI (hr pins s2 σ H2 _ I2 q2) fun ws s3 ⟨ps,H3,I3,rel,q3⟩=>⟨(x,y)::ps,H3,I3, .cons ⟨rx,ry⟩ rel,q3⟩)
noncomputable def eZ (kvs more:List (Key×V)):List (Key×V):=more.foldl (fun acc kv=>putK acc kv.1 kv.2) kvs
theorem KV.merge: ∀ {more:List (Key×V)} {rs:List (Key×Value)} {kvs:List (Key×V)} {vs:List (Key×Value)},KV more rs->KV kvs vs->KV (eZ kvs more) (merged vs rs):=by
 intro more rs kvs vs r
 unfold KV at r
 induction r generalizing kvs vs with
 | nil=>intro q;exact q
 | @cons p q ps qs h t ih=>
  intro r0
  have e:KV (putK kvs p.1 p.2) (stored vs q.1 q.2):=by
   have:=r0.put p.1 h.2
   rw [<- h.1];exact this
  exact ih e
theorem gO: ∀ (more kvs:List (Key×V)),(eZ kvs more).length<=kvs.length+more.length
 | [],kvs=>by show kvs.length<=kvs.length+0;rfl'
 | p::r,kvs=>by
  have h1:=gO r (putK kvs p.1 p.2)
  have h2:=fM kvs p.1 p.2
  show (eZ (putK kvs p.1 p.2) r).length<=_
  rw [Yv];rfl'
theorem jE {P:Program} {w:World}: ∀ {kvs:List (Key×V)} {ws:List (Value×Value)},VV (kvs.map fun kv=>(kV kv.1,kv.2)) ws-> ∃rs,Carries (bF P w) ws rs/\KV kvs rs
 | [],_,r=>by rw [List.map_nil] at r;cases r;exact ⟨[],True.intro, .nil⟩
 | p::kvs,_,r=>by
  rw [Zr] at r
  cases r with
  | @cons a b as bs h t=>
   obtain ⟨rs,c,q⟩:=jE (P:=P) (w:=w) t
   obtain ⟨b1,b2⟩:=b
   exact ⟨(p.1,b2)::rs,⟨lU h.1,rfl,c⟩, .cons ⟨rfl,h.2⟩ q⟩
noncomputable def xU (trs:List (TE×TE)):TE:=fun σ H Q=> ∀p,H p=none->rA trs σ (upd H p (.dK [])) fun ps H2=>H2 p=some (.dK [])/\ ∃kvs:List (Key×V),ps=kvs.map (fun kv=>(kV kv.1,kv.2))/\kvs.length<=15/\Q (.ref p) (upd H2 p (.dK (eZ [] kvs)))
theorem DN {X:Cx} {pos:Pos} {keys:List (Option Expr)} {values:List Expr} {trs:List (TE×TE)} (h:QJ X pos keys values trs) (hall:keys.all (·.isSome)=true) (hl:keys.length=values.length) (h0:keys≠[])
  (h15:keys.length<=15):PE X (.Dict keys values pos) (xU trs):=by
 intro pins s σ H Q I q
 have hn:=I.hok.fresh (Zh s.heap.objs.size)
 have I1:=I.laid (a:=s.heap.objs.size) (o:= .dK []) (h':=s.heap.push { cls:= .type "dict",data:= .dict #[] }) (t':=s.toks) (fun _ _ q=>Zb _ q) (Zh _) (p8 s.heap I.big)
 refine wpAny_Dict_walk (knd:=bF X.prog X.w) hall hl h0 h15 (bI (h pins _ σ _ _ I1 (q _ hn)) fun ws s2 ⟨ps,H2,I2,rel,e,kvs,ep,lk,q2⟩=> ?_)
 subst ep
 obtain ⟨rs,c,rk⟩:=jE (P:=X.prog) (w:=X.w) rel
 obtain ⟨z,hd,vs0,r0,dd⟩:=Hk I2.hok e
 cases r0
 refine ⟨rs,c,dd,fun h' dd' hs=>⟨.ref s.heap.objs.size,_,?_,rfl,q2⟩⟩
 have hz:(eZ [] kvs).length<=sizeLine:=by
  have h1:=gO kvs []
  rw [List.length_nil] at h1
  rw [Wd];rfl'
 have he: ∃q,h'.get? s.heap.objs.size=some q:=let ⟨q,_,_,hq,_⟩:=dd';⟨q,hq⟩
 exact jl I2 (by rw [e];exact True.intro) hs he (xQ hz hd (rk.merge .nil) dd')
structure M1 (X:Cx) (o:Expr) (m:Str) (apos:Pos) (e:Expr) (cpos:Pos):Prop where
 base:attributeBase o m X.env (eval o X.env)=eval o X.env
 few:((backTo cpos (starEach [e] X.env)).all (fun x=> !x.1)&&(backToKw cpos (keywordEach [] X.env)).all (fun x=>x.1.isSome)
  &&decide (([e]:List Expr).length+([]:List Keyword).length+(if ([]:List Keyword).isEmpty then 0 else 1)<30))=true
 line:(apos.endLine==cpos.line)=true
 trees:backTo cpos (starEach [e] X.env)=[(false,eval e X.env)]
structure M2 (X:Cx) (o:Expr) (m:Str) (apos:Pos) (e f:Expr) (cpos:Pos):Prop where
 base:attributeBase o m X.env (eval o X.env)=eval o X.env
 few:((backTo cpos (starEach [e,f] X.env)).all (fun x=> !x.1)&&(backToKw cpos (keywordEach [] X.env)).all (fun x=>x.1.isSome)
  &&decide (([e,f]:List Expr).length+([]:List Keyword).length+(if ([]:List Keyword).isEmpty then 0 else 1)<30))=true
 line:(apos.endLine==cpos.line)=true
 trees:backTo cpos (starEach [e,f] X.env)=[(false,eval e X.env),(false,eval f X.env)]
noncomputable def RQ (H:Hp) (a:Addr):Prop:=(∃kvs,Rd H a (.dK kvs))\/ ∃kvs,Rd H a (.dT kvs)
noncomputable def R8 (td ty:TE):TE:=fun σ H Q=>td σ H fun x H1=> ∃a,x= .ref a/\RQ H1 a/\ty σ H1 fun y H2=> ∃o,DGet H2 a y o/\Q (o.getD .non) H2
noncomputable def R9 (td ty tx:TE):TE:=fun σ H Q=>td σ H fun x H1=> ∃a,x= .ref a/\RQ H1 a/\ty σ H1 fun y H2=>tx σ H2 fun z H3=> ∃o,DGet H3 a y o/\Q (o.getD z) H3
end L2
set_option linter.all false
namespace Bm
noncomputable def pop:Nat->Nat
 | 0=>0
 | n+1=>(n+1)%2+pop ((n+1) / 2)
decreasing_by rfl'
theorem jF:pop 0=0:=by rw [pop]
theorem rB (n:Nat):pop n=n%2+pop (n / 2):=by
 cases n with
 | zero=>simp [jF]
 | succ n=>rw [pop]
theorem mY (m:Nat):pop (2*m)=pop m:=by
 rw [rB,show 2*m%2=0 by rfl',show 2*m / 2=m by rfl',Nat.zero_add]
theorem DP (m:Nat):pop (2*m+1)=pop m+1:=by
 rw [rB,show (2*m+1)%2=1 by rfl',show (2*m+1) / 2=m by rfl',Nat.add_comm]
theorem xV (a b:Nat):(2*a)&&& (2*b+1)=2*(a&&& b):=by
 apply Nat.eq_of_testBit_eq;intro i
 cases i with
 | zero=>simp [Nat.testBit_and]
 | succ i=>
  rw [Nat.testBit_and,Nat.testBit_succ,Nat.testBit_succ,Nat.testBit_succ,show 2*a / 2=a by rfl',show (2*b+1) / 2=b by rfl',show 2*(a&&& b) / 2=(a&&& b) by rfl',Nat.testBit_and]
theorem Jr (a b:Nat):(2*a+1)&&& (2*b)=2*(a&&& b):=by rw [Nat.and_comm,xV,Nat.and_comm]
theorem DQ (n:Nat) (h:0<n):pop (n&&& (n-1))+1=pop n:=by
 induction n using Nat.strongRecOn with
 | ind n ih=>
  rcases Nat.mod_two_eq_zero_or_one n with e | e
  ·obtain ⟨m,rfl⟩: ∃m,n=2*m:=⟨n / 2,by rfl'⟩
   have q:=ih m (by rfl') (by rfl')
   rw [show 2*m-1=2*(m-1)+1 by rfl',xV,mY,mY]
   exact q
  ·obtain ⟨m,rfl⟩: ∃m,n=2*m+1:=⟨n / 2,by rfl'⟩
   rw [show 2*m+1-1=2*m by rfl',Jr,Nat.and_self,mY,DP]
theorem Jt (n:Nat) (h:0<n):n&&& (n-1)<n:=Yg Nat.and_le_right (by rfl')
theorem xW (a b:Nat):(a^^^b) / 2=(a / 2)^^^(b / 2):=by
 apply Nat.eq_of_testBit_eq;intro i
 simp [<- Nat.testBit_succ,Nat.testBit_xor]
theorem dN (x:Nat):x%2=(x.testBit 0).toNat:=by
 rcases Nat.mod_two_eq_zero_or_one x with h | h<;>simp [Nat.testBit_zero,h]
noncomputable def bits (k n:Nat):List Nat:=(List.range k).filter fun i=>n.testBit i
end Bm
set_option linter.all false
namespace Bx
open PySem
theorem gU (m n:Nat):Builtin.bitAnd (m:Int) (n:Int)=((m&&& n:Nat):Int):=by
 rw [PyProof.Rows.bitAnd_pp (by rfl') (by rfl')]
 simp
theorem xX (m n:Nat):(m||| n)+(m&&& n)=m+n:=by
 induction m using Nat.strongRecOn generalizing n with
 | ind m ih=>
  by_cases hz:m=0
  ·subst hz;simp
  ·have q:=ih (m / 2) (by rfl') (n / 2)
   have h1:(m||| n) / 2=(m / 2)||| (n / 2):=by
    apply Nat.eq_of_testBit_eq;intro i
    simp [<- Nat.testBit_succ,Nat.testBit_or]
   have h2:(m&&& n) / 2=(m / 2)&&& (n / 2):=by
    apply Nat.eq_of_testBit_eq;intro i
    simp [<- Nat.testBit_succ,Nat.testBit_and]
   have h3:(m||| n)%2+(m&&& n)%2=m%2+n%2:=by
    rw [Bm.dN (m||| n),Bm.dN (m&&& n),Bm.dN m,Bm.dN n,Nat.testBit_or,Nat.testBit_and]
    cases m.testBit 0<;>cases n.testBit 0<;>rfl
   rfl'
theorem vO (m n:Nat):Builtin.bitOr (m:Int) (n:Int)=((m||| n:Nat):Int):=by
 rw [PyProof.Rows.bitOr_and,gU]
 have:=xX m n
 rfl'
theorem DR (m n:Nat):(m^^^n)+2*(m&&& n)=m+n:=by
 induction m using Nat.strongRecOn generalizing n with
 | ind m ih=>
  by_cases hz:m=0
  ·subst hz;simp
  ·have q:=ih (m / 2) (by rfl') (n / 2)
   have h1:=Bm.xW m n
   have h2:(m&&& n) / 2=(m / 2)&&& (n / 2):=by
    apply Nat.eq_of_testBit_eq;intro i
    simp [<- Nat.testBit_succ,Nat.testBit_and]
   have h3:(m^^^n)%2+2*((m&&& n)%2)=m%2+n%2:=by
    rw [Bm.dN (m^^^n),Bm.dN (m&&& n),Bm.dN m,Bm.dN n,Nat.testBit_xor,Nat.testBit_and]
    cases m.testBit 0<;>cases n.testBit 0<;>rfl
   rfl'
theorem jG (m n:Nat):Builtin.bitXor (m:Int) (n:Int)=((m^^^n:Nat):Int):=by
 unfold Builtin.bitXor
 rw [vO,gU]
 have h1:=xX m n
 have h2:=DR m n
 rfl'
theorem xY (k:Nat):((2^k:Nat):Int)=(2:Int)^k:=by simp
end Bx
section
namespace L2
open PySem PySem.Spec PyProof.Rows
noncomputable abbrev blk (X:Cx) (sc:Scope) (N':List Str) (cl:List (Str×Addr)) (C:Addr) (s:Shared) (H:Hp) (fp:List Addr) (pins:List (Addr×Obj)):Cx where
 prog:=X.prog
 w:=X.w
 K:=X.K
 mg:=X.mg
 base:=X.base
 A:=X.A
 N:=N'
 s₀:=s
 H₀:=H
 env:=compEnvC sc cl C X.env
 outer:=X.stack
 stack:=X.stack
 ex:=fp
 fn:=fun _=>false
 calm:=X.calm
 pn:=X.pn++pins
 xe:=fun _ _=>False
structure CScope (esc sc:Scope):Prop where
 kind:sc.kind= .function
 nocell: ∀y∈sc.names,y.2≠ .cell
 locs: ∀y∈sc.names,y.2= .local->sc.names.lookup y.1=some .local
 frees: ∀y∈sc.names,y.2= .free->esc.names.lookup y.1=some .cell\/esc.names.lookup y.1=some .free
theorem mem_lookup {β:Type} {x:Str} {k:β}: ∀ {l:List (Str×β)},l.lookup x=some k->(x,k)∈l
 | [],h=>by simp at h
 | (n,k')::r,h=>by
  rw [List.lookup_cons] at h
  cases e:x==n with
  | true=>
   rw [e] at h
   have e':x=n:=eq_of_beq e
   injection h with h
   subst e';subst h
   exact Zq
  | false=>
   rw [e] at h
   exact Zs _ (mem_lookup h)
theorem mZ {env:Env}: ∀ (names:List (Str×NameKind)) (cs:List (Str×Addr)),(∀y∈names,y.2= .free-> ∃c,env.cells.lookup y.1=some c)->(∀x c,cs.lookup x=some c->env.cells.lookup x=some c)->
  ∃cl:List (Str×Addr),(forIn names cs fun (y:Str×NameKind) (r:List (Str×Addr))=>(if (y.2==NameKind.free)=true then (cellOf env y.1 >>= fun c=>pure (ForInStep.yield ((y.1,c)::r))) else pure (ForInStep.yield r):Sem (ForInStep (List (Str×Addr)))))=pure cl/\
   (∀x c,cl.lookup x=some c->env.cells.lookup x=some c)/\ ∀x c,env.cells.lookup x=some c->((x,NameKind.free)∈names\/cs.lookup x=some c)->cl.lookup x=some c
 | [],cs,_,hcs=>⟨cs,rfl,hcs,fun x c _ h=>h.elim (fun z=>nomatch z) id⟩
 | (n, k) :: r, cs, hf, hcs => by
  have hf': ∀y∈r,y.2= .free-> ∃c,env.cells.lookup y.1=some c:=fun y hy=>hf y (Zs _ hy)
  by_cases hk:k= .free
  ·subst hk
   obtain ⟨c,hc⟩:=hf (n, .free) Zq rfl
   have ec:cellOf env n=pure c:=by
    have hc':env.cells.lookup n=some c:=hc
    unfold cellOf;rw [hc']
   have hcs': ∀x c',((n,c)::cs).lookup x=some c'->env.cells.lookup x=some c':=fun x c' h=>by
    rw [List.lookup_cons] at h
    cases e:x==n with
    | true=>
     rw [e] at h
     injection h with h
     have e':x=n:=eq_of_beq e
     subst e';subst h
     exact hc
    | false=>rw [e] at h;exact hcs x c' h
   obtain ⟨cl,e,h1,h2⟩:=mZ r ((n,c)::cs) hf' hcs'
   refine ⟨cl,?_,h1,fun x c' hx hm=>h2 x c' hx ?_⟩
   ·rw [Yo]
    simp only [beq_self_eq_true,if_true]
    rw [ec]
    exact e
   ·rw [List.lookup_cons]
    cases ex:x==n with
    | true=>
     right
     have e':x=n:=eq_of_beq ex
     subst e'
     exact hc.symm.trans hx
    | false=>
     rcases hm with hm | hm
     ·rcases Zu.mp hm with z | z
      ·have e':x=n:=Xr Prod.fst z
       subst e'
       rw [beq_self_eq_true] at ex
       cases ex
      ·exact .inl z
     ·exact .inr hm
  ·obtain ⟨cl,e,h1,h2⟩:=mZ r cs hf' hcs
   have hk':(k==NameKind.free)=false:=by
    cases k<;>first | rfl | exact absurd rfl hk
   refine ⟨cl,?_,h1,fun x c' hx hm=>h2 x c' hx ?_⟩
   ·rw [Yo]
    simp only [hk',Ze,Xg]
    exact e
   ·rcases hm with hm | hm
    ·rcases Zu.mp hm with z | z
     ·exact absurd (Xr Prod.snd z).symm hk
     ·exact .inl z
    ·exact .inr hm
theorem ul {sc:Scope} {env:Env} (hf: ∀y∈sc.names,y.2= .free-> ∃c,env.cells.lookup y.1=some c):
  ∃cl:List (Str×Addr),closureFor sc env=pure cl/\(∀x c,cl.lookup x=some c->env.cells.lookup x=some c)/\ ∀x c,env.cells.lookup x=some c->(x,NameKind.free)∈sc.names->cl.lookup x=some c:=by
 obtain ⟨cl,e,h1,h2⟩:=mZ (env:=env) sc.names [] hf (fun x c h=>by simp at h)
 refine ⟨cl,?_,h1,fun x c hx hm=>h2 x c hx (.inl hm)⟩
 have q:closureFor sc env=((forIn sc.names [] fun (y:Str×NameKind) (r:List (Str×Addr))=>(if (y.2==NameKind.free)=true then (cellOf env y.1 >>= fun c=>pure (ForInStep.yield ((y.1,c)::r))) else pure (ForInStep.yield r):Sem (ForInStep (List (Str×Addr))))) >>= fun cs=>pure cs):=by
  first
   | rfl
   | (unfold closureFor;congr 1)
 rw [q,e]
 rfl
theorem f9 {env:Env} {x:Str}: ∀ {names:List (Str×NameKind)},
  (names.map fun (n,k)=>if (k==NameKind.free&&env.scope.kind== .function&&env.kindOf n==some .cell) then (n,NameKind.cell) else (n,k)).lookup x=
   (names.lookup x).map fun k=>if (k==NameKind.free&&env.scope.kind== .function&&env.kindOf x==some .cell) then NameKind.cell else k
 | []=>rfl
 | (n, k) :: r => by
  have ih:=f9 (env:=env) (x:=x) (names:=r)
  show List.lookup x ((if (k==NameKind.free&&env.scope.kind== .function&&env.kindOf n==some .cell)=true then (n,NameKind.cell) else (n,k))::_)=_
  rw [List.lookup_cons (b:=k)]
  cases hx:x==n with
  | true=>
   have e:x=n:=eq_of_beq hx
   subst e
   by_cases hc:(k==NameKind.free&&env.scope.kind== .function&&env.kindOf x==some .cell)=true
   ·rw [if_pos hc,List.lookup_cons,hx]
    show some NameKind.cell=some (if (k==NameKind.free&&env.scope.kind== .function&&env.kindOf x==some .cell)=true then NameKind.cell else k)
    rw [if_pos hc]
   ·rw [if_neg hc,List.lookup_cons,hx]
    show some k=some (if (k==NameKind.free&&env.scope.kind== .function&&env.kindOf x==some .cell)=true then NameKind.cell else k)
    rw [if_neg hc]
  | false=>
   by_cases hc:(k==NameKind.free&&env.scope.kind== .function&&env.kindOf n==some .cell)=true
   ·rw [if_pos hc,List.lookup_cons,hx];exact ih
   ·rw [if_neg hc,List.lookup_cons,hx];exact ih
theorem CScope.free_of {esc sc:Scope} {env:Env} (S:CScope esc sc) {x:Str} (h:(relabel sc env).names.lookup x=some .cell\/(relabel sc env).names.lookup x=some .free):(x,NameKind.free)∈sc.names:=by
 have q:(relabel sc env).names.lookup x=_:=f9 (env:=env) (x:=x) (names:=sc.names)
 rw [q] at h
 cases e:sc.names.lookup x with
 | none=>rw [e] at h;simp at h
 | some k=>
  have hm:=mem_lookup e
  have hn:=S.nocell _ hm
  cases k with
  | free=>exact hm
  | cell=>exact absurd rfl hn
  | _=>rw [e] at h;simp at h
theorem CScope.cell_of {esc sc:Scope} {env:Env} (S:CScope esc sc) (he:env.scope=esc) (hk:env.scope.kind= .function) {x:Str} (h:sc.names.lookup x=some .free):(relabel sc env).names.lookup x=some .cell\/(relabel sc env).names.lookup x=some .free:=by
 have q:(relabel sc env).names.lookup x=_:=f9 (env:=env) (x:=x) (names:=sc.names)
 rw [q,h]
 simp only [Option.map_some]
 split
 ·exact .inl rfl
 ·exact .inr rfl
noncomputable def cap (κ:List (Option Nat)) (σ:St):St:=κ.map fun o=>o.bind fun i=>(σ[i]?).join
noncomputable def capOk (κ:List (Option Nat)) (N' N:List Str) (sc:Scope):Bool:=
 decide (κ.length=N'.length)&&(κ.zip N').all fun p=>match p.1 with
  | none=>true
  | some i=>N[i]? ==some p.2&&sc.names.lookup p.2==some .free
theorem capOk.len {κ:List (Option Nat)} {N' N:List Str} {sc:Scope} (h:capOk κ N' N sc=true):κ.length=N'.length:=by
 unfold capOk at h
 rw [Bool.and_eq_true] at h
 exact Wa h.1
theorem capOk.at {κ:List (Option Nat)} {N' N:List Str} {sc:Scope} (h:capOk κ N' N sc=true) {j:Nat} {y:Str} {v:V} {σ:St} (hN:N'[j]? =some y) (hv:(cap κ σ)[j]? =some (some v)):
  ∃i:Nat,N[i]? =some y/\σ[i]? =some (some v)/\sc.names.lookup y=some .free:=by
 unfold capOk at h
 rw [Bool.and_eq_true,List.all_eq_true] at h
 unfold cap at hv
 rw [Zd] at hv
 cases e:κ[j]? with
 | none=>rw [e] at hv;simp at hv
 | some o=>
  rw [e] at hv
  simp only [Option.map_some,Option.some.injEq] at hv
  cases o with
  | none=>simp at hv
  | some i=>
   have hm:(some i,y)∈κ.zip N':=Zj (i:=j) (by rw [List.getElem?_zip_eq_some];exact ⟨e,hN⟩)
   have q:=h.2 _ hm
   simp only [Bool.and_eq_true,beq_iff_eq] at q
   refine ⟨i,q.1,?_,q.2⟩
   simp only [Option.bind_some] at hv
   cases r:σ[i]? with
   | none=>rw [r] at hv;simp at hv
   | some z=>rw [r] at hv;simp at hv;rw [hv]
noncomputable def n6 (a b:St):Prop:=b.length=a.length/\ ∀ (i:Nat) v,a[i]? =some (some v)->b[i]? =some (some v)
noncomputable def xZ (X:Cx) (ifs:List Expr) (t:TT):Prop:=
 ∀ (pins:List (Addr×Obj)) (s:Shared) (σ:St) (H:Hp) (Q:Bool->Hp->Prop),Inv X pins σ H s->t σ H Q->
  wpAny (model X.prog X.w) X.A (forIn ifs true fun c r=>if r=true then do let ok <- isTrue c X.env (eval c X.env);pure (ForInStep.yield ok) else pure (ForInStep.yield r)) (TP X pins σ Q) X.xe s
noncomputable def dj:TT:=fun _ H Q=>Q true H
theorem cD {X:Cx}:xZ X [] dj:=fun pins s σ H Q I h=>wpAny_tests_nil ⟨H,I,h⟩
theorem uo {X:Cx} {c:Expr} {t:TT} (h:PT X c t):xZ X [c] t:=fun pins s σ H Q I q=>wpAny_tests_one (h pins s σ H Q I q)
section
variable {prog:Program} {w:World} {A:Around} {R:Result->Shared->Prop} {s:Shared}
theorem ni {elt target iter:Expr} {ifs:List Expr} {scope:Scope} {pos:Pos} {it acc:Value} {env:Env} (I:Nat->Shared->Prop)
  (turn: ∀n s,I n s->wpAny (model prog w) A (pyNext it) (fun r s₁=>match r with
   | none=>R (.ok .next) s₁
   | some v=>wpAny (model prog w) A (letOwnedTupleGo target it v) (fun _ s₁'=>wpAny (model prog w) A (assign target env v) (fun _ s₂=>
     wpAny (model prog w) A (forIn ifs true fun c r=>if r=true then do let ok <- isTrue c env (eval c env);pure (ForInStep.yield ok) else pure (ForInStep.yield r)) (fun ok s₃=>
      if ok=true then wpAny (model prog w) A (eval elt env) (fun x s₄=>
       wpAny (model prog w) A (call (.builtin "list.append") [acc,x]) (fun _ s₅=> ∃m,m<n/\I m s₅) (fun _ _=>False) s₄) (fun _ _=>False) s₃
      else ∃m,m<n/\I m s₃) (fun _ _=>False) s₂) (fun _ _=>False) s₁') (fun _ _=>False) s₁) (fun _ _=>False) s)
  (n:Nat) (h:I n s):
  codeAny (model prog w) A (.compLoop (.ListComp elt [⟨target,iter,ifs,0⟩] scope pos) 0 it acc env) R s:=by
 refine codeAny_loop rfl I (fun n s hI=> ?_) n h
 show wpAny _ A ((compTurn (.ListComp elt [⟨target,iter,ifs,0⟩] scope pos) 0 it acc env).onRaise (fun x=>do noteFrame x env;theTreesLotGoes x)) _ _ s
 refine wpAny_noted ?_
 rw [compTurn_list]
 refine Xz (E:=fun _ _=>False) ?_ (fun _ _ q=>q) (fun _ _ z=>z.elim)
 refine Qb (wpAny_standAt (Qb (Xz (turn n s hI) (fun r s₁ h₁=> ?_) fun _ _ h'=>h')))
 cases r with
 | none=>exact Za h₁
 | some v=>
  refine Qb (Xz h₁ (fun _ s₁' h₁'=> ?_) fun _ _ h'=>h')
  refine Qb (Xz h₁' (fun _ s₂ h₂=>Qb (Xz h₂ (fun ok s₃ h₃=> ?_) fun _ _ h'=>h')) fun _ _ h'=>h')
  cases ok with
  | false=>exact Za ⟨rfl,h₃⟩
  | true=>
   exact Qb (Qb (Xz h₃ (fun x s₄ h₄=>Qb (Xz h₄ (fun _ s₅ h₅=>Za (Za ⟨rfl,h₅⟩)) fun _ _ h'=>h')) fun _ _ h'=>h'))
end
theorem HOk.track {P:Program} {w:World} {H:Hp} {h:Heap} {a:Addr} {o:HO} (x:HOk P w H h) (hn:H a=none) (new:ObjOk P w (upd H a o) h a o):HOk P w (upd H a o) h:=fun b u e=>by
 by_cases hb:b=a
 ·subst hb;rw [au] at e;cases e;exact new
 ·rw [aF hb] at e
  exact (x b u e).stay (fun c v _ q=>q) (fun c q=>by rw [aF (aR q hn)];exact q) fun c xs q=>by rw [aF (aR q hn)];exact q
section
variable {X:Cx} {pins:List (Addr×Obj)} {σ:St} {H2:Hp} {s₂:Shared} {tg iter elt:Expr} {ifs:List Expr} {sc:Scope} {pos:Pos} {N':List Str} {κ:List (Option Nat)} {cl:List (Str×Addr)} {it:Addr} {fp:List Addr} {tn:Nat->Heap->Prop} {J:It} {g:TG} {tc:TT} {te:TE}
theorem Ju (I:Inv X pins σ H2 s₂) (f2: ∀b∈fp,jr X pins H2 b) (fl: ∀b∈fp,b<s₂.heap.objs.size) (S:CScope X.env.scope sc)
  (hcl1: ∀x c,cl.lookup x=some c->X.env.cells.lookup x=some c) (hcl2: ∀x c,X.env.cells.lookup x=some c->(x,NameKind.free)∈sc.names->cl.lookup x=some c) {C:Addr} (hC:s₂.heap.objs.size<=C):
  (blk X sc N' cl C s₂ H2 fp pins).Ok where
 mod:=I.mod
 kind:=S.kind
 glob:=I.ok.glob
 blt:=I.ok.blt
 above:=hC
 inj:=fun x y c h1 h2=>I.ok.inj x y c (hcl1 _ _ h1) (hcl1 _ _ h2)
 has:=fun x h=>by
  have hm:=S.free_of (env:=X.env) h
  obtain ⟨c,hc⟩:=I.ok.has x (S.frees _ hm rfl)
  exact ⟨c,hcl2 x c hc hm⟩
 cab:=fun x c h _=>by cases h
 hd:=I.ok.hd
 frames:=I.ok.frames
 stk:= .inl rfl
 exf:=fun b hb=>⟨Nat.ne_of_lt (Zz (fl b hb) hC),fun x c hx=>(f2 b hb).2.2.2.2.1 x c (hcl1 x c hx)⟩
 bs:=I.bs
 bsz:=Yk I.ok.bsz I.sz
 noex:=fun b o hb hm=>by
  obtain ⟨_,_,_,h4,_⟩:=f2 b hm
  rcases h4 with h4 | h4
  ·exact I.ok.noex b o hb h4
  ·exact absurd (Zk (I.ok.bs b o hb).1) (Nat.not_lt.mpr h4)
 exfs:=fun b hb hm=>by
  rcases Zu.mp (I.stkSub b hm) with z | z
  ·exact (f2 b hb).2.1 z
  ·exact (f2 b hb).2.2.1 z
 funs:=I.stack
 frf:=I.stkFree
theorem DW (I:Inv X pins σ H2 s₂) (f2: ∀b∈fp,jr X pins H2 b) (fl: ∀b∈fp,b<s₂.heap.objs.size) (S:CScope X.env.scope sc) (hcap:capOk κ N' X.N sc=true)
  (hcl1: ∀x c,cl.lookup x=some c->X.env.cells.lookup x=some c) (hcl2: ∀x c,X.env.cells.lookup x=some c->(x,NameKind.free)∈sc.names->cl.lookup x=some c) {C:Addr} (hC:s₂.heap.objs.size<=C)
  {h':Heap} {m':Str->Option Value} {tk:Nat} (hn:h'.Ns C m') (old: ∀b o,s₂.heap.get? b=some o->h'.get? b=some o):
  Inv (blk X sc N' cl C s₂ H2 fp pins) [] (cap κ σ) H2 { s₂ with heap:=h',toks:=tk } where
 ok:=Ju I f2 fl S hcl1 hcl2 hC
 os:=rfl
 bare:=I.bare
 base:=Un.kept old
 loc:=⟨m',hn,fun j y v hy hv hvis=>by
  obtain ⟨i,hi,hs,hf⟩:=capOk.at hcap hy hv
  have hm:=mem_lookup hf
  have hfr:=S.frees _ hm rfl
  obtain ⟨m,_,hl⟩:=I.loc
  obtain ⟨u,ru,lk⟩:=hl i y v hi hs (.inr hfr)
  refine ⟨u,ru, .inr ⟨S.cell_of (env:=X.env) rfl I.ok.kind hf,?_⟩⟩
  rcases lk with ⟨hk,_⟩ | ⟨_,c,hc,hu⟩
  ·have hk':X.env.scope.names.lookup y=some .local:=hk
   rcases hfr with z | z<;>(have z':X.env.scope.names.lookup y=_:=z;rw [hk'] at z';cases z')
  ·obtain ⟨o,e,r⟩:=hu
   exact ⟨c,hcl2 y c hc hm,o,old _ _ e,r⟩⟩
 cell:=fun x c hx=>by
  obtain ⟨v,o,e,r⟩:=I.cell x c (hcl1 x c hx)
  exact ⟨v,o,old _ _ e,r⟩
 free:=I.hok.fresh hC
 freeC:=fun x c hx=>I.freeC x c (hcl1 x c hx)
 pin:=fun p hp=>by
  have hp':p∈X.pn++pins:=by simpa using hp
  obtain ⟨h1,h2,h3,h4,h5⟩:=I.pin p hp'
  refine ⟨old _ _ h1,h2,Yh (Zz (Zk h1) hC),fun z=> ?_,h5⟩
  rcases Zu.mp (I.stkSub p.1 z) with y | y
  ·exact h3 y
  ·exact h4 y
 hok:=I.hok.kept old
 len:=by
  show (cap κ σ).length=N'.length
  unfold cap
  rw [Qr]
  exact capOk.len hcap
structure Left (X:Cx) (pins:List (Addr×Obj)) (σ:St) (C:Addr) (H:Hp) (s:Shared):Prop where
 inv:Inv X pins σ H s
 ns: ∃m,s.heap.Ns C m
 un:H C=none
 nl:C≠X.env.locals
 nf:C∉X.fs
 ab:X.s₀.heap.objs.size<=C
 nc: ∀x c,X.env.cells.lookup x=some c->c≠C
 np: ∀p∈X.pn++pins,p.1≠C
theorem Left.go {C:Addr} {H:Hp} {s:Shared} (l:Left X pins σ C H s) {h':Heap} (hs:Heap.SameBut C s.heap h'):Inv X pins σ H { s with heap:=h' }:=
 l.inv.turned (t':=s.toks) (fun b o hb e=>hs.extBut b o hb e) l.un l.nl (.inr l.ab) l.nc l.np
theorem ur (hc:X.calm=true) (I:Inv X pins σ H2 s₂) (T:Turn X.prog X.w X.K tg J fp it tn) (st:tn 0 s₂.heap) (f2: ∀b∈fp,jr X pins H2 b)
  (S:CScope X.env.scope sc) (hcap:capOk κ N' X.N sc=true) (hcl1: ∀x c,cl.lookup x=some c->X.env.cells.lookup x=some c) (hcl2: ∀x c,X.env.cells.lookup x=some c->(x,NameKind.free)∈sc.names->cl.lookup x=some c)
  (hg: ∀C,PG (blk X sc N' cl C s₂ H2 fp pins) tg g) (hi: ∀C,xZ (blk X sc N' cl C s₂ H2 fp pins) ifs tc) (he: ∀C,PE (blk X sc N' cl C s₂ H2 fp pins) elt te)
  {W:Nat->Nat->List V->Hp->Prop} {Q:VK} {m0:Nat} (w0:W 0 m0 [] H2)
  (turn: ∀i m ys H,W i m ys H->(J.stop i H/\ ∀p,H p=none->Q (.ref p) (upd H p (.lst ys)))\/
   (J.go i H/\ys.length<sizeLine/\ ∃N:List V->Hp->Prop,(∀ys' H',N ys' H'-> ∃m',m'<m/\W (i+1) m' ys' H')/\ ∀x H',J.yld i H x H'->g x (cap κ σ) H' fun σ2 H2=>n6 (cap κ σ) σ2/\tc σ2 H2 fun b H3=>if b=true then te σ2 H3 fun y H4=>N (ys++[y]) H4 else N ys H3))
  {E:Value->Shared->Prop} {RR:Value->Addr->Result->Shared->Prop} (hRR: ∀D C H' s1,Left X pins σ C H' s1->Q (.ref D) H'->RR (.ref D) C (.ok .next) s1):
  wpAny (model X.prog X.w) X.A (newList []) (fun acc s₃=>wpAny (model X.prog X.w) X.A (newFunctionEnv sc X.env.globals cl [] X.env.qual none .none (some X.env)) (fun cenv s₄=>
   codeAny (model X.prog X.w) X.A (.compStart (.ListComp elt [⟨tg,iter,ifs,0⟩] sc pos) 0 (.ref it) acc { cenv with scope:=relabel sc X.env }) (RR acc cenv.locals) s₄) E s₃) E s₂:=by
 refine Xc (wpAny_newFunctionEnv S.nocell (by intro y hy;simp at hy) (fun h₁ hns₁ hsb₁=> ?_) S.kind)
 dsimp only at hns₁ hsb₁ ⊢
 generalize hH2:s₂.heap.push { cls:= .type "list",dict:=none,data:= .seq ([]:List Value).toArray }=P2 at hns₁ hsb₁ ⊢
 have hCs:P2.objs.size=s₂.heap.objs.size+1:=by rw [<- hH2,Heap.size_push]
 generalize hCe:P2.objs.size=C at hns₁ hsb₁ hCs ⊢
 generalize hDe:s₂.heap.objs.size=D at hCs ⊢
 have hDC:D≠C:=by rw [hCs];exact Yh (Nat.lt_succ_self _)
 have hC:s₂.heap.objs.size<=C:=by rw [hDe,hCs];exact Nat.le_succ _
 have hD:s₂.heap.objs.size<=D:=by rw [hDe];exact Zh _
 have below: ∀b,b<s₂.heap.objs.size->b≠C/\b≠D:=fun b hb=>⟨Nat.ne_of_lt (Zz hb hC),Yh (Zz hb hD)⟩
 have old: ∀b o,s₂.heap.get? b=some o->h₁.get? b=some o:=fun b o e=>hsb₁.extBut b o (below b (Zk e)).1 (Zb _ (hH2▸Zb _ e))
 have hacc:h₁.get? D=some { cls:= .type "list",data:= .seq ([]:List Value).toArray ([]:List Value).length }:=by
  have q:P2.get? s₂.heap.objs.size=some { cls:= .type "list",data:= .seq ([]:List Value).toArray 0 }:=hH2▸Zm _ rfl
  rw [hDe] at q
  exact hsb₁.extBut _ _ hDC (Zb _ q)
 have fl: ∀b∈fp,b<s₂.heap.objs.size:=fun b hb=>by
  obtain ⟨o,e,_⟩:=T.obj 0 _ st b hb
  exact Zk e
 have st₁:tn 0 h₁:=T.keep 0 _ _ st fun b _ o e=>old b o e
 have IB: ∀tk,Inv (blk X sc N' cl C s₂ H2 fp pins) [] (cap κ σ) H2 { s₂ with heap:=h₁,toks:=tk }:=fun tk=>DW I f2 fl S hcap hcl1 hcl2 hC hns₁ old
 have cells: ∀x c,cl.lookup x=some c->c<s₂.heap.objs.size:=fun x c hx=>by
  obtain ⟨v,o,e,_⟩:=I.cell x c (hcl1 x c hx)
  exact Zk e
 have pnlt: ∀p∈X.pn++pins,p.1<s₂.heap.objs.size:=fun p hp=>Zk (I.pin p hp).1
 have stat: ∀ {H':Hp} {pl:List (Addr×Obj)},(∀b∈fp,H' b=none)->(∀p∈pl,p.1=D)-> ∀b∈fp,jr (blk X sc N' cl C s₂ H2 fp pins) pl H' b:=fun {H' pl} hn hpl b hb=>by
  refine ⟨hn b hb,(below b (fl b hb)).1,fun z=> ?_, .inl hb,fun x c hx=>(f2 b hb).2.2.2.2.1 x c (hcl1 x c hx),fun p hp=> ?_⟩
  ·rcases Zu.mp (I.stkSub b z) with z | z
   ·exact (f2 b hb).2.1 z
   ·exact (f2 b hb).2.2.1 z
  ·rcases Yc.mp hp with z | z
   ·exact (f2 b hb).2.2.2.2.2 p z
   ·rw [hpl p z];exact Ne.symm (below b (fl b hb)).2
 have pinD: ∀ {s':Shared} {σ':St} {H':Hp} {o:Obj},Inv (blk X sc N' cl C s₂ H2 fp pins) [] σ' H' s'->s'.heap.get? D=some o->H' D=none->(∀v,o.data≠ .cell v)->Inv (blk X sc N' cl C s₂ H2 fp pins) [(D,o)] σ' H' s':=fun {s' σ' H' o} I' e n d=>
  I'.pins_of fun p hp=>by
   rw [Zf.mp hp]
   refine ⟨e,n,hDC,fun z=> ?_,d⟩
   have z':D<s₂.heap.objs.size:=by
    rcases Zu.mp (I.stkSub D z) with y | y
    ·have y':D=X.env.locals:=y
     rw [y'];exact I.lt
    ·exact absurd y (I.nofs hD)
   exact absurd z' (Nat.not_lt.mpr hD)
 have loop : ∀ s₃ : Shared, s₃ = { s₂ with heap := h₁, toks := s₂.toks + ([] : List (Str × Value)).length } ->
   codeAny (model X.prog X.w) X.A (.compLoop (.ListComp elt [⟨tg,iter,ifs,0⟩] sc pos) 0 (.ref it) (.ref D) (compEnvC sc cl C X.env)) (RR (.ref D) C) s₃:=by
  rintro s₃ rfl
  refine ni (fun n s'=> ∃ (i:Nat) (ys:List V) (its:List Value) (H':Hp),Inv (blk X sc N' cl C s₂ H2 fp pins) [] (cap κ σ) H' s'/\tn i s'.heap/\(∀b∈fp,H' b=none)/\
   s'.heap.get? D=some { cls:= .type "list",data:= .seq its.toArray its.length }/\Vals ys its/\H' D=none/\ys.length<=sizeLine/\W i n ys H') ?_ m0
   ⟨0,[],[],H2,IB _,st₁,fun b hb=>(f2 b hb).1,hacc, .nil,I.hok.fresh hD,Yp _,w0⟩
  rintro n s3 ⟨i,ys,its,H3,I3,st3,fr3,d3,v3,n3,z3,w3⟩
  have I3':=pinD I3 d3 n3 (by intro v z;cases z)
  have ff:=stat (pl:=[(D,({ cls:= .type "list",data:= .seq its.toArray its.length }:Obj))]) fr3 (fun p hp=>by rw [Zf.mp hp])
  rcases turn i n ys H3 w3 with ⟨stop,qn⟩ | ⟨go,hlt,N,hN,step⟩
  ·refine bI (T.done (blk X sc N' cl C s₂ H2 fp pins) rfl rfl rfl hc i _ s3 (cap κ σ) H3 _ I3' ff st3 stop) fun r s4 ⟨hr,I4⟩=> ?_
   subst hr
   show RR (.ref D) C (.ok .next) s4
   obtain ⟨dD,nD,_⟩:=I4.pin (D,_) (Yi _ Zq)
   have nC:H3 C=none:=I4.free
   have u4:=I4.base
   have hok:HOk X.prog X.w (upd H3 D (.lst ys)) s4.heap:=HOk.track I4.hok nD ⟨z3,its,its.length,v3,dD⟩
   have un:Un (frs X.stack) fp H2 (upd H3 D (.lst ys)) s₂.heap s4.heap:=
    ⟨u4.keep,u4.slot,fun b o q n hx=>by rw [aF (below b (Zk q)).2];exact u4.free b o q n hx,u4.there,
     fun b xs q=>by rw [aF (aR (u4.tups b xs q) nD)];exact u4.tups b xs q,
     fun b o x q=>by rw [aF (aR (u4.frzs b o x q) nD)];exact u4.frzs b o x q,
     fun b ps q=>by
      obtain ⟨m1,e1⟩:=u4.tbls b ps q
      exact ⟨m1,by rw [aF (aR e1 nD)];exact e1⟩⟩
   have IX:Inv X pins σ (upd H3 D (.lst ys)) s4:=I.call' (by exact I4.os) un hok I4.bare fun b hb=>⟨(f2 b hb).2.2.2.1,(f2 b hb).2.1,(f2 b hb).2.2.2.2⟩
   obtain ⟨m4,hn4,_⟩:=I4.loc
   refine hRR D C _ s4 ⟨IX,⟨m4,hn4⟩,by rw [aF (Ne.symm hDC)];exact nC,Ne.symm (below _ I.lt).1,I.nofs hC,Yk I.sz hC,fun x c hx=> ?_,fun p hp=>(below _ (pnlt p hp)).1⟩ (qn D nD)
   obtain ⟨v,o,e,_⟩:=I.cell x c hx
   exact (below c (Zk e)).1
  ·refine bI (T.item (blk X sc N' cl C s₂ H2 fp pins) rfl rfl rfl hc i _ s3 (cap κ σ) H3 _ I3' ff st3 go) fun r s4 ⟨u,hr,h4⟩=> ?_
   subst hr
   refine bI h4 fun _ s5 ⟨x,H5,I5,r5,y5,st5,fr5⟩=> ?_
   have ff5:=stat (pl:=[(D,({ cls:= .type "list",data:= .seq its.toArray its.length }:Obj))]) fr5 (fun p hp=>by rw [Zf.mp hp])
   have I5':=I5.pinned ff5 (T.obj _ _ st5)
   refine bI (hg C _ s5 (cap κ σ) H5 x u _ I5' r5 (step x H5 y5)) fun _ s6 ⟨σ6,H6,I6,ex6,q6⟩=> ?_
   refine bI (hi C _ s6 σ6 H6 _ I6 q6) fun ok s7 ⟨H7,I7,q7⟩=> ?_
   have keep: ∀ {σ8:St} {H8:Hp} {s8:Shared},Inv (blk X sc N' cl C s₂ H2 fp pins) ([(D,({ cls:= .type "list",data:= .seq its.toArray its.length }:Obj))]++jt fp s5.heap) σ8 H8 s8->
     tn (i+1) s8.heap/\(∀b∈fp,H8 b=none)/\s8.heap.get? D=some { cls:= .type "list",data:= .seq its.toArray its.length }/\H8 D=none:=fun {σ8 H8 s8} I8=>by
    refine ⟨T.keep _ _ _ st5 fun b hb o e=>(I8.pin (b,o) (Yi _ (Yi _ (eY hb e)))).1,fun b hb=> ?_,?_⟩
    ·obtain ⟨o,e,d⟩:=T.obj _ _ st5 b hb
     exact (I8.pin (b,o) (Yi _ (Yi _ (eY hb e)))).2.1
    ·obtain ⟨e,n,_⟩:=I8.pin (D,_) (Yi _ (Xf _ Zq))
     exact ⟨e,n⟩
   cases ok with
   | false=>
    have q7':N ys H7:=by simpa using q7
    obtain ⟨m',hm,w7⟩:=hN _ _ q7'
    obtain ⟨t8,f8,d8,n8⟩:=keep I7
    show ∃m,m<n/\_
    exact ⟨m',hm,i+1,ys,its,H7,(I7.pins_of (pins':=[]) (fun p hp=>nomatch hp)).weak ex6.1.symm ex6.2,t8,f8,d8,v3,n8,z3,w7⟩
   | true=>
    have q7':te σ6 H7 fun y H4=>N (ys++[y]) H4:=by simpa using q7
    show wpAny _ _ (eval elt (compEnvC sc cl C X.env)) _ _ s7
    refine bI (he C _ s7 σ6 H7 _ I7 q7') fun v s8 ⟨y,H8,I8,r8,q8⟩=> ?_
    obtain ⟨m',hm,w8⟩:=hN _ _ q8
    obtain ⟨t8,f8,d8,n8⟩:=keep I8
    refine append_at (hsz:=by rw [Ya,<- v3.length];exact z3) d8 fun h9 hs9 hd9=> ?_
    have I9:Inv (blk X sc N' cl C s₂ H2 fp pins) [] σ6 H8 { s8 with heap:=h9,toks:=s8.toks }:=by
     refine (I8.pins_of (pins':=[]) (fun p hp=>nomatch hp)).turned (fun b o hb e=>hs9.extBut b o hb e) n8 hDC (.inr hD) (fun x c hx=>(below c (cells x c hx)).2) fun p hp=> ?_
     have hp':p∈X.pn++pins:=by simpa using hp
     exact (below _ (pnlt p hp')).2
    refine ⟨m',hm,i+1,ys++[y],its++[v],H8,I9.weak ex6.1.symm ex6.2,T.keep _ _ _ t8 fun b hb o e=>hs9.extBut b o (below b (fl b hb)).2 e,f8,?_,Vals.append v3 (.cons r8 .nil),n8,?_,w8⟩
    ·show h9.get? D=_
     rw [hd9]
     simp
    ·rw [Zn,We];exact hlt
 exact codeAny_compStart_list (loop _ rfl) (T.self X.A 0 _ _ _ st₁ (loop _ rfl))
noncomputable def qG (κ:List (Option Nat)) (wi:TI) (g:TG) (tc:TT) (te:TE):TE:=fun σ H Q=>wi σ H fun J H1=> ∃W:Nat->Nat->List V->Hp->Prop,(∃m,W 0 m [] H1)/\ ∀i m ys H,W i m ys H->
 (J.stop i H/\ ∀p,H p=none->Q (.ref p) (upd H p (.lst ys)))\/
 (J.go i H/\ys.length<sizeLine/\ ∃N:List V->Hp->Prop,(∀ys' H',N ys' H'-> ∃m',m'<m/\W (i+1) m' ys' H')/\ ∀x H',J.yld i H x H'->g x (cap κ σ) H' fun σ2 H2=>n6 (cap κ σ) σ2/\tc σ2 H2 fun b H3=>if b=true then te σ2 H3 fun y H4=>N (ys++[y]) H4 else N ys H3)
theorem fO {wi:TI} (κ:List (Option Nat)) (N':List Str) (hc:X.calm=true) (hit:PI X tg iter wi) (S:CScope X.env.scope sc) (hcap:capOk κ N' X.N sc=true)
  (hg: ∀cl C s H fp pins,PG (blk X sc N' cl C s H fp pins) tg g) (hi: ∀cl C s H fp pins,xZ (blk X sc N' cl C s H fp pins) ifs tc) (he: ∀cl C s H fp pins,PE (blk X sc N' cl C s H fp pins) elt te)
  (hs: ∀x,foldedSetIterable iter X.env x=pure x:=by intro _;rfl):PE X (.ListComp elt [⟨tg,iter,ifs,0⟩] sc pos) (qG κ wi g tc te):=by
 intro pins s σ H Q I h
 obtain ⟨cl,hclos,hcl1,hcl2⟩:=ul (sc:=sc) (env:=X.env) fun y hy hf=>I.ok.has y.1 (S.frees y hy hf)
 rw [eval_ListComp]
 refine wpAny_comprehension_free (use:=none) rfl hs hclos S.kind S.locs (bI (hit pins s σ H _ I h) fun v s1 h1=>bI h1 fun itv s2 h2=> ?_)
 obtain ⟨it,fp,tn,J,H2,e,I2,T,st2,f2,W,⟨m0,w0⟩,turn⟩:=h2
 subst e
 refine ur hc I2 T st2 f2 S hcap hcl1 hcl2 (fun C=>hg cl C s2 H2 fp pins) (fun C=>hi cl C s2 H2 fp pins) (fun C=>he cl C s2 H2 fp pins) w0 turn fun D C H' s1 l q=> ?_
 obtain ⟨m,hn⟩:=l.ns
 exact ⟨m,hn,fun h' hs'=>⟨V.ref D,H',l.go hs',rfl,q⟩⟩
theorem Hl {wi:TI} {i:Nat} {x:Str} {px spos:Pos} (κ:List (Option Nat)) (N':List Str) (hc:X.calm=true) (hN:X.N.Nodup) (hix:X.N[i]? =some x) (hlx:X.env.scope.names.lookup x=some .local)
  (hit:PI X tg iter wi) (S:CScope X.env.scope sc) (hcap:capOk κ N' X.N sc=true)
  (hg: ∀cl C s H fp pins,PG (blk X sc N' cl C s H fp pins) tg g) (hi: ∀cl C s H fp pins,xZ (blk X sc N' cl C s H fp pins) ifs tc) (he: ∀cl C s H fp pins,PE (blk X sc N' cl C s H fp pins) elt te)
  (hsw:swapsWith (.ListComp elt [⟨tg,iter,ifs,0⟩] sc pos) (some (.Name x px)) spos.line X.env=pure true:=by rfl)
  (hs: ∀x,foldedSetIterable iter X.env x=pure x:=by intro _;rfl):PS X (.Assign [.Name x px] (.ListComp elt [⟨tg,iter,ifs,0⟩] sc pos) spos) (aZ (qG κ wi g tc te) (aC i)):=by
 intro pins s σ H D I h
 obtain ⟨cl,hclos,hcl1,hcl2⟩:=ul (sc:=sc) (env:=X.env) fun y hy hf=>I.ok.has y.1 (S.frees y hy hf)
 rw [exec_Assign_Name_used _ _ _ _ hsw]
 refine Qb (wpAny_standAt (Qb ?_))
 show wpAny _ X.A (do let _ <- comprehension (.ListComp elt [⟨tg,iter,ifs,0⟩] sc pos) sc X.env _ (newList []) false (eval iter X.env) (some (assign (.Name x px) X.env))) _ _ s
 refine Qb (Xz (wpAny_comprehension_free (use:=some (assign (.Name x px) X.env)) (Q:=fun _ s'=>SP X pins D .next s') rfl hs hclos S.kind S.locs
  (bI (hit pins s σ H _ I h) fun v s1 h1=>bI h1 fun itv s2 h2=> ?_)) (fun _ s' hq=>Za (Za hq)) fun _ _ e=>e)
 obtain ⟨it,fp,tn,J,H2,e,I2,T,st2,f2,W,⟨m0,w0⟩,turn⟩:=h2
 subst e
 refine ur (Q:=fun y H1=>aC i y σ H1 D.nx) hc I2 T st2 f2 S hcap hcl1 hcl2 (fun C=>hg cl C s2 H2 fp pins) (fun C=>hi cl C s2 H2 fp pins) (fun C=>he cl C s2 H2 fp pins) w0 turn fun Dl C H' s1 l q=> ?_
 show wpAny _ X.A (assign (.Name x px) X.env (.ref Dl)) _ _ _
 refine wpAny_assign_Name (lJ l.inv hN hix (.inl hlx) (v:= .ref Dl) rfl (fun s3 I3 ⟨a,hsa,ha⟩=> ?_) (.inr hlx))
 obtain ⟨m,hn⟩:=l.ns
 have hCa:C≠a:=by
  rcases ha with z | z
  ·rw [z];exact l.nl
  ·exact Ne.symm (l.nc x a z)
 refine ⟨m,hn.sameBut hsa hCa,fun h' hs'=> ?_⟩
 have I4:Inv X pins (σ.set i (some (.ref Dl))) H' { s3 with heap:=h' }:=I3.turned (t':=s3.toks) (fun b o hb e=>hs'.extBut b o hb e) l.un l.nl (.inr l.ab) l.nc l.np
 exact ⟨_,_,I4,q⟩
end
section
variable {κ:List (Option Nat)} {g:TG} {tc:TT} {te:TE} {σ:St} {H:Hp} {Q:VK}
theorem yc {lo:Int} {n:Nat} (Pv:Nat->List V->Hp->Prop) (h0:Pv 0 [] H) (hn:n<=sizeLine) (hz: ∀i ys H,Pv i ys H->ys.length<=i)
  (hs: ∀i ys H,i<n->Pv i ys H->g (.int (lo+i)) (cap κ σ) H fun σ2 H2=>n6 (cap κ σ) σ2/\tc σ2 H2 fun b H3=>if b=true then te σ2 H3 fun y H4=>Pv (i+1) (ys++[y]) H4 else Pv (i+1) ys H3)
  (hd: ∀ys H,Pv n ys H-> ∀p,H p=none->Q (.ref p) (upd H p (.lst ys))):
  ∃W:Nat->Nat->List V->Hp->Prop,(∃m,W 0 m [] H)/\ ∀i m ys H,W i m ys H->
   ((oV lo n).stop i H/\ ∀p,H p=none->Q (.ref p) (upd H p (.lst ys)))\/
   ((oV lo n).go i H/\ys.length<sizeLine/\ ∃N:List V->Hp->Prop,(∀ys' H',N ys' H'-> ∃m',m'<m/\W (i+1) m' ys' H')/\ ∀x H',(oV lo n).yld i H x H'->g x (cap κ σ) H' fun σ2 H2=>n6 (cap κ σ) σ2/\tc σ2 H2 fun b H3=>if b=true then te σ2 H3 fun y H4=>N (ys++[y]) H4 else N ys H3):=by
 refine ⟨fun i m ys H=>m=n-i/\i<=n/\Pv i ys H,⟨n,by simp,Yp _,h0⟩,?_⟩
 rintro i m ys H ⟨rfl,hi,p⟩
 by_cases hlt:i<n
 ·refine .inr ⟨hlt,Zz (Yg (hz _ _ _ p) hlt) hn,Pv (i+1),fun ys' H' p'=>⟨n-(i+1),by rfl',rfl,hlt,p'⟩,fun x H' y=> ?_⟩
  obtain ⟨e,y⟩:=y
  subst e y
  exact hs i ys _ hlt p
 ·have e:i=n:=by rfl'
  subst e
  exact .inl ⟨Nat.le_refl _,hd ys H p⟩
theorem DX {K:W.Frag} {a:Addr} {xs:List V} (Pv:Nat->List V->Hp->Prop) (h0:Pv 0 [] H) (hn:xs.length<=sizeLine) (hl: ∀i ys H,i<=xs.length->Pv i ys H->SqL K H a xs) (hz: ∀i ys H,Pv i ys H->ys.length<=i)
  (hs: ∀i x ys H,xs[i]? =some x->Pv i ys H->g x (cap κ σ) H fun σ2 H2=>n6 (cap κ σ) σ2/\tc σ2 H2 fun b H3=>if b=true then te σ2 H3 fun y H4=>Pv (i+1) (ys++[y]) H4 else Pv (i+1) ys H3)
  (hd: ∀ys H,Pv xs.length ys H-> ∀p,H p=none->Q (.ref p) (upd H p (.lst ys))):
  ∃W:Nat->Nat->List V->Hp->Prop,(∃m,W 0 m [] H)/\ ∀i m ys H,W i m ys H->
   ((Dg K a).stop i H/\ ∀p,H p=none->Q (.ref p) (upd H p (.lst ys)))\/
   ((Dg K a).go i H/\ys.length<sizeLine/\ ∃N:List V->Hp->Prop,(∀ys' H',N ys' H'-> ∃m',m'<m/\W (i+1) m' ys' H')/\ ∀x H',(Dg K a).yld i H x H'->g x (cap κ σ) H' fun σ2 H2=>n6 (cap κ σ) σ2/\tc σ2 H2 fun b H3=>if b=true then te σ2 H3 fun y H4=>N (ys++[y]) H4 else N ys H3):=by
 refine ⟨fun i m ys H=>m=xs.length-i/\i<=xs.length/\Pv i ys H,⟨xs.length,by simp,Yp _,h0⟩,?_⟩
 rintro i m ys H ⟨rfl,hi,p⟩
 have q:=hl i ys H hi p
 by_cases hlt:i<xs.length
 ·refine .inr ⟨⟨xs,xs[i],q,by simp [hlt]⟩,Zz (Yg (hz _ _ _ p) hlt) hn,Pv (i+1),fun ys' H' p'=>⟨xs.length-(i+1),by rfl',rfl,hlt,p'⟩,fun x H' y=> ?_⟩
  obtain ⟨e,y⟩:=y
  subst e
  exact hs i x ys _ (y xs q) p
 ·have e:i=xs.length:=by rfl'
  subst e
  exact .inl ⟨⟨xs,q,Zh _⟩,hd ys H p⟩
end
end L2
end
section
namespace L2
open PySem PySem.Spec PyProof.Rows
mutual
inductive Dp (K:W.Frag) (H:Hp):V->PyData->Prop where
 | non:Dp K H .non .none
 | bl (b:Bool):Dp K H (.bl b) (.bool b)
 | int (i:Int):Dp K H (.int i) (.int i)
 | str (x:Str):Dp K H (.str x) (.str x)
 | lst {a:Addr} {xs:List V} {ds:List PyData}:SqL K H a xs->DpAll K H xs ds->Dp K H (.ref a) (.list ds)
 | tup {a:Addr} {xs:List V} {ds:List PyData}:SqT K H a xs->DpAll K H xs ds->Dp K H (.ref a) (.tuple ds)
inductive DpAll (K:W.Frag) (H:Hp):List V->List PyData->Prop where
 | nil:DpAll K H [] []
 | cons {x:V} {xs:List V} {d:PyData} {ds:List PyData}:Dp K H x d->DpAll K H xs ds->DpAll K H (x::xs) (d::ds)
end
theorem DpAll.ints {K:W.Frag} {H:Hp}: ∀ns:List Int,DpAll K H (ns.map V.int) (ns.map PyData.int)
 | []=> .nil
 | n::r=> .cons (.int n) (DpAll.ints r)
section
variable {X:Cx} {pins:List (Addr×Obj)} {σ:St} {H:Hp} {s:Shared}
mutual
theorem Dp.reads (I:Inv X pins σ H s): ∀ {x:V} {d:PyData} {u:Value},Dp X.K H x d->RelV x u-> ∃as,Reads s.heap u d as
 | _,_,_, .non,r=>by cases (show _=Value.none from r);exact ⟨_, .none⟩
 | _,_,_, .bl b,r=>by cases (show _=Value.bool b from r);exact ⟨_, .bool b⟩
 | _,_,_, .int i,r=>by obtain ⟨t,rfl⟩:=r;exact ⟨_, .int i t⟩
 | _,_,_, .str x,r=>by obtain ⟨t,rfl⟩:=r;exact ⟨_, .str x t⟩
 | _,_,_, .lst (a:=a) h hs,r=>by
  cases (show _=Value.ref a from r)
  obtain ⟨its,rv,p,_⟩:=I.list h
  obtain ⟨as,q⟩:=DpAll.reads I hs rv
  obtain ⟨o,n,e,hc,_,hd⟩:=p
  exact ⟨_, .list e hc hd (by simpa using q)⟩
 | _,_,_, .tup (a:=a) h hs,r=>by
  cases (show _=Value.ref a from r)
  obtain ⟨its,rv,p,_⟩:=I.tuple h
  obtain ⟨as,q⟩:=DpAll.reads I hs rv
  obtain ⟨o,e,hc,n,hd⟩:=p
  exact ⟨_, .tuple e hc hd (by simpa using q)⟩
theorem DpAll.reads (I:Inv X pins σ H s): ∀ {xs:List V} {ds:List PyData} {us:List Value},DpAll X.K H xs ds->Vals xs us-> ∃as,ReadsAll s.heap us ds as
 | _,_,_, .nil,r=>by cases r;exact ⟨_, .nil⟩
 | _,_,_, .cons h hs,r=>by
  cases r with
  | cons r rr=>
   obtain ⟨as,q⟩:=Dp.reads I h r
   obtain ⟨bs,p⟩:=DpAll.reads I hs rr
   exact ⟨_, .cons q p⟩
end
noncomputable def rEqD (K:W.Frag):R2:=fun x y H Q=> ∃d e,Dp K H x d/\Dp K H y e/\SeqAt.shaped d=true/\SeqAt.shaped e=true/\Q (.bl (PyData.eqv d e)) H
noncomputable def rNeD (K:W.Frag):R2:=fun x y H Q=> ∃d e,Dp K H x d/\Dp K H y e/\SeqAt.shaped d=true/\SeqAt.shaped e=true/\Q (.bl (!PyData.eqv d e)) H
theorem Jv (hu:X.A.units+64<cLine):gM X (compareOp .Eq) (rEqD X.K):=by
 intro pins s σ H x y v u Q I rx ry h
 obtain ⟨d,e,h1,h2,h3,h4,q⟩:=h
 obtain ⟨as,r1⟩:=h1.reads I rx
 obtain ⟨bs,r2⟩:=h2.reads I ry
 exact eq_dataH r1 r2 h3 h4 hu ⟨.bl _,H,I,rfl,q⟩
theorem Jw (hu:X.A.units+64<cLine):gM X (compareOp .NotEq) (rNeD X.K):=by
 intro pins s σ H x y v u Q I rx ry h
 obtain ⟨d,e,h1,h2,h3,h4,q⟩:=h
 obtain ⟨as,r1⟩:=h1.reads I rx
 obtain ⟨bs,r2⟩:=h2.reads I ry
 exact ne_dataH r1 r2 h3 h4 hu ⟨.bl _,H,I,rfl,q⟩
end
section
variable {X:Cx}
theorem pq:cg X (.builtin "isinstance") (fun xs H Q=> ∃T x t b,xs=[x, .ty T]/\TyOf X.K H x t/\PySem.W.kitOne X.K t (.type T)=some b/\Q (.bl b) H):=by
 intro pins s σ H xs us Q I rv h
 obtain ⟨T,x,t,b,rfl,ty,e,q⟩:=h
 obtain ⟨u,u',rfl,ru,ru'⟩:=rv.two
 cases (show u'=Value.type T from ru')
 exact vB I ru ty e fun tk=>⟨.bl b,H,I.tok tk,rfl,q⟩
theorem yd (hc:X.calm=true):cg X (.builtin "sum") (fun xs H Q=> ∃ (a:Addr) (ns:List Int),xs=[.ref a]/\SqL X.K H a (ns.map V.int)/\Q (.int ns.sum) H):=by
 intro pins s σ H xs us Q I rv h
 obtain ⟨a,ns,rfl,hx,q⟩:=h
 obtain ⟨u,rfl,ru⟩:=rv.one
 cases (show u=Value.ref a from ru)
 obtain ⟨its,r,ht,hz⟩:=I.list hx
 have hi:=intsAre_of r
 obtain ⟨xs,e⟩:=hi.allInts.items
 rw [e] at ht
 refine sum_intListG (I.ok.hd hc) ht.isList fun h' tk t' hk=> ?_
 have es:preSum (numAt xs) xs.size=ns.sum:=by
  rw [preSum_eq,Xd (by simp),<- nums_intItems,<- e]
  show (numsOf its.toArray.toList).sum=_
  rw [show its.toArray.toList=its from rfl,hi.numsOf]
 rw [es]
 exact ⟨.int _,H,I.kept hk,⟨_,rfl⟩,q⟩
end
section
variable {X:Cx} {tg:Expr}
noncomputable def RT (x:Str):It:=⟨fun i _=>i<x.cps.size,fun i H v H'=>H'=H/\ ∃c,x.cps[i]? =some c/\v= .str ⟨#[c]⟩,fun i _=>i=x.cps.size⟩
noncomputable def Tq (tl:TE):TI:=fun σ H R=>tl σ H fun x H1=> ∃z,x= .str z/\R (RT z) H1
noncomputable def NT (lo c:Int) (n:Nat):It:=⟨fun i _=>i<n,fun i H x H'=>H'=H/\x= .int (lo+i*c),fun i _=>n<=i⟩
noncomputable def RV (ta:TA):TI:=fun σ H R=>ta σ H fun vs H1=> ∃ (i j c:Int) (n:Nat),vs=[.int i, .int j, .int c]/\c≠0/\Builtin.Range.small i j c=true/\Builtin.divisionGoesByPylong (j-i) c=false/\Builtin.Range.rangeSize i j c=(n:Int)/\R (NT i c n) H1
end
end L2
namespace L2
open PySem PySem.Spec PyProof.Rows
noncomputable def RW (K:W.Frag) (a b:Addr):It:=
 ⟨fun i H=> ∃xs ys x y,SqL K H a xs/\SqL K H b ys/\xs[i]? =some x/\ys[i]? =some y,
  fun i H v H'=> ∃p x y,H p=none/\v= .ref p/\H'=upd H p (.tup [x,y])/\(∀xs,SqL K H a xs->xs[i]? =some x)/\ ∀ys,SqL K H b ys->ys[i]? =some y,
  fun i H=> ∃xs ys,SqL K H a xs/\SqL K H b ys/\(xs.length<=i\/ys.length<=i)⟩
structure ZipSt (z TI TO i1 i2 a b:Addr) (i:Nat) (h:Heap):Prop where
 hz:IsZip h z TI TO .none
 hTI:IsPair h TI (.ref i1) (.ref i2)
 hTO: ∃u v,IsPair h TO u v
 h1:h.IsListIter i1 a i
 h2:h.IsListIter i2 b i
structure ZipNe (z TI TO i1 i2:Addr):Prop where
 TIz:TI≠z
 TOz:TO≠z
 i1z:i1≠z
 i2z:i2≠z
 TITO:TI≠TO
 TIi1:TI≠i1
 TIi2:TI≠i2
 TOi1:TO≠i1
 TOi2:TO≠i2
 i12:i1≠i2
theorem Inv.turnedAll {X:Cx} {pins:List (Addr×Obj)} {σ:St} {H:Hp} {s:Shared} {h':Heap} {t':Nat} {ch:List Addr} (I:Inv X pins σ H s) (k: ∀b o,b∉ch->s.heap.get? b=some o->h'.get? b=some o)
  (hf: ∀b∈ch,jr X pins H b):Inv X pins σ H { s with heap:=h',toks:=t' }:=by
 have nit: ∀b u,H b=some u->b∉ch:=fun b u e z=>by rw [(hf b z).1] at e;cases e
 refine I.step (g':=s.gens) (d':=s.drawn) (ch:=ch) (fun b hb=> ?_) (fun b o _ _ hc e _=>k b o hc e) (fun b o _ _ hc e _=>⟨o.slots,k b o hc e⟩) (fun _ _ _ _ n=>n)
  (fun b o hc e=>⟨o,k b o hc e⟩) (fun _ _ e=>e) (fun _ _ _ e=>e) (fun b ps e=>⟨#[],by rw [e];simp⟩) (fun m hm=> ?_) (fun b u e=> ?_) I.bare
 ·exact ⟨(hf b hb).2.2.2.1,(hf b hb).2.1,(hf b hb).2.2.2.2.1,(hf b hb).2.2.2.2.2⟩
 ·obtain ⟨o,es,ep,ho,r⟩:=hm
  exact ⟨o,es,ep,k _ o (fun z=>(hf _ z).2.1 rfl) ho,r⟩
 ·refine (I.hok b u e).stay (fun c v hc q=>k c v ?_ q) (fun _ q=>q) fun _ _ q=>q
  rcases hc with z | z
  ·rw [z];exact nit b u e
  ·exact nit c _ z
noncomputable def Tr (K:W.Frag) (ta:TA):TI:=fun σ H R=>ta σ H fun vs H1=> ∃a b xs ys,vs=[.ref a, .ref b]/\SqL K H1 a xs/\SqL K H1 b ys/\R (RW K a b) H1
end L2
end
section
namespace L2
open PySem PySem.Spec PyProof.Rows
structure Cal (P:Program) (w:World) (K:W.Frag) (mg:Str->Option Value) (base:Heap) (n:Nat) (x:Str) (ps:List Str) (sp:Sp):Prop where
 ex: ∃ (f:Addr) (fd:FuncData),FnOk P w K mg base gH n f fd ps sp/\Binds K fd ps []/\W.keepIn K (.ref f)=true/\mg x=some (.ref f)
section
variable {X:Cx} {n k:Nat} {x:Str} {ps:List Str} {sp:Sp} {p pos:Pos} {e:Expr} {es:List Expr} {t:TA}
theorem b7 (c:Cal X.prog X.w X.K X.mg X.base n x ps sp) (hr:Room k X.A) (hk:n<=k) (hg:Gl X x) (ha:PA X (e::es) t) (hdb:(x==("__debug__":Str))=false:=by decide)
  (he:starEach (e::es) X.env=(false,eval e X.env)::starEach es X.env:=by rfl) (hpl:(backTo pos (starEach es X.env)).any (·.1)=false:=by rfl):
  PE X (.Call (.Name x p) (e::es) [] pos) (bu sp [] E0 t):=by
 obtain ⟨f,fd,F,hb,kp,hm⟩:=c.ex
 exact Dq F (hr.mono hk) hg hm kp hb .nil NK ha hdb he hpl
end
theorem small {n:Nat} (h:n<=1000):n<=sizeLine:=Xq (vK h)
theorem aG {H:Hp} {p:Addr} (h:H p=none) (o:HO):Same H (upd H p o):=fun b u q=>by rw [aF (aR q h)];exact q
theorem Same.get {H H':Hp} (e:Same H H') {a:Addr} {o:HO} (h:H a=some o):H' a=some o:=e a o h
theorem aO {H:Hp} {p a:Addr} {o o':HO} (h:H p=none) (q:H a=some o):upd H p o' a=some o:=aG h o' a o q
end L2
end
section
namespace L2
open PySem PySem.Spec PyProof.Rows
section
variable {X:Cx} (K:W.Frag) (hK:X.K=K)
include hK
theorem bj:N8 X (dC K):=hK▸Du
theorem aU:N8 X (bQ K):=hK▸Jm
theorem pA:Jj X (xH K):=hK▸Dv
theorem gP:gM X (compareOp .NotIn) (Nz K true):=hK▸mU
theorem DY (hu:X.A.units+64<cLine):gM X (compareOp .Eq) (rEqD K):=hK▸Jv hu
theorem Ea (hu:X.A.units+64<cLine):gM X (compareOp .NotEq) (rNeD K):=hK▸Jw hu
noncomputable def cu (K:W.Frag):List V->Hp->VK->Prop:=fun xs H Q=> ∃x n,xs=[x]/\Nu K x H n/\Q (.int n) H
theorem aP:cg X (.builtin "len") (cu K):=by subst hK;exact xu
noncomputable def fP (K:W.Frag):List V->Hp->VK->Prop:=fun xs H Q=> ∃p ys,xs=[.ref p]/\((SqL K H p ys/\ ∀l,H l=none->Q (.ref l) (upd H l (.tup ys)))\/(SqT K H p ys/\Q (.ref p) H))
theorem dq:cg X (.type "tuple") (fP K):=by subst hK;exact lD
noncomputable def dO (K:W.Frag):List V->Hp->VK->Prop:=fun xs H Q=> ∃T x t b,xs=[x, .ty T]/\TyOf K H x t/\PySem.W.kitOne K t (.type T)=some b/\Q (.bl b) H
theorem bR:cg X (.builtin "isinstance") (dO K):=by subst hK;exact pq
noncomputable def Jx (K:W.Frag):List V->Hp->VK->Prop:=fun xs H Q=> ∃ (a:Addr) (ns:List Int),xs=[.ref a]/\SqL K H a (ns.map V.int)/\Q (.int ns.sum) H
theorem vP (hc:X.calm=true):cg X (.builtin "sum") (Jx K):=by subst hK;exact yd hc
theorem cR {tg l:Expr} {tl:TE} (hl:PE X l tl):PI X tg l (fK K tl):=hK▸Dh hl
theorem fc {tg l:Expr} {tl:TE} (hl:PE X l tl):PI X tg l (lz K tl):=hK▸Ja hl
noncomputable def nj (K:W.Frag) (ta:TE):TT:=fun σ H Q=>ta σ H fun x H'=> ∃k,xq K x H' k/\Q k H'
theorem cI {a:Expr} {ta:TE} (ha:PE X a ta) (he: ∀whole,isTrue a X.env whole=(do let v <- whole;standAt a.pos;holding [v] (truthy v))):PT X a (nj K ta):=by subst hK;exact xr ha he
theorem dR {es:List Expr} {k:Nat} {t:CP} {n:Nat} {pos:Pos} (hc:X.calm=true) (h:Nm X es t)
  (hn:(assignEach es X.env).length=n:=by rfl) (hst:(assignEach es X.env).findIdx? (·.1)=none:=by rfl):PG X (.Tuple es k pos) (jq K n t):=by subst hK;exact J6 hc h hn hst
end
section
variable {X:Cx} (K:W.Frag) (hK:X.K=K) {o e:Expr} {es:List Expr} {to:TE} {t:TA} {name:Str} {apos cpos:Pos} {T id:String} {r:V->List V->Hp->VK->Prop}
include hK
theorem fQ (pa:PlainAttrs T) (slot:Slot T name id) (hty:typeOf (.builtin id)=pure (.type "method_descriptor")) (hm:RM X id r) (ho:PE X o to) (ha:PA X (e::es) t) (hbase:attributeBase o name X.env (eval o X.env)=eval o X.env:=by rfl)
  (hfew:((backTo cpos (starEach (e::es) X.env)).all (fun x=> !x.1)&&(backToKw cpos (keywordEach [] X.env)).all (fun x=>x.1.isSome)&&decide ((e::es).length+([]:List Keyword).length+(if ([]:List Keyword).isEmpty then 0 else 1)<30))=true:=by rfl)
  (hline:(apos.endLine==cpos.line)=true:=by rfl) (hs:starEach (e::es) X.env=(false,eval e X.env)::starEach es X.env:=by rfl) (hplain:(backTo cpos (starEach es X.env)).any (·.1)=false:=by rfl):
  PE X (.Call (.Attribute o name apos) (e::es) [] cpos) (xK K T r to t):=by subst hK;exact NB pa slot hty hm ho ha hbase hfew hline hs hplain
end
noncomputable abbrev dU:R2:=oJ fun i j=> .int (i+j)
noncomputable abbrev ye:R2:=oJ fun i j=> .int (i-j)
noncomputable abbrev Hm:R2:=rI CMul fun i j=> .int (i*j)
noncomputable abbrev cX:R2:=rI Nq fun i j=> .int (i / j)
noncomputable abbrev bM:R2:=rI (fun _ j=>0<j) fun i j=> .int (i%j)
noncomputable abbrev Hn:R2:=rI Dk fun i j=> .int (i^j.toNat)
noncomputable abbrev yf:R2:=rI Dk fun i j=> .int (i*2^j.toNat)
noncomputable abbrev NZ:R2:=oJ fun i j=> .int (Builtin.bitAnd i j)
noncomputable abbrev Ho:R2:=oJ fun i j=> .int (Builtin.bitXor i j)
noncomputable abbrev O1:R2:=oJ fun i j=> .bl (decide (i<j))
noncomputable abbrev O2:R2:=oJ fun i j=> .bl (decide (i<=j))
noncomputable abbrev Jy:R2:=oJ fun i j=> .bl (decide (j<i))
noncomputable abbrev gr:R2:=fun x y H Q=> ∃i j,x= .str i/\y= .str j/\i.length+j.length<=sizeLine/\Q (.str (i++j)) H
noncomputable abbrev O3:R2:=fun x y H Q=> ∃i j,x= .str i/\y= .str j/\Q (.bl (!(decide (j.cps.toList<i.cps.toList)))) H
noncomputable abbrev RX:R2:=fun x y H Q=>y= .non/\Q (.bl (decide (x= .non))) H
noncomputable abbrev Ra:R2:=fun x y H Q=>y= .non/\Q (.bl (!decide (x= .non))) H
noncomputable abbrev O4:V->List V->Hp->VK->Prop:=fun x xs H Q=> ∃i,x= .int i/\xs=[]/\Q (.int (Builtin.Int.intBits i)) H
noncomputable abbrev rC:List V->Hp->VK->Prop:=fun xs H Q=> ∃i j,xs=[.int i, .int j]/\Q (.int (if j<i then j else i)) H
noncomputable abbrev Rb:List V->Hp->VK->Prop:=fun xs H Q=> ∃i j,xs=[.int i, .int j]/\Q (.int (if j>i then j else i)) H
noncomputable abbrev Ec:J5:=R1 fun i j=>i+j
end L2
end
section
namespace L2
open PySem PySem.Spec PyProof.Rows
noncomputable def RZ (P:Program) (w:World):wI:=fun outer H s E e s'=>
 ∃ (x:Addr) (C a0:Value) (B:Heap) (H':Hp),e= .ref x/\s'.os=s.os/\AllBare s'.gens/\Un (frs outer) [] H H' s.heap s'.heap/\HOk P w H' s'.heap/\H' x=none/\
  Heap.FlyingW B outer x C a0 s'.heap/\s.heap.get? x=none/\(∀b o,s.heap.get? b=some o->b∉frs outer-> ∃u,B.get? b=some u)/\(∀b o,H' b=some o-> ∃u,B.get? b=some u)/\E C none H'
structure CalX (P:Program) (w:World) (K:W.Frag) (mg:Str->Option Value) (base:Heap) (n:Nat) (x:Str) (ps:List Str) (sp:Sp):Prop where
 ex: ∃ (f:Addr) (fd:FuncData),FnOk P w K mg base (RZ P w) n f fd ps sp/\Binds K fd ps []/\W.keepIn K (.ref f)=true/\mg x=some (.ref f)
section
variable {X:Cx} {x:Str} {np cpos pos:Pos} {e:Expr} {es:List Expr} {t:TA} {E:XK} {C:Addr} {bm:List Value} {B newId initId:String}
noncomputable def Rc (E:XK) (C:Addr) (t:TA):TS:=fun _ σ H=>t σ H fun vs H1=>vs.length<=sizeLine/\E (.ref C) none H1
end
end L2
end
section
namespace L2
open PySem PySem.Spec PyProof.Rows
noncomputable def ExcAt (x:Addr) (C:Value) (h:Heap):Prop:= ∃o vs,h.get? x=some o/\o.cls=C/\o.data= .fields vs
noncomputable abbrev Tt (x:Addr) (C:Value):HO:= .ext (ExcAt x C)
section
variable {X:Cx} {body:List Stmt} {b₀:Stmt} {suite:List Stmt} {c n:Str} {np hpos pos:Pos} {tb th:TS} {Cc:Addr} {i:Nat}
noncomputable def behind (i:Nat) (D:Ends):Ends where
 nx:=fun σ H=>D.nx (σ.set i none) H
 rt:=D.rt
 bk:=fun σ H=>D.bk (σ.set i none) H
 ct:=fun σ H=>D.ct (σ.set i none) H
end
end L2
end
section
namespace L2
open PySem PySem.Spec PySem.Calls PyProof.Rows PySem.W PySem.Builtin PySem.Builtin.ObjectAttr PySem.Builtin.Getset_descriptor
structure ExcK (K:W.Frag) (C:Addr):Prop where
 ex:PySem.W.excIn K C [.type "ValueError", .type "Exception", .type "BaseException", .type "object"] "ValueError.__new__"=true
 ga:findIn K (.ref C) "__getattribute__"=some (some (.builtin "BaseException.__getattribute__"))
 gt:findIn K (.ref C) "__getattr__"=some none
 cl:findIn K (.ref C) "__class__"=some (some (.builtin "object.__class__"))
 ge:specialIn K (.builtin "object.__class__") "__get__"=some (some (.builtin "getset_descriptor.__get__"))
 tk:takesIn K (.builtin "object.__class__")=some true
 mo:mroIn K C (.type "object")=some true
 mb:subIn K (.ref C) (.type "BaseException")=some true
noncomputable def O5 (K:W.Frag):List V->Hp->VK->Prop:=fun xs H Q=> ∃ (x C:Addr) (y:V) (b:Bool),xs=[.ref x,y]/\H x=some (Tt x (.ref C))/\ExcK K C/\
 ((∃T,y= .ty T/\kitOne K (.ref C) (.type T)=some b)\/(∃D,y= .ref D/\kitOne K (.ref C) (.ref D)=some b)\/ ∃ (p:Addr) (ds:List Addr),y= .ref p/\H p=some (.tup (ds.map V.ref))/\kitAny K (.ref C) (ds.map Value.ref)=some b)/\Q (.bl b) H
end L2
end
section
namespace L2
open PySem PySem.Spec PyProof.Rows
noncomputable def Ed:V->Option Int->Option Int->Hp->VK->Prop:=fun x lo hi H Q=> ∃s:Str,x= .str s/\s.length<=sizeLine/\Q (.str (Txt.slice s lo hi)) H
section
variable {X:Cx}
theorem yg:Jj X Ed:=by
 intro pins s σ H x v vl vu lo hi sl Q I rx hs pl pu h
 obtain ⟨z,rfl,hz,q⟩:=h
 obtain ⟨t,rfl⟩:=rx
 have fin: ∀ (l u:Option (Int×Tok)),l.map (·.1)=lo->u.map (·.1)=hi->s.heap.IsSlice sl l u none->wpAny (model X.prog X.w) X.A (getItem (.str z t) (.ref sl)) (EP X pins σ Q) X.xe s:=by
  intro l u e1 e2 hh
  refine wpAny_getItem_str_slice (l:=l) (u:=u) (st:=none) hh rfl ?_
  subst e1 e2
  exact post_val_or_str ⟨Nat.le_trans (Txt.slice_le z _ _) hz,fun t' k=>⟨.str _,H,I.tok k,⟨t',rfl⟩,q⟩⟩
 refine ⟨"str",_,F.slot_str_getitem.lookup,typeIs_str _ _ _,?_⟩
 cases pl with
 | none=>
  cases pu with
  | none=>exact fin none none rfl rfl hs
  | int j u=>exact fin none (some (j,u)) rfl rfl hs
 | int i u=>
  cases pu with
  | none=>exact fin (some (i,u)) none rfl rfl hs
  | int j u'=>exact fin (some (i,u)) (some (j,u')) rfl rfl hs
end
noncomputable def Rf (K:W.Frag) (a:Addr):It:=
 ⟨fun i H=> ∃xs x,SqL K H a xs/\xs[i]? =some x,
  fun i H v H'=> ∃p x,H p=none/\v= .ref p/\H'=upd H p (.tup [.int (i:Int),x])/\ ∀xs,SqL K H a xs->xs[i]? =some x,
  fun i H=> ∃xs,SqL K H a xs/\xs.length<=i⟩
structure EnSt (e it a:Addr) (i:Nat) (h:Heap):Prop where
 he: ∃old,IsEnum h e it (i:Int) old
 h1:h.IsListIter it a i
theorem vQ {P:Program} {w:World} {K:W.Frag} {elts:List Expr} {k:Nat} {tpos:Pos} {e it:Addr} (a:Addr) (D:e≠it):
  Turn P w K (.Tuple elts k tpos) (Rf K a) [e,it] e (EnSt e it a) where
 mem:=by simp
 obj:=fun i h st c hc=>by
  obtain ⟨⟨old,he⟩,⟨o1,e1,c1,d1⟩⟩:=st
  simp only [Zu,Xb,or_false] at hc
  rcases hc with rfl | rfl
  ·exact ⟨_,he,fun v z=>by cases z⟩
  ·exact ⟨o1,e1,fun v z=>by rw [d1] at z;cases z⟩
 keep:=fun i h h' st kk=>by
  obtain ⟨⟨old,he⟩,h1⟩:=st
  exact ⟨⟨old,kk e (by simp) _ he⟩,h1.at fun o e=>kk it (by simp) o e⟩
 item:=by
  intro X hP hw hK hc i pins s σ H E I hf st hg
  subst hP hw hK
  obtain ⟨xs,x,hxs,hx⟩:=hg
  obtain ⟨its,rv,p,hz1⟩:=I.list hxs
  obtain ⟨u,hu,ru⟩:=rv.get hx
  obtain ⟨⟨old,he⟩,h1⟩:=id st
  refine wpAny_pyNext_enum_item (x:=u) he h1 p.isList (by simpa using hu) D fun h' a1 a2 a3 a4 a5=> ?_
  refine ⟨_,rfl,wpAny_letOwnedTupleGo_enum a1 fun h'' b1 hs=> ?_⟩
  have hT:s.heap.objs.size≠e:=Nat.ne_of_gt (Zk he)
  have kk: ∀c o,c∉[e,it]->s.heap.get? c=some o->h''.get? c=some o:=fun c o hc' q=>by
   simp only [Zu,Xb,or_false,not_or] at hc'
   exact hs.extBut _ _ hc'.1 (a5 c o hc'.1 hc'.2 q)
  have I1:Inv X pins σ H { s with heap:=h'',toks:=s.toks+1 }:=I.turnedAll kk hf
  have hnew:H s.heap.objs.size=none:=I.hok.fresh (Zh _)
  have e5:h''.get? s.heap.objs.size=some { cls:= .type "tuple",data:= .seq #[.int i s.toks,u] }:=hs.extBut _ _ hT a3
  have un:Un (frs X.stack) [e,it] H (upd H s.heap.objs.size (.tup [.int (i:Int),x])) s.heap h'':=
   ⟨fun b o q _ _ hx=>kk b o hx q,fun b o q _ _ hx=>⟨o.slots,kk b o hx q⟩,fun b o q n _=>by rw [aF (Yh (Zk q))];exact n,fun b o q hx=>⟨o,kk b o hx q⟩,
    fun b xs q=>by rw [aF (aR q hnew)];exact q,fun b o x q=>by rw [aF (aR q hnew)];exact q,fun b ps q=>⟨#[],by rw [aF (aR q hnew),q];simp⟩⟩
  have hok:HOk X.prog X.w (upd H s.heap.objs.size (.tup [.int (i:Int),x])) h'':=HOk.track I1.hok hnew ⟨by show 2<=sizeLine;decide,[.int i s.toks,u], .cons ⟨_,rfl⟩ (.cons ru .nil),_,e5,rfl,_,rfl⟩
  have I2:Inv X pins σ (upd H s.heap.objs.size (.tup [.int (i:Int),x])) { s with heap:=h'',toks:=s.toks+1 }:=I.call' (s':={ s with heap:=h'',toks:=s.toks+1 }) rfl un hok I.bare fun c hc'=>⟨(hf c hc').2.2.2.1,(hf c hc').2.1,(hf c hc').2.2.2.2⟩
  refine ⟨.ref s.heap.objs.size,_,I2,rfl,⟨_,x,hnew,rfl,rfl,fun xs' h=>by rw [I.list_inj h hxs];exact hx⟩,⟨⟨u,by have:=b1;rwa [show ((i:Int)+1)=((i+1:Nat):Int) by rfl'] at this⟩,a2.extBut hs.extBut (Ne.symm D)⟩,fun c hc'=> ?_⟩
  have hlt:c<s.heap.objs.size:=by
   obtain ⟨o1,e1,_⟩:=h1
   simp only [Zu,Xb,or_false] at hc'
   rcases hc' with rfl | rfl
   ·exact Zk he
   ·exact Zk e1
  rw [aF (Yh hlt)]
  exact (hf c hc').1
 done:=by
  intro X hP hw hK hc i pins s σ H E I hf st hg
  subst hP hw hK
  obtain ⟨xs,hxs,hend⟩:=hg
  obtain ⟨its,rv,p,hz1⟩:=I.list hxs
  obtain ⟨⟨old,he⟩,h1⟩:=id st
  have hl1:=rv.length
  refine wpAny_pyNext_enum_end (I.ok.hd hc) he h1 p.isList (by simp;rfl') fun h' kk=> ?_
  refine ⟨rfl,I.turnedAll (t':=s.toks) (fun c o hc' q=> ?_) hf⟩
  simp only [Zu,Xb,or_false,not_or] at hc'
  exact kk c o hc'.2 q
 self:=fun _ _ _ _ _ st h=>by
  obtain ⟨old,he⟩:=st.he
  exact wpAny_pyIter_enum he h
noncomputable def ut (K:W.Frag) (ta:TA):TI:=fun σ H R=>ta σ H fun vs H1=> ∃a xs,vs=[.ref a]/\SqL K H1 a xs/\R (Rf K a) H1
theorem Ef {X:Cx} {elts:List Expr} {k:Nat} {tpos:Pos} {a:Expr} {ta:TA} {p pos:Pos} (hg:Gl X "enumerate") (hc:X.calm=true) (hm:X.mg "enumerate"=none) (ha:PA X [a] ta) (hs:starEach [a] X.env=[(false,eval a X.env)]:=by rfl):
  PI X (.Tuple elts k tpos) (.Call (.Name "enumerate" p) [a] [] pos) (ut X.K ta):=by
 intro pins s σ H R I h
 refine Call_ (dW I hg hm (show bootBuiltins "enumerate"=some (.type "enumerate") by decide+kernel) (Wc (bI (ha pos pins s σ H _ I h) fun us s1 ⟨vs,H1,I1,r1,q1⟩=> ?_) (by rw [hs];rfl) (by rfl)))
 obtain ⟨la,xs,e,hxs,q⟩:=q1
 subst e
 cases r1 with
 | cons r rr=>
  cases rr
  cases r
  obtain ⟨its,rv,p1,hz1⟩:=I1.list hxs
  refine call_enumerate_list p1.isList fun h' z1 z2 z3 kk=> ?_
  refine wpAny_pyIter_enum z1 ?_
  refine ⟨s1.heap.objs.size+1,[s1.heap.objs.size+1,s1.heap.objs.size],_,_,H1,rfl,I1.kept (t':=s1.toks) kk,vQ la (by show (_:Nat)≠_;rfl'),⟨⟨_,z1⟩,z2⟩,fun c hc'=> ?_,q⟩
  have hle:s1.heap.objs.size<=c:=by
   simp only [Zu,Xb,or_false] at hc'
   rcases hc' with rfl | rfl<;>(show (_:Nat)<=_;rfl')
  exact I1.fpOk hle (I1.hok.fresh hle)
theorem yh {X:Cx} (K:W.Frag) (hK:X.K=K) {elts:List Expr} {k:Nat} {tpos:Pos} {a:Expr} {ta:TA} {p pos:Pos} (hg:Gl X "enumerate") (hc:X.calm=true) (hm:X.mg "enumerate"=none) (ha:PA X [a] ta) (hs:starEach [a] X.env=[(false,eval a X.env)]:=by rfl):
  PI X (.Tuple elts k tpos) (.Call (.Name "enumerate" p) [a] [] pos) (ut K ta):=by subst hK;exact Ef hg hc hm ha hs
end L2
end
section
namespace L2
open PySem PySem.Spec PyProof.Rows
section
variable {prog:Program} {w:World} {A:Around} {E:Value->Shared->Prop} {s:Shared} {it d:Addr} {i ep:Nat} {od:Obj} {es:Array DictEntry} {Q:Option Value->Shared->Prop}
theorem pB (hit:s.heap.IsKeyIter it d i es.size ep) (hod:s.heap.get? d=some od) (hdd:od.data= .dict es ep) (hi:i<es.size)
  (hQ: ∀h',h'.IsKeyIter it d (i+1) es.size ep->Heap.SameBut it s.heap h'->Q (some es[i].key) { s with heap:=h' }):wpAny (model prog w) A (pyNext (.ref it)) Q E s:=by
 obtain ⟨o,ho,hc,hd⟩:=id hit
 have T:=hit.typeIs (s:=s)
 unfold pyNext
 refine Qb (wpAny_attempt (wpAny_callSpecial?_slot (name:=Str.ofString "__next__") T F.slot_dict_keyiterator_next (Yy F.slot_dict_keyiterator_next T F.entry_dict_keyiterator_next ?_ (F.args_dict_keyiterator_next_1 _))))
 have f0:Builtin.Dict_items.ownsTuple "dict_keyiterator"=false:=by decide
 have f1: ¬ (Value.ref d==Value.none)=true:=Zl
 have f2: ¬ ((i:Int)<0):=by rfl'
 have tn: ∀ {s':Shared} {A':Around} {E':Value->Shared->Prop} {R:String->Shared->Prop},s'.TypeIs (.ref it) "dict_keyiterator"->R "dict_keyiterator" s'->wpAny (model prog w) A' (typeNameOfWhole (.ref it)) R E' s':=fun a b=>wpAny_typeNameOfWhole_keyiter a b
 repeat (first
  | (refine tn T ?_)
  | (refine wpAny_fieldsOf ho hd ?_)
  | (refine wpAny_dictEntries hod hdd ?_)
  | (refine wpAny_dictEpoch hod hdd ?_)
  | (refine wpAny_isOneOf_keyiter T ?_)
  | (refine Za ?_)
  | (refine Qb ?_)
  | (simp only [f0,Ze,Xg])
  | (rw [if_neg f1])
  | (rw [if_neg (by simp)]))
 rw [Yb,Zi hi]
 have hit':(s.heap.update it (Obj.mapFields (·.setIfInBounds 1 (rawInt ((i:Int)+1))))).IsKeyIter it d (i+1) es.size ep:=⟨_,Xx _ ho (Obj.isFreed_of_fields (Xl hd _)),(Obj.cls_mapFields ..).trans hc,by rw [Xl hd];simp [rawInt]⟩
 have T':=hit'.typeIs (s:={ s with heap:=s.heap.update it (Obj.mapFields (·.setIfInBounds 1 (rawInt ((i:Int)+1)))) })
 dsimp only
 refine Qb (Qb (tn T (Za (Qb (wpAny_isOneOf_keyiter T ?_)))))
 show wpAny (model prog w) A.in1 (do setField (.ref it) 1 (rawInt ((i:Int)+1));_) _ _ s
 refine Qb (wpAny_setField ho hd (by simp) (Qb (Xp (Qb (wpAny_isOneOf_keyiter T' (Za ?_))))))
 exact Za ⟨_,rfl,Za (hQ _ hit' (Xo ..))⟩
theorem uv (hh:A.handled=none) (hit:s.heap.IsKeyIter it d i es.size ep) (hod:s.heap.get? d=some od) (hdd:od.data= .dict es ep) (hi:es.size<=i)
  (hQ: ∀h',Heap.ExtBut it s.heap h'->Q none { s with heap:=h' }):wpAny (model prog w) A (pyNext (.ref it)) Q E s:=by
 obtain ⟨o,ho,hc,hd⟩:=id hit
 have T:=hit.typeIs (s:=s)
 unfold pyNext
 refine Qb (wpAny_attempt (wpAny_callSpecial?_slot (name:=Str.ofString "__next__") T F.slot_dict_keyiterator_next (Yy F.slot_dict_keyiterator_next T F.entry_dict_keyiterator_next ?_ (F.args_dict_keyiterator_next_1 _))))
 have f0:Builtin.Dict_items.ownsTuple "dict_keyiterator"=false:=by decide
 have f1: ¬ (Value.ref d==Value.none)=true:=Zl
 have f2: ¬ ((i:Int)<0):=by rfl'
 have tn: ∀ {s':Shared} {A':Around} {E':Value->Shared->Prop} {R:String->Shared->Prop},s'.TypeIs (.ref it) "dict_keyiterator"->R "dict_keyiterator" s'->wpAny (model prog w) A' (typeNameOfWhole (.ref it)) R E' s':=fun a b=>wpAny_typeNameOfWhole_keyiter a b
 repeat (first
  | (refine tn T ?_)
  | (refine wpAny_fieldsOf ho hd ?_)
  | (refine wpAny_dictEntries hod hdd ?_)
  | (refine wpAny_dictEpoch hod hdd ?_)
  | (refine wpAny_isOneOf_keyiter T ?_)
  | (refine Za ?_)
  | (refine Qb ?_)
  | (simp only [f0,Ze,Xg])
  | (rw [if_neg f1])
  | (rw [if_neg (by simp)]))
 rw [Yb,Xv hi]
 dsimp only
 refine Qb (Qb (tn T (Za ?_)))
 show wpAny (model prog w) A.in1 (do setField (.ref it) 0 .none;_) _ _ s
 refine Qb (wpAny_setField ho hd (by simp) (Qb ?_))
 have fin: ∀h' x,Heap.ExtBut it s.heap h'->(∃ob,h'.get? x=some ob/\ob.cls= .type "StopIteration")->wpAny (model prog w) A (do let b <- isInstance (.ref x) (.type "StopIteration");if b=true then pure none else throw (.ref x)) Q E { s with heap:=h' }:=fun h' x eb ⟨ob,e1,e2⟩=>Qb (Xm (T:="StopIteration") (b:=true) ⟨ob,e1,e2⟩ isSubtype_stop (Za (hQ h' eb)))
 simp only [newExc,newTuple,raiseNew]
 repeat (first
  | exact fin _ _ (((Xo ..).extBut.push _).push _) ⟨_,Zm _ rfl,rfl⟩
  | (refine Xc ?_ (by size_fits))
  | (refine wpAny_handled ?_)
  | (refine wpAny_throw ?_)
  | (refine Za ?_)
  | (rw [show A.in1.handled=none from hh])
  | (refine Qb (m:=firstArgMember _ _) (wpAny_of_eq (a:=Value.none) (by first | rfl | (simp only [firstArgMember];rfl)) ?_))
  | (refine Qb ?_))
theorem jH {R:Value->Shared->Prop} (hsm:(d==sysModules)=false) (T:s.TypeIs (.ref d) "dict") (hod:s.heap.get? d=some od) (hdd:od.data= .dict es ep)
  (hQ:R (.ref s.heap.objs.size) { s with heap:=s.heap.push { cls:= .type "dict_keyiterator",data:= .fields #[.ref d, .int 0 0, .int es.size 0, .int ep 0] } }):wpAny (model prog w) A (pyIter (.ref d)) R E s:=by
 refine wpAny_pyIter_slot T F.slot_dict_iter (Yy F.slot_dict_iter T F.entry_dict_iter ?_ (F.args_dict_iter_1 _))
 unfold Builtin.«dict.__iter__» Builtin.Dict.dictSlotNone Builtin.Dict.showsAll
 have nq: ¬ ((d==sysModules)=true):=by rw [hsm];exact Zl
 refine Qb (Qb (wpAny_notOrdered_dict T ?_))
 show wpAny _ _ (pure (Value.ref d)) _ _ s
 refine Za ?_
 show wpAny _ _ ((if (d==sysModules)=true then _ else _) >>= _) _ _ s
 rw [if_neg nq]
 refine Qb (Za (Qb (wpAny_dictEntries hod hdd (Qb (wpAny_dictEpoch hod hdd ?_)))))
 exact Qb (Xc (Za ⟨_,rfl,"dict_keyiterator",_,⟨_,Zm _ rfl,rfl⟩,F.slot_dict_keyiterator_next.lookup,by simpa [rawInt] using hQ⟩))
end
theorem lW {α β:Type} {F:α->β->Prop}: ∀ {l₁:List α} {l₂:List β} (i:Nat),Paired F l₁ l₂->i<l₁.length-> ∃a b,l₁[i]? =some a/\l₂[i]? =some b/\F a b
 | _,_,_, .nil,h=>by simp at h
 | _,_,0, .cons r _,_=>⟨_,_,rfl,rfl,r⟩
 | _,_,i+1, .cons _ t,h=>by
  obtain ⟨a,b,h1,h2,h3⟩:=lW i t (by simpa using h)
  exact ⟨a,b,by simpa using h1,by simpa using h2,h3⟩
noncomputable def S7 (od:Obj) (a:Addr):It:=
 ⟨fun i H=> ∃kvs,H a=some (.frz od (.dT kvs))/\i<kvs.length,
  fun i H v H'=>H'=H/\ ∀kvs,H a=some (.frz od (.dT kvs))-> ∃k x b,kvs[i]? =some (k,x)/\v= .ref b/\H b=some (.tup (k.map kV)),
  fun i H=> ∃kvs,H a=some (.frz od (.dT kvs))/\kvs.length<=i⟩
noncomputable def S8 (tl:TE):TI:=fun σ H R=>tl σ H fun x H1=> ∃a kvs,x= .ref a/\H1 a=some (.dT kvs)/\ ∀od,R (S7 od a) (upd H1 a (.frz od (.dT kvs)))
end L2
end
section
namespace Sx
open PySem PyProof.Rows
structure Wk (B:Keyed->Keyed->Bool):Prop where
 rf: ∀p,B p p=false
 tr: ∀ {p q r},B q p=false->B r q=false->B r p=false
 an: ∀ {p q},B p q=true->B q p=false
noncomputable def gt (xs:Array Keyed) (i:Nat):Keyed:=xs[i]?.getD (.none, .none)
noncomputable def Up (B:Keyed->Keyed->Bool) (xs:Array Keyed) (k:Nat):Prop:= ∀i j,i<=j->j<k->B (gt xs j) (gt xs i)=false
noncomputable def Dn (B:Keyed->Keyed->Bool) (xs:Array Keyed) (k:Nat):Prop:= ∀i j,i<=j->j<k->B (gt xs i) (gt xs j)=false
noncomputable def Eb (B:Keyed->Keyed->Bool) (xs:Array Keyed) (l k:Nat):Prop:= ∀i j,l<=i->i<k->l<=j->j<k->B (gt xs i) (gt xs j)=false
structure Bs (kd:SortKind) (a0:Array Keyed) (st:SortSt):Prop where
 pm:(arrOf st).Perm a0
 kn:kindOf st=kd
 fl:failedOf st=none
 pe:pendingOf st= #[]
section
variable {kd:SortKind} {a0 xs:Array Keyed} {st:SortSt} {B:Keyed->Keyed->Bool} {k l m:Nat}
theorem Bs.sz (b:Bs kd a0 st):(arrOf st).size=a0.size:=b.pm.size_eq
theorem Bs.put (b:Bs kd a0 st) (hp:xs.Perm (arrOf st)):Bs kd a0 (setArr st xs):=⟨hp.trans b.pm,b.kn,b.fl,b.pe⟩
theorem rD {src d:Nat} (hs:src<xs.size) (hd:d<=src):gt (bubble xs src d) k=if k=src-d then gt xs src else if src-d<k/\k<=src then gt xs (k-1) else gt xs k:=by
 unfold gt
 rw [getElem?_bubble hs d hd k]
 split
 ·rfl
 ·split<;>rfl
theorem fj (hm:m<=xs.size):gt (mirror xs l m ((m-l) / 2)) k=if l<=k/\k<m then gt xs (l+m-1-k) else gt xs k:=by
 unfold gt
 rw [getElem?_mirror_all hm k]
 split<;>rfl
theorem Up.one (o:Wk B):Up B xs 1:=fun i j h1 h2=>by
 have:i=j:=by rfl'
 rw [this];exact o.rf _
theorem Up.next (o:Wk B) (u:Up B xs k) (hk:1<=k) (e:B (gt xs k) (gt xs (k-1))=false):Up B xs (k+1):=fun i j h1 h2=>by
 by_cases hj:j<k
 ·exact u i j h1 hj
 ·obtain rfl:j=k:=by rfl'
  by_cases hi:i=j
  ·rw [hi];exact o.rf _
  ·exact o.tr (u i (j-1) (by rfl') (by rfl')) e
theorem Dn.next (o:Wk B) (u:Dn B xs k) (hk:1<=k) (e:B (gt xs (k-1)) (gt xs k)=false):Dn B xs (k+1):=fun i j h1 h2=>by
 by_cases hj:j<k
 ·exact u i j h1 hj
 ·obtain rfl:j=k:=by rfl'
  by_cases hi:i=j
  ·rw [hi];exact o.rf _
  ·exact o.tr e (u i (j-1) (by rfl') (by rfl'))
theorem Eb.one (o:Wk B):Eb B xs (k-1) k:=fun i j h1 h2 h3 h4=>by
 have:i=j:=by rfl'
 rw [this];exact o.rf _
theorem Eb.next (o:Wk B) (u:Eb B xs l k) (hl:l<k) (e1:B (gt xs k) (gt xs (k-1))=false) (e2:B (gt xs (k-1)) (gt xs k)=false):Eb B xs l (k+1):=fun i j h1 h2 h3 h4=>by
 by_cases hi:i<k
 ·by_cases hj:j<k
  ·exact u i j h1 hi h3 hj
  ·obtain rfl:j=k:=by rfl'
   exact o.tr e2 (u i (j-1) h1 hi (by rfl') (by rfl'))
 ·obtain rfl:i=k:=by rfl'
  by_cases hj:j<i
  ·exact o.tr (u (i-1) j (by rfl') (by rfl') h3 hj) e1
  ·obtain rfl:j=i:=by rfl'
   exact o.rf _
theorem Dn.mir (u:Dn B xs m) (q:Eb B xs l m) (hm:m<=xs.size):Dn B (mirror xs l m ((m-l) / 2)) m:=fun i j h1 h2=>by
 rw [fj hm,fj hm]
 by_cases a:l<=i/\i<m
 ·rw [if_pos a,if_pos (by rfl')]
  exact q _ _ (by rfl') (by rfl') (by rfl') (by rfl')
 ·rw [if_neg a]
  by_cases c:l<=j/\j<m
  ·rw [if_pos c];exact u _ _ (by rfl') (by rfl')
  ·rw [if_neg c];exact u i j h1 h2
theorem Dn.up (u:Dn B xs m) (hm:m<=xs.size):Up B (mirror xs 0 m ((m-0) / 2)) m:=fun i j h1 h2=>by
 rw [fj hm,fj hm,if_pos (by rfl'),if_pos (by rfl')]
 exact u _ _ (by rfl') (by rfl')
end
noncomputable def CQ (M:Model) (A:Around) (E:Value->Shared->Prop) (s:Shared) (kd:SortKind) (a0:Array Keyed) (B:Keyed->Keyed->Bool):Prop:=
 ∀ (st:SortSt) (i j:Nat) (Q:Option Bool->SortSt->Prop),Bs kd a0 st->i≠j->i<a0.size->j<a0.size->Q (some (B (gt (arrOf st) i) (gt (arrOf st) j))) st->wpS M A E s (ltAt' i j) Q st
section
variable {prog:Program} {w:World} {A:Around} {E:Value->Shared->Prop} {s:Shared} {kd:SortKind} {a0:Array Keyed} {B:Keyed->Keyed->Bool} {st:SortSt} {n k:Nat}
theorem uw (o:Wk B) (hA:CQ (model prog w) A E s kd a0 B) {Q:AscSt->SortSt->Prop} (hn:n<=a0.size) (hk:1<=k) (hkn:k<=n) (b:Bs kd a0 st) (u:Up B (arrOf st) k)
  (h: ∀m,k<=m->m<=n->Up B (arrOf st) m->(m=n\/B (gt (arrOf st) m) (gt (arrOf st) (m-1))=true)->Q (none,m) st):wpS (model prog w) A E s (ascLoop k n) Q st:=by
 unfold ascLoop
 refine Xy (I:=fun m c t=>c=(none,m)/\t=st/\Up B (arrOf st) m) (fun m c t h1 h2 hi=> ?_) (fun c t hi=> ?_) ⟨rfl,rfl,u⟩
 ·obtain ⟨rfl,rfl,um⟩:=hi
  refine Zo (hA _ _ _ _ b (show m≠m-1 by rfl') (show m<_ by rfl') (show m-1<_ by rfl') ?_)
  dsimp only
  cases e:B (gt (arrOf t) m) (gt (arrOf t) (m-1)) with
  | true=>rw [if_pos rfl];exact Zt (h m h1 (by rfl') um (.inr e))
  | false=>rw [if_neg Zl];exact Zt ⟨rfl,rfl,um.next o (by rfl') e⟩
 ·obtain ⟨rfl,rfl,um⟩:=hi
  rw [show max k n=n from Nat.max_eq_right hkn] at um ⊢
  exact h n hkn (Zh _) um (.inl rfl)
theorem pC (o:Wk B) (hA:CQ (model prog w) A E s kd a0 B) {Q:Option Nat->SortSt->Prop} (hn:n<=a0.size) (hk:1<=k) (hkn:k<=n) (b:Bs kd a0 st) (u:Dn B (arrOf st) k)
  (h: ∀m t,Bs kd a0 t->1<=m->m<=n->Up B (arrOf t) m->Q (some m) t):wpS (model prog w) A E s (tail3 k n) Q st:=by
 unfold tail3
 refine Zo (wpS_reverse ?_)
 have b':=b.put (mirror_perm (arrOf st) 0 k ((k-0) / 2))
 exact Zo (uw o hA hn hk hkn b' (u.up (by rw [b.sz];rfl')) fun m h1 h2 um _=>Zt (h m _ b' (by rfl') h2 um))
theorem yj (o:Wk B) (hA:CQ (model prog w) A E s kd a0 B) {Q:DescSt->SortSt->Prop} (hn:n<=a0.size) (hk:1<=k) (hkn:k<=n) (b:Bs kd a0 st) (u:Dn B (arrOf st) k)
  (h: ∀m e t,Bs kd a0 t->k<=m->m<=n->Dn B (arrOf t) m->e+1<=m->Eb B (arrOf t) (m-(e+1)) m->Q (none,m,e) t):wpS (model prog w) A E s (descLoop k n) Q st:=by
 unfold descLoop
 refine Xy (I:=fun m c t=> ∃e,c=(none,m,e)/\Bs kd a0 t/\Dn B (arrOf t) m/\e+1<=m/\Eb B (arrOf t) (m-(e+1)) m) (fun m c t h1 h2 hi=> ?_) (fun c t hi=> ?_) ⟨0,rfl,b,u,hk,Eb.one o⟩
 ·obtain ⟨e,rfl,bt,um,he,q⟩:=hi
  have hsz:m<=(arrOf t).size:=by rw [bt.sz];rfl'
  refine Zo (hA _ _ _ _ bt (show m≠m-1 by rfl') (show m<_ by rfl') (show m-1<_ by rfl') ?_)
  dsimp only
  cases e1:B (gt (arrOf t) m) (gt (arrOf t) (m-1)) with
  | true=>
   rw [if_pos rfl]
   have dn:Dn B (arrOf t) (m+1):=um.next o (by rfl') (o.an e1)
   by_cases h0:e>0
   ·rw [if_pos h0]
    refine Zo (wpS_reverse (Zt ⟨0,rfl,bt.put (mirror_perm _ _ _ _),fun i j g1 g2=> ?_,by rfl',Eb.one o⟩))
    by_cases hj:j<m
    ·exact (um.mir q hsz) i j g1 hj
    ·obtain rfl:j=m:=by rfl'
     show B (gt (mirror (arrOf t) _ _ _) i) (gt (mirror (arrOf t) _ _ _) j)=false
     rw [fj hsz,fj hsz,if_neg (show ¬ (_/\j<j) by rfl')]
     split
     ·exact dn _ _ (by rfl') (by rfl')
     ·exact dn _ _ g1 g2
   ·rw [if_neg h0]
    exact Zt ⟨0,rfl,bt,dn,by rfl',Eb.one o⟩
  | false=>
   rw [if_neg Zl]
   refine Zo (hA _ _ _ _ bt (show m-1≠m by rfl') (show m-1<_ by rfl') (show m<_ by rfl') ?_)
   dsimp only
   cases e2:B (gt (arrOf t) (m-1)) (gt (arrOf t) m) with
   | true=>rw [if_pos rfl];exact Zt (h m e t bt h1 (by rfl') um he q)
   | false=>
    rw [if_neg Zl]
    refine Zt ⟨e+1,rfl,bt,um.next o (by rfl') e2,by rfl',?_⟩
    rw [show m+1-(e+1+1)=m-(e+1) by rfl']
    exact q.next o (by rfl') e1 e2
 ·obtain ⟨e,rfl,bt,um,he,q⟩:=hi
  rw [show max k n=n from Nat.max_eq_right hkn] at um he q ⊢
  exact h n e t bt hkn (Zh _) um he q
theorem lX (o:Wk B) (hA:CQ (model prog w) A E s kd a0 B) {Q:Option Nat->SortSt->Prop} (hn:n<=a0.size) (hkn:k+1<=n) (b:Bs kd a0 st) (u:Dn B (arrOf st) (k+1))
  (h: ∀m t,Bs kd a0 t->1<=m->m<=n->Up B (arrOf t) m->Q (some m) t):wpS (model prog w) A E s (descPart k n) Q st:=by
 unfold descPart
 refine Zo (wpS_lift (Wb ⟨rfl,Zo (yj o hA hn (by rfl') hkn b u fun m e t bt h1 h2 um he q=> ?_)⟩))
 dsimp only
 have hsz:m<=(arrOf t).size:=by rw [bt.sz];rfl'
 by_cases h0:e>0
 ·rw [if_pos h0]
  exact Zo (wpS_reverse (pC o hA hn (by rfl') h2 (bt.put (mirror_perm _ _ _ _)) (um.mir q hsz) h))
 ·rw [if_neg h0]
  exact pC o hA hn (by rfl') h2 bt um h
theorem vR (o:Wk B) (hA:CQ (model prog w) A E s kd a0 B) {Q:Option Nat->SortSt->Prop} (hn:n<=a0.size) (h1n:1<=n) (b:Bs kd a0 st)
  (h: ∀m t,Bs kd a0 t->1<=m->m<=n->Up B (arrOf t) m->Q (some m) t):wpS (model prog w) A E s (countRun' 0 n) Q st:=by
 rw [countRun0_eq]
 refine Zo (uw o hA hn (Zh 1) h1n b (Up.one o) fun m h1 h2 um hor=> ?_)
 dsimp only
 by_cases hm:m=n
 ·rw [if_pos (by simpa using hm)]
  exact Zt (h m st b h1 h2 um)
 ·rw [if_neg (by simpa using hm)]
  have hlt:=hor.resolve_left hm
  have hsz:m<=(arrOf st).size:=by rw [b.sz];rfl'
  by_cases g:m>1
  ·rw [if_pos g]
   refine Zo (hA _ _ _ _ b (by rfl') (show 0<_ by rfl') (show m-1<_ by rfl') ?_)
   dsimp only
   cases e:B (gt (arrOf st) 0) (gt (arrOf st) (m-1)) with
   | true=>rw [if_pos rfl];exact Zt (h m st b h1 h2 um)
   | false=>
    rw [if_neg Zl]
    have q:Eb B (arrOf st) 0 m:=fun i j _ hi _ hj=>o.tr (um j (m-1) (by rfl') (by rfl')) (o.tr e (um 0 i (by rfl') hi))
    have dn:Dn B (arrOf st) (m+1):=Dn.next o (fun i j _ hj=>q i j (by rfl') (by rfl') (by rfl') hj) h1 (o.an hlt)
    refine Zo (wpS_reverse (lX o hA hn (by rfl') (b.put (mirror_perm _ _ _ _)) (fun i j g1 g2=> ?_) h))
    show B (gt (mirror (arrOf st) _ _ _) i) (gt (mirror (arrOf st) _ _ _) j)=false
    rw [fj hsz,fj hsz]
    by_cases hj:j<m
    ·rw [if_pos (by rfl'),if_pos (by rfl')]
     exact q _ _ (by rfl') (by rfl') (by rfl') (by rfl')
    ·rw [if_neg (show ¬ (0<=j/\j<m) by rfl')]
     split
     ·exact dn _ _ (by rfl') g2
     ·exact dn _ _ g1 g2
  ·rw [if_neg g]
   obtain rfl:m=1:=by rfl'
   exact lX o hA hn (by rfl') b (Dn.next o (fun i j g1 g2=>by rw [show i=j by rfl'];exact o.rf _) (Zh 1) (o.an hlt)) h
theorem Eg (o:Wk B) (hA:CQ (model prog w) A E s kd a0 B) {Q:Bool->SortSt->Prop} (hn:n<=a0.size) (hkn:k<=n) (b:Bs kd a0 st) (u:Up B (arrOf st) k)
  (h: ∀t,Bs kd a0 t->Up B (arrOf t) n->Q true t):wpS (model prog w) A E s (binarySort' 0 n k) Q st:=by
 rw [binarySort'_eq]
 simp only [Nat.zero_add]
 refine Zo (wpS_mono (Xy (I:=fun m c t=>c=(none,())/\Bs kd a0 t/\Up B (arrOf t) (min m n)) (Q:=fun c t=>c=(none,())/\Bs kd a0 t/\Up B (arrOf t) n) (fun m c t h1 h2 hi=> ?_) (fun c t hi=> ?_) ⟨rfl,b,fun i j g1 g2=> ?_⟩) fun c t hc=> ?_)
 ·obtain ⟨rfl,bt,um⟩:=hi
  rw [Nat.min_eq_left (Xq h2)] at um
  have hm:m<a0.size:=by rfl'
  refine Zo (wpS_mono (Xy (I:=fun x c t'=>t'=t/\ ∃l r,c=(none,l,r)/\l<=r/\r<=m/\r+x<=m+l/\(∀i,i<l->B (gt (arrOf t) m) (gt (arrOf t) i)=false)/\ ∀i,r<=i->i<m->B (gt (arrOf t) i) (gt (arrOf t) m)=false)
   (Q:=fun c t'=>t'=t/\ ∃l r,c=(none,l,r)/\l<=m/\(∀i,i<l->B (gt (arrOf t) m) (gt (arrOf t) i)=false)/\ ∀i,l<=i->i<m->B (gt (arrOf t) i) (gt (arrOf t) m)=false)
   (fun x c t' g1 g2 hi=> ?_) (fun c t' hi=> ?_) ⟨rfl,0,m,rfl,by rfl',by rfl',by rfl',fun i z=>by rfl',fun i z1 z2=>by rfl'⟩) fun c t' hc=> ?_)
  ·obtain ⟨rfl,l,r,rfl,hlr,hrm,hx,lo,hi'⟩:=hi
   dsimp only
   by_cases ge:l>=r
   ·rw [if_pos ge]
    obtain rfl:l=r:=by rfl'
    exact Zt ⟨rfl,l,l,rfl,hrm,lo,hi'⟩
   ·rw [if_neg ge]
    have h1:l<=(l+r) / 2:=by clear hx lo hi' um hrm h1 h2 g1 g2 hm hn hkn;rfl'
    have h2:(l+r) / 2<r:=by clear hx lo hi' um hrm h1 h2 g1 g2 hm hn hkn;rfl'
    generalize (l+r) / 2=c at h1 h2 ⊢
    have hcm:=Zz h2 hrm
    refine Zo (hA _ _ _ _ bt (by rfl') hm (show c<_ from Nat.lt_trans hcm hm) ?_)
    dsimp only
    cases e:B (gt (arrOf t') m) (gt (arrOf t') c) with
    | true=>
     simp only [if_true]
     exact Zt ⟨rfl,l,c,rfl,h1,Xq hcm,by clear h1 hcm hm;rfl',lo,fun i z1 z2=>o.tr (o.an e) (um _ _ z1 z2)⟩
    | false=>
     simp only [Ze,Xg]
     exact Zt ⟨rfl,c+1,r,rfl,h2,hrm,by clear hcm hm;rfl',fun i z=>o.tr (um i c (Nat.le_of_lt_succ z) hcm) e,hi'⟩
  ·obtain ⟨rfl,l,r,rfl,hlr,hrm,hx,lo,hi'⟩:=hi
   obtain rfl:l=r:=by rfl'
   exact ⟨rfl,l,l,rfl,hrm,lo,hi'⟩
  ·obtain ⟨rfl,l,r,rfl,hlm,lo,hi'⟩:=hc
   show wpS _ _ _ _ (do moveDown' m l;pure (ForInStep.yield (none,()))) _ _
   rw [moveDown'_eq]
   refine Zo (wpS_modify (Zt ⟨rfl,bt.put (bubble_perm _ _ _),?_⟩))
   rw [show min (m+1) n=m+1 by rfl']
   have hsz:m<(arrOf t').size:=by rw [bt.sz];exact hm
   intro i j g1 g2
   show B (gt (bubble (arrOf t') m (m-l)) j) (gt (bubble (arrOf t') m (m-l)) i)=false
   rw [rD hsz (by rfl'),rD hsz (by rfl'),Nat.sub_sub_self hlm]
   by_cases i1:i=l
   ·rw [if_pos i1]
    by_cases j1:j=l
    ·rw [if_pos j1];exact o.rf _
    ·rw [if_neg j1,if_pos (by rfl')]
     exact hi' (j-1) (by rfl') (by rfl')
   ·rw [if_neg i1]
    by_cases i2:l<i/\i<=m
    ·rw [if_pos i2,if_neg (by rfl'),if_pos (by rfl')]
     exact um _ _ (by rfl') (by rfl')
    ·rw [if_neg i2]
     by_cases j1:j=l
     ·rw [if_pos j1];exact lo i (by rfl')
     ·rw [if_neg j1]
      by_cases j2:l<j/\j<=m
      ·rw [if_pos j2];exact um _ _ (by rfl') (by rfl')
      ·rw [if_neg j2];exact um _ _ g1 (by rfl')
 ·obtain ⟨hc,bt,um⟩:=hi
  refine ⟨hc,bt,?_⟩
  rwa [show min (max (max k 1) n) n=n by rfl'] at um
 ·by_cases h0:k=0
  ·rw [show i=j by rfl'];exact o.rf _
  ·exact u i j g1 (by rfl')
 ·obtain ⟨rfl,bt,um⟩:=hc
  exact Zt (h t bt um)
noncomputable def Dd (B:Keyed->Keyed->Bool) (a0:Array Keyed) (st:SortSt):Prop:=(arrOf st).Perm a0/\failedOf st=none/\pendingOf st= #[(0,a0.size,0)]/\Up B (arrOf st) a0.size
theorem Bs.dd (b:Bs kd a0 st) (u:Up B (arrOf st) a0.size):Dd B a0 (setPending st ((pendingOf st).push (0,a0.size,0))):=⟨b.pm,b.fl,by show (pendingOf st).push (0,a0.size,0)=_;rw [b.pe];rfl,u⟩
theorem Ei (o:Wk B) (hA:CQ (model prog w) A E s kd a0 B) {Q:Unit->SortSt->Prop} (b:Bs kd a0 st) (h2:2<=a0.size) (h64:a0.size<64)
  (h: ∀t,(arrOf t).Perm a0->failedOf t=none->Up B (arrOf t) a0.size->Q () t):wpS (model prog w) A E s sortRuns' Q st:=by
 rw [sortRuns'_eq]
 refine Zo (wpS_get ?_)
 have hmr: ∀f,minRun' (f+1) a0.size 0=a0.size:=fun f=>by rw [minRun'_succ,if_pos h64];rfl
 have hmr':minRun' a0.size a0.size 0=a0.size:=by
  have:=hmr (a0.size-1)
  rwa [show a0.size-1+1=a0.size by rfl'] at this
 dsimp only
 simp only [b.sz,hmr']
 refine Zo (wpS_mono (Xy (I:=fun x c t=>(x=0/\c=(none,0)/\Bs kd a0 t)\/(1<=x/\c=(none,a0.size)/\Dd B a0 t)) (Q:=fun c t=>c=(none,a0.size)/\Dd B a0 t) (fun x c t _ _ hi=> ?_) (fun c t hi=> ?_) (.inl ⟨rfl,rfl,b⟩)) fun c t hc=> ?_)
 ·rcases hi with ⟨rfl,rfl,bt⟩ | ⟨hx,rfl,dt⟩
  ·dsimp only
   rw [if_neg (by rfl')]
   simp only [Nat.sub_zero,Nat.min_self,Nat.zero_add]
   refine Zo (vR o hA (Zh _) (by rfl') bt fun m t2 b2 m1 m2 u2=> ?_)
   dsimp only
   by_cases hlt:m<a0.size
   ·rw [if_pos hlt]
    refine Zo (wpS_lift (Wb ⟨rfl,Zo (Eg o hA (Zh _) m2 b2 u2 fun t3 b3 u3=> ?_)⟩))
    simp only [Yl,Ze,Xg]
    refine Zo (wpS_get ?_)
    rw [show (pendingOf t3).back?=none by rw [b3.pe];rfl]
    exact Zo (wpS_modify (Zt (.inr ⟨by rfl',rfl,b3.dd u3⟩)))
   ·rw [if_neg hlt]
    obtain rfl:m=a0.size:=by rfl'
    refine Zo (wpS_get ?_)
    rw [show (pendingOf t2).back?=none by rw [b2.pe];rfl]
    exact Zo (wpS_modify (Zt (.inr ⟨by rfl',rfl,b2.dd u2⟩)))
  ·dsimp only
   rw [if_pos (Zh _)]
   exact Zt ⟨rfl,dt⟩
 ·rcases hi with ⟨hx,_⟩ | ⟨_,hc,dt⟩
  ·rfl'
  ·exact ⟨hc,dt⟩
 ·obtain ⟨rfl,dt⟩:=hc
  dsimp only
  refine Zo (wpS_mono (Xy (I:=fun _ c t'=>t'=t/\c=(none,())) (Q:=fun c t'=>t'=t/\c=(none,())) (fun x c t' _ _ hi=> ?_) (fun _ _ z=>z) ⟨rfl,rfl⟩) fun c t' hc=> ?_)
  ·obtain ⟨rfl,rfl⟩:=hi
   refine Zo (wpS_get ?_)
   rw [if_pos (by rw [dt.2.2.1];exact Zh 1)]
   exact Zt ⟨rfl,rfl⟩
  ·obtain ⟨rfl,rfl⟩:=hc
   exact Zt (h _ dt.1 dt.2.1 dt.2.2.2)
noncomputable def Kp (s s':Shared):Prop:=(∀b o,s.heap.get? b=some o->s'.heap.get? b=some o)/\s'={ s with heap:=s'.heap }
noncomputable def mid (h:Heap) (a:Addr) (vs:List Value):Heap:=((h.update a (Obj.mapSeq fun _=> #[])).push (seqObj "tuple" vs.toArray 0)).push (seqObj "list" #[] 0)
theorem yl (o:Wk B) {a:Addr} {vs:List Value} {n:Nat} {P:Fin->Shared->Prop} (ho:s.heap.get? a=some (seqObj "list" vs.toArray n)) (h64:vs.length<64)
  (hK:2<=vs.length->wpAny (model prog w) A (keyKind' vs.toArray) (fun k s'=>s'={ s with heap:=mid s.heap a vs }/\k=kd) E { s with heap:=mid s.heap a vs })
  (hA:CQ (model prog w) A E { s with heap:=mid s.heap a vs } kd (pairsOf vs) B)
  (h: ∀out:Array Keyed,out.Perm (pairsOf vs)->Up B out vs.length->P (.done (.ret .none)) { s with heap:=sortedHeap s.heap a vs (out.map (·.2)) }):
  wpAny (model prog w) A (Builtin.«list.sort» ⟨[.ref a],[]⟩) P E s:=by
 rw [list_sort_plain]
 have ha:a<s.heap.objs.size:=Zk ho
 obtain ⟨e1,h1⟩: ∃e1,(s.heap.update a (Obj.mapSeq fun _=> #[])).get? a=some (seqObj "list" #[] e1):=⟨_,get?_update_seq ho (fun _=> #[])⟩
 have h6:(mid s.heap a vs).get? a=some (seqObj "list" #[] e1):=by
  unfold mid
  exact Zb _ (Zb _ h1)
 have hps:(pairsOf vs).size=vs.length:=pairsOf_size vs
 refine Qb (listItems_at ho rfl (Qb (listUpdate_at ho rfl (Qb (seqEpoch_at h1 rfl (Qb (wpAny_newTuple (Qb (wpAny_newList (Xp ?_))))))))))
 show wpAny (model prog w) A _ P E { s with heap:=mid s.heap a vs }
 dsimp only
 have hz:vs.toArray.size=vs.length:=by simp
 rw [hz]
 by_cases h2:vs.length<2
 ·rw [if_pos h2,if_pos h2]
  refine Qb (Za ?_)
  rw [StateT.run_pure]
  refine Qb (Za (Qb (seqEpoch_at h6 rfl (Qb (listUpdate_at h6 rfl ?_ (hsz2:= ?_))))))
  ·simp only [Xk,Ze,Xg]
   exact Za (h (pairsOf vs) (Array.Perm.refl _) fun i j g1 g2=>by rw [show i=j by rfl'];exact o.rf _)
  ·rw [Array.size_map]
   show (pairsOf vs).size<=_
   rw [hps,Wd];rfl'
 ·rw [if_neg h2,if_neg h2]
  refine Qb (Xz (hK (by rfl')) ?_ fun _ _ z=>z)
  rintro k s' ⟨rfl,rfl⟩
  refine Qb (Xz (Ei o hA (st:=SortSt.mk' k (vs.toArray.zip vs.toArray) #[] 7 none) (Q:=fun _ t=>(arrOf t).Perm (pairsOf vs)/\failedOf t=none/\Up B (arrOf t) (pairsOf vs).size)
   ⟨Array.Perm.refl _,rfl,rfl,rfl⟩ (by rfl') (by rfl') fun t z1 z2 z3=>⟨z1,z2,z3⟩) ?_ fun _ _ z=>z)
  rintro ⟨⟨⟩,t⟩ s' ⟨rfl,z1,z2,z3⟩
  refine Qb (seqEpoch_at h6 rfl (Qb (listUpdate_at h6 rfl ?_ (hsz2:= ?_))))
  ·dsimp only
   rw [z2]
   simp only [Xk,Ze,Xg]
   rw [hps] at z3
   exact Za (h _ z1 z3)
  ·rw [Array.size_map]
   show (arrOf t).size<=_
   rw [z1.size_eq,hps,Wd];rfl'
theorem rE (o:Wk B) {l:Addr} {vs:List Value} {Q:Value->Shared->Prop} (hl:s.heap.IsList l vs.toArray) (h64:vs.length<64)
  (hK: ∀ (A':Around) (E':Value->Shared->Prop) s',Kp s s'->2<=vs.length->wpAny (model prog w) A' (keyKind' vs.toArray) (fun k s''=>s''=s'/\k=kd) E' s')
  (hA: ∀ (A':Around) (E':Value->Shared->Prop) s',Kp s s'->CQ (model prog w) A' E' s' kd (pairsOf vs) B)
  (h: ∀out:Array Keyed,out.Perm (pairsOf vs)->Up B out vs.length->Q (.ref (s.heap.objs.size+1)) { s with heap:=sortedAll s.heap vs (out.map (·.2)) }):
  wpAny (model prog w) A (call (.builtin "sorted") [.ref l]) Q E s:=by
 refine Calls.call_function_entry kind_sorted plain_sorted entry_sorted (args_sorted1 _) ?_
 unfold Builtin.«sorted»
 refine Qb (m:=checkCount "sorted" 1 1 _) (Za (Qb (collect_list hl (Qb (wpAny_newList ?_)))))
 have z:((s.heap.push (seqObj "list" #[] 0)).update s.heap.objs.size (Obj.mapSeq (· ++vs.toArray))).objs.size=s.heap.objs.size+1:=by rw [Heap.size_update,size_push']
 have g:(((s.heap.push (seqObj "list" #[] 0)).update s.heap.objs.size (Obj.mapSeq (· ++vs.toArray))).push (seqObj "list" vs.toArray 0)).get? (s.heap.objs.size+1)=some (seqObj "list" vs.toArray 0):=by
  rw [<- z];exact Zm _ rfl
 have kp:Kp s { s with heap:=mid (((s.heap.push (seqObj "list" #[] 0)).update s.heap.objs.size (Obj.mapSeq (· ++vs.toArray))).push (seqObj "list" vs.toArray 0)) (s.heap.objs.size+1) vs }:=by
  refine ⟨fun b ob hb=> ?_,rfl⟩
  have lt:b<s.heap.objs.size:=Zk hb
  unfold mid
  refine Zb _ (Zb _ ?_)
  rw [Heap.get?_update_ne _ _ _ _ (Yh (Nat.lt_succ_of_lt lt))]
  refine Zb _ ?_
  rw [Heap.get?_update_ne _ _ _ _ (Yh lt)]
  exact Zb _ hb
 show wpAny _ _ _ _ _ { s with heap:=((s.heap.push (seqObj "list" #[] 0)).update s.heap.objs.size (Obj.mapSeq (· ++vs.toArray))).push (seqObj "list" vs.toArray 0) }
 rw [z]
 refine Qb (Xp (Yy slot_list_sort ⟨_,g,rfl⟩ entry_list_sort (yl o g h64 (fun h2=>hK _ _ _ kp h2) (hA _ _ _ kp) fun out z1 z2=>⟨_,rfl,?_⟩) (args_list_sort _)))
 exact Za ⟨_,rfl,h out z1 z2⟩
end
theorem il (b:Bool) (x y:Value):keyLt' (tuples' b) x y=(do
  let xs <- Builtin.List.listItems x;let ys <- Builtin.List.listItems y
  for ((p,q),i) in (xs.toList.zip ys.toList).zipIdx do
   if !(<- eqBool p q) then return <- oneLt' (b&&i==0) p q
  return xs.size<ys.size):=rfl
theorem pD (v:Value):firstOfTuple' v=(do
  if (<- typeOf v)!= .type "tuple" then return none
  return (<- Builtin.List.listItems v)[0]?):=rfl
noncomputable def Fs (h:Heap) (f:Value->Str) (v:Value):Prop:= ∃b ob its tk n rest,v= .ref b/\h.get? b=some ob/\ob.cls= .type "tuple"/\ob.data= .seq its n/\its.toList= .str (f v) tk::rest
section
variable {prog:Program} {w:World} {A:Around} {E:Value->Shared->Prop} {s:Shared} {f:Value->Str}
theorem jJ {α β:Type} {g:α->Sem β} {r:α->β}: ∀ {vs:List α} {Q:List β->Shared->Prop},(∀v∈vs,∀R:β->Shared->Prop,R (r v) s->wpAny (model prog w) A (g v) R E s)->Q (vs.map r) s->wpAny (model prog w) A (vs.mapM g) Q E s
 | [],Q,_,q=>by rw [List.mapM_nil];exact Za q
 | v::vs,Q,h,q=>by
  rw [List.mapM_cons]
  exact Qb (h v Zq _ (Qb (jJ (fun u hu=>h u (Zs _ hu)) (Za q))))
theorem Fs.keep {s':Shared} {v:Value} (k:Kp s s') (h:Fs s.heap f v):Fs s'.heap f v:=by
 obtain ⟨b,ob,its,tk,n,rest,e1,e2,e3⟩:=h
 exact ⟨b,ob,its,tk,n,rest,e1,k.1 _ _ e2,e3⟩
theorem pF {vs:List Value} (h2:vs≠[]) (hF: ∀v∈vs,Fs s.heap f v):wpAny (model prog w) A (keyKind' vs.toArray) (fun k s'=>s'=s/\k=tuples' true) E s:=by
 rw [keyKind'_eq,List.mapM_toArray]
 have ht: ∀v∈vs,∃tk,∀R:Option Value->Shared->Prop,R (some (.str (f v) tk)) s->wpAny (model prog w) A (firstOfTuple' v) R E s:=by
  intro v hv
  obtain ⟨b,ob,its,tk,n,rest,rfl,e2,e3,e4,e5⟩:=hF v hv
  refine ⟨tk,fun R r=> ?_⟩
  rw [pD]
  refine Qb (wpAny_typeOf_ref e2 ?_)
  rw [e3]
  refine Qb (listItems_at e2 e4 (Za ?_))
  have:its[0]? =some (.str (f (.ref b)) tk):=by rw [<- Yr,e5];rfl
  rw [this];exact r
 let tk:Value->Tok:=fun v=>if hv:v∈vs then (ht v hv).choose else 0
 have htk: ∀v∈vs,∀R:Option Value->Shared->Prop,R (some (.str (f v) (tk v))) s->wpAny (model prog w) A (firstOfTuple' v) R E s:=by
  intro v hv R r
  refine (ht v hv).choose_spec R ?_
  have:tk v=(ht v hv).choose:=dif_pos hv
  rwa [<- this]
 have sa: ∀us:List Value,StrsAre (us.map fun v=> .str (f v) (tk v)) (us.map f):=by
  intro us
  induction us with
  | nil=>exact .nil
  | cons u us ih=>exact .cons _ _ ih
 rw [map_eq_pure_bind,bind_assoc]
 refine Qb (jJ (r:=fun v=>some (.str (f v) (tk v))) htk ?_)
 rw [pure_bind]
 have a1:((vs.map fun v=>some (Value.str (f v) (tk v))).toArray.all (·.isSome))=true:=by
  rw [List.all_toArray,List.all_map,List.all_eq_true]
  intro _ _;rfl
 have a2:(vs.map fun v=>some (Value.str (f v) (tk v))).toArray.filterMap id=(vs.map fun v=>Value.str (f v) (tk v)).toArray:=by
  rw [List.filterMap_toArray,List.filterMap_map]
  congr 1
  show vs.filterMap (fun v=>some (Value.str (f v) (tk v)))=_
  rw [List.filterMap_eq_map']
 rw [if_pos a1,a2,oneTypeOnly'_eq,List.mapM_toArray,mapM_typeOf_strs (sa vs)]
 simp only [map_pure,pure_bind]
 refine Qb (Wb ?_)
 obtain ⟨v,vs',rfl⟩:=List.exists_cons_of_ne_nil h2
 have a3:((List.map (fun _=>Value.type "str") ((v::vs').map fun v=>Value.str (f v) (tk v))).toArray.all fun x=>x==Value.type "str")=true:=by
  rw [List.all_toArray,List.all_map,List.all_eq_true]
  intro _ _;rfl
 have a4:(List.map (fun _=>Value.type "str") ((v::vs').map fun v=>Value.str (f v) (tk v))).toArray[0]? =some (Value.type "str"):=by simp
 rw [a4]
 simp only [a3,if_true,pure_bind]
 exact Za ⟨rfl,rfl⟩
noncomputable def Bf (f:Value->Str) (p q:Keyed):Bool:=strKind.blt (f p.1).cps.toList (f q.1).cps.toList
theorem Rg:Wk (Bf f):=⟨fun p=>strKind.irrefl _,fun {p q r} h1 h2=>KeyOrd.kle_trans (O:=strKind.toKeyOrd) h1 h2,fun {p q} h=>KeyOrd.klt_asymm (O:=strKind.toKeyOrd) h⟩
theorem rG {vs:List Value} (hF: ∀v∈vs,Fs s.heap f v) (hd:(vs.map f).Nodup):CQ (model prog w) A E s (tuples' true) (pairsOf vs) (Bf f):=by
 intro st i j Q b hij hi hj q
 have hi':i<(arrOf st).size:=by rw [b.sz];exact hi
 have hj':j<(arrOf st).size:=by rw [b.sz];exact hj
 have mem: ∀k (hk:k<(arrOf st).size),((arrOf st)[k]).1∈vs:=by
  intro k hk
  have hm:(arrOf st)[k]∈(pairsOf vs).toList:=(Wg.mp b.pm).mem_iff.mp (by simp)
  rw [pairsOf_toList] at hm
  exact (mem_zip_self hm).2
 have ne:f ((arrOf st)[i]).1≠f ((arrOf st)[j]).1:=by
  have hp:((arrOf st).toList.map fun p=>f p.1).Perm (vs.map f):=by
   have:=(Wg.mp b.pm).map (fun p:Keyed=>f p.1)
   rw [pairsOf_toList] at this
   have e:(vs.zip vs).map (fun p:Keyed=>f p.1)=vs.map f:=by
    rw [show (fun p:Keyed=>f p.1)=f∘Prod.fst from rfl,<- Zy,List.map_fst_zip (Zh _)]
   rwa [e] at this
  have nd:=(hp.nodup_iff).mpr hd
  intro e
  exact hij ((List.getElem_inj (h₀:=by simpa using hi') (h₁:=by simpa using hj') nd).mp (by simpa using e))
 have gi:gt (arrOf st) i=(arrOf st)[i]:=by unfold gt;rw [getElem?_pos _ i hi'];rfl
 have gj:gt (arrOf st) j=(arrOf st)[j]:=by unfold gt;rw [getElem?_pos _ j hj'];rfl
 rw [gi,gj] at q
 rw [ltAt'_eq]
 refine Zo (wpS_get ?_)
 show wpS _ _ _ _ (do let x <- elem' (arrOf st) i;let y <- elem' (arrOf st) j;lt' x y) Q st
 rw [elem'_eq,elem'_eq,getElem?_pos _ i hi',getElem?_pos _ j hj']
 refine Zo (Zt (Zo (Zt ?_)))
 rw [lt'_eq]
 refine Zo (wpS_get ?_)
 rw [b.kn]
 obtain ⟨b1,o1,is1,t1,n1,r1,v1,x1,y1,z1,w1⟩:=hF _ (mem i hi')
 obtain ⟨b2,o2,is2,t2,n2,r2,v2,x2,y2,z2,w2⟩:=hF _ (mem j hj')
 refine Zo (wpS_lift (wpAny_attempt ?_))
 rw [il]
 generalize hp:(arrOf st)[i]=p at*
 generalize hq:(arrOf st)[j]=p' at*
 rw [v1,v2]
 refine Qb (listItems_at x1 z1 (Qb (listItems_at x2 z2 ?_)))
 rw [w1,w2,List.zip_cons_cons,List.zipIdx_cons,Yo]
 refine Qb (Qb (Qb (eqBool_str ?_)))
 rw [if_pos (by rw [beq_eq_false_iff_ne.mpr ne];rfl)]
 refine Qb (strKind_oneLt prog w A _ s _ _ (f p.1).cps.toList (f p'.1).cps.toList rfl rfl (Za (Za (Za ⟨rfl,Zt ?_⟩))))
 exact q
theorem lE {l:Addr} {vs:List Value} {Q:Value->Shared->Prop} (hl:s.heap.IsList l vs.toArray) (h64:vs.length<64) (hF: ∀v∈vs,Fs s.heap f v) (hd:(vs.map f).Nodup)
  (h: ∀out:List Value,out.Perm vs->(out.map f).Pairwise (fun a b=>a.cps.toList<b.cps.toList)->Q (.ref (s.heap.objs.size+1)) { s with heap:=sortedAll s.heap vs out.toArray }):
  wpAny (model prog w) A (call (.builtin "sorted") [.ref l]) Q E s:=by
 refine rE (kd:=tuples' true) (Rg (f:=f)) hl h64 (fun A' E' s' k h2=>pF (by intro e;rw [e] at h2;simp at h2) fun v hv=>(hF v hv).keep k) (fun A' E' s' k=>rG (fun v hv=>(hF v hv).keep k) hd) fun out hp u=> ?_
 have hpl:out.toList.Perm (vs.zip vs):=by
  have:=Wg.mp hp
  rwa [pairsOf_toList] at this
 have e12: ∀p∈out.toList,p.1=p.2:=fun p hm=>(mem_zip_self (hpl.mem_iff.mp hm)).1
 have hp2:(out.toList.map (·.2)).Perm vs:=by
  have:=hpl.map (·.2)
  rwa [List.map_snd_zip (Zh _)] at this
 have hsz:out.size=vs.length:=by rw [hp.size_eq,pairsOf_size]
 have:=h (out.toList.map (·.2)) hp2 ?_
 ·rwa [show (out.toList.map (·.2)).toArray=out.map (·.2) by rw [<- Array.toList_map]] at this
 have hnd:((out.toList.map (·.2)).map f).Nodup:=((hp2.map f).nodup_iff).mpr hd
 rw [List.pairwise_iff_getElem]
 intro i j hi hj hij
 have hi':i<out.size:=by simpa using hi
 have hj':j<out.size:=by simpa using hj
 have uu:=u i j (Xq hij) (by rfl')
 have gi:gt out i=out[i]:=by unfold gt;rw [getElem?_pos _ i hi'];rfl
 have gj:gt out j=out[j]:=by unfold gt;rw [getElem?_pos _ j hj'];rfl
 rw [gi,gj] at uu
 have f1:((out.toList.map (·.2)).map f)[i]=f (out[i]).1:=by
  rw [e12 _ (by simp)];simp
 have f2:((out.toList.map (·.2)).map f)[j]=f (out[j]).1:=by
  rw [e12 _ (by simp)];simp
 rw [f1,f2]
 have ne:f (out[i]).1≠f (out[j]).1:=by
  intro e
  have:=(List.getElem_inj (h₀:=hi) (h₁:=hj) hnd).mp (by rw [f1,f2,e])
  rfl'
 unfold Bf at uu
 have nle: ¬ (f (out[j]).1).cps.toList<(f (out[i]).1).cps.toList:=Yw uu
 cases e:strKind.blt (f (out[i]).1).cps.toList (f (out[j]).1).cps.toList with
 | true=>exact Wa e
 | false=>
  have:=strKind.total _ _ e uu
  exact absurd (by
   have h3:(f (out[i]).1).cps=(f (out[j]).1).cps:=Array.toList_inj.mp this
   cases h4:f (out[i]).1;cases h5:f (out[j]).1
   rw [h4,h5] at h3
   simpa using h3) ne
end
end Sx
namespace L2
open PySem PySem.Spec PyProof.Rows
theorem nu {α β:Type} {g:α->β} {l out:List β} (h:l.Perm out): ∀ {zs:List α},l=zs.map g-> ∃ws:List α,ws.Perm zs/\out=ws.map g:=by
 induction h with
 | nil=>intro zs e;exact ⟨zs, .refl _,e⟩
 | cons x _ ih=>
  intro zs e
  cases zs with
  | nil=>cases e
  | cons z zs=>
   rw [Zr] at e
   injection e with e1 e2
   obtain ⟨ws,p,q⟩:=ih e2
   exact ⟨z::ws,p.cons z,by rw [Zr,q,e1]⟩
 | swap x y l=>
  intro zs e
  match zs,e with
  | z1::z2::r,e=>
   rw [Zr,Zr] at e
   injection e with e1 e2
   injection e2 with e2 e3
   exact ⟨z2::z1::r, .swap _ _ _,by rw [Zr,Zr,e1,e2,e3]⟩
 | trans _ _ ih1 ih2=>
  intro zs e
  obtain ⟨ws,p,q⟩:=ih1 e
  obtain ⟨us,p',q'⟩:=ih2 q
  exact ⟨us,p'.trans p,q'⟩
noncomputable def jK (h:Heap):Value->Str
 | .ref b=>match h.get? b with
  | some ob=>match ob.data with
   | .seq its _=>match (its[0]? :Option Value) with
    | some (Value.str x _)=>x
    | _=>⟨#[]⟩
   | _=>⟨#[]⟩
  | none=>⟨#[]⟩
 | _=>⟨#[]⟩
theorem jL {α:Type} {g:α->Addr}: ∀ {zs:List α} {us:List Value},Vals (zs.map fun z=>V.ref (g z)) us->us=zs.map fun z=>Value.ref (g z)
 | [],_,r=>by cases r;rfl
 | z::zs,_,r=>by
  cases r with
  | cons r rr=>
   rw [jL rr,Zr]
   congr 1
theorem gw {α:Type} {g:α->Addr}: ∀zs:List α,Vals (zs.map fun z=>V.ref (g z)) (zs.map fun z=>Value.ref (g z))
 | []=> .nil
 | _::zs=> .cons rfl (gw zs)
noncomputable def iQ (K:W.Frag):List V->Hp->VK->Prop:=fun xs H Q=> ∃ (a:Addr) (zs:List (Addr×Str×List V)),xs=[.ref a]/\SqL K H a (zs.map fun z=>V.ref z.1)/\(∀z∈zs,SqT K H z.1 (.str z.2.1::z.2.2))/\(zs.map (·.2.1)).Nodup/\zs.length<64/\
 ∀r (ws:List (Addr×Str×List V)),ws.Perm zs->(ws.map (·.2.1)).Pairwise (fun a b=>a.cps.toList<b.cps.toList)->H r=none->Q (.ref r) (upd H r (.lst (ws.map fun z=>V.ref z.1)))
theorem rH {X:Cx}:cg X (.builtin "sorted") (iQ X.K):=by
 intro pins s σ H xs us Q I rv h
 obtain ⟨a,zs,rfl,hx,hz,hnd,h64,q⟩:=h
 obtain ⟨u,rfl,ru⟩:=rv.one
 cases (show u=Value.ref a from ru)
 obtain ⟨its,r,ht,_⟩:=I.list hx
 have ei:=jL r
 subst ei
 have hF: ∀z∈zs,jK s.heap (.ref z.1)=z.2.1/\Sx.Fs s.heap (jK s.heap) (.ref z.1):=by
  intro z hz'
  obtain ⟨is,r1,p1,_⟩:=I.tuple (hz z hz')
  obtain ⟨ob,ho,hc,n,hdt⟩:=p1
  cases r1 with
  | cons r2 rr=>
   obtain ⟨t,rfl⟩:=r2
   have e:jK s.heap (.ref z.1)=z.2.1:=by
    unfold jK
    dsimp only
    rw [ho]
    dsimp only
    rw [hdt]
    rfl
   exact ⟨e,z.1,ob,_,t,n,_,rfl,ho,hc,hdt,by rw [e]⟩
 have ef:(zs.map fun z=>Value.ref z.1).map (jK s.heap)=zs.map (·.2.1):=by
  rw [Zy]
  exact List.map_congr_left fun z hz'=>(hF z hz').1
 refine Sx.lE (f:=jK s.heap) (vs:=zs.map fun z=>Value.ref z.1) ht.isList (by rw [Qr];exact h64) (fun v hv=> ?_) (by rw [ef];exact hnd) fun out hp hs=> ?_
 ·obtain ⟨z,hz',rfl⟩:=Zg.mp hv
  exact (hF z hz').2
 obtain ⟨ws,hw,rfl⟩:=nu hp.symm rfl
 obtain ⟨e,he⟩:=sortedAll_at s.heap (zs.map fun z=>Value.ref z.1) (ws.map fun z=>Value.ref z.1).toArray
 have hr:H (s.heap.objs.size+1)=none:=I.hok.fresh (Nat.le_succ _)
 have es:(ws.map fun z=>Value.ref z.1).map (jK s.heap)=ws.map (·.2.1):=by
  rw [Zy]
  exact List.map_congr_left fun z hz'=>(hF z (hw.mem_iff.mp hz')).1
 rw [es] at hs
 refine ⟨.ref _,_,I.laid (t':=s.toks) (a:=s.heap.objs.size+1) (o:= .lst (ws.map fun z=>V.ref z.1)) (fun b o hb=>sortedAll_old hb) (Nat.le_succ _) (show ObjOk X.prog X.w _ _ _ (.lst _) from ⟨?_,_,e,gw (g:=fun z=>z.1) ws,he⟩),rfl,q _ ws hw hs hr⟩
 rw [Qr,hw.length_eq]
 exact Xq (Nat.lt_trans h64 (by decide))
theorem j9 {X:Cx} (K:W.Frag) (hK:X.K=K):cg X (.builtin "sorted") (iQ K):=hK▸rH
end L2
end
section
namespace L2
open PySem PySem.Spec PyProof.Rows
noncomputable abbrev Jz (a b:Str):Prop:=a.cps.toList<b.cps.toList
noncomputable def QK (td:TE):TE:=fun σ H Q=>td σ H fun x H1=> ∃ (a:Addr) (kvs:List (Str×V)),x= .ref a/\H1 a=some (.dK (kvs.map fun p=>(Sum.inr p.1,p.2)))/\kvs.length<64/\ ∀r (zs:List (Addr×Str×V)) (H2:Hp),(zs.map (·.2)).Perm kvs->(zs.map (·.2.1)).Pairwise Jz->H1 r=none->Same H1 H2->H2 r=some (.lst (zs.map fun z=>V.ref z.1))->(∀z∈zs,H2 z.1=some (.tup [.str z.2.1,z.2.2]))->Q (.ref r) H2
noncomputable def ym (K:W.Frag):List V->Hp->VK->Prop:=fun xs H Q=> ∃ (a:Addr) (bs:List Bool),xs=[.ref a]/\SqL K H a (bs.map V.bl)/\Q (.bl (bs.all id)) H
noncomputable def S9 (te:TE):TE:=fun σ H Q=>te σ H fun x H1=> ∃cs:List Nat,x= .str ⟨cs.toArray⟩/\cs.length<=1000000/\Q (.str ⟨cs.reverse.toArray⟩) H1
theorem Hq (h:Heap) (vs:List Value) (out:Array Value): ∃e,(sortedHeap (h.push (seqObj "list" vs.toArray 0)) h.objs.size vs out).get? h.objs.size=some (seqObj "list" out e):=sortedHeap_at (n:=0) (Zm _ rfl)
theorem yo {h:Heap} {vs:List Value} {out:Array Value} {b:Addr} {o:Obj} (hb:h.get? b=some o):(sortedHeap (h.push (seqObj "list" vs.toArray 0)) h.objs.size vs out).get? b=some o:=by
 have hlt:b<h.objs.size:=Zk hb
 rw [sortedHeap_old (Yh hlt) (by rw [size_push'];exact Nat.lt_succ_of_lt hlt)]
 exact Zb _ hb
theorem yp {X:Cx} (hc:X.calm=true):cg X (.builtin "all") (ym X.K):=by
 intro pins s σ H xs us Q I rv h
 obtain ⟨a,bs,rfl,hx,q⟩:=h
 obtain ⟨u,rfl,ru⟩:=rv.one
 cases (show u=Value.ref a from ru)
 obtain ⟨its,r,ht,hz⟩:=I.list hx
 have hlt:a<s.heap.objs.size:=by obtain ⟨o,ho,_⟩:=ht.isList;exact Zk ho
 have hit:its=bs.map Value.bool:=by
  clear q hx ht hz
  induction bs generalizing its with
  | nil=>cases r;rfl
  | cons b bs ih=>
   cases r with
   | cons h t=>rw [ih _ t,Zr];congr 1
 have hb: ∀i v,its.toArray[i]? =some v->v=Value.bool ((bs[i]?).getD true):=fun i v hv=>by
  rw [hit,Xt,Zd] at hv
  obtain ⟨b,e1,e2⟩:=Yn.mp hv
  rw [e1,<- e2];rfl
 refine call_all_walk (wpAny_pyIter_list ht.isList ?_)
 refine ⟨_,_,_,_,_,_,fun i=>(bs[i]?).getD true,rfl,Walks.list (A:=X.A.in1) (I.ok.hd hc) s.heap.objs.size a (Yh hlt) its.toArray,⟨⟨_,Zm _ rfl,rfl,rfl⟩,ht.isList.push _⟩,fun i v s Q E hP hQ=>by rw [hb i v hP];exact wpAny_truthy_bool hQ,fun h' tk hk=> ?_⟩
 have e:(List.range its.toArray.size).all (fun i=>(bs[i]?).getD true)=bs.all id:=by
  rw [hit,Ya,Qr]
  rw [Bool.eq_iff_iff,List.all_eq_true,List.all_eq_true]
  constructor
  ·intro h b hb
   obtain ⟨i,hi,e⟩:=List.mem_iff_getElem.mp hb
   have:=h i (Xe.mpr hi)
   rw [Zc hi,e] at this
   exact this
  ·intro h i hi
   have hi:=Xe.mp hi
   rw [Zc hi]
   exact h _ (Xh hi)
 rw [e]
 exact ⟨.bl _,H,I.kept (t':=tk) fun b o hb=>hk b o (fun m=>by rw [Zf.mp m] at hb;exact absurd (Zk hb) (Nat.lt_irrefl _)) (Zb _ hb),rfl,q⟩
theorem lY {X:Cx} (K:W.Frag) (hK:X.K=K) (hc:X.calm=true):cg X (.builtin "all") (ym K):=hK▸yp hc
end L2
end
section
namespace Sy
open PySem PyProof.Rows
theorem lZ:entryFor table "dict.update.loop"=some Builtin.«dict.update.loop»:=entryFor_of_tree (by kernel_rfl)
theorem gA:plainId "dict.update.loop"=true:=by decide+kernel
theorem yq:typeLookup (.type "tuple") "keys"=pure none:=am_miss_of_fast (by decide+kernel)
theorem JB:typeLookup (.type "tuple") "__getattr__"=pure none:=by rw [typeLookup_type,builtinLookup_eq_fast];kernel_rfl
theorem stored_new {K:Type} [DecidableEq K] {kvs:List (K×Value)} {k:K} {v:Value} (h:k∉kvs.map (·.1)):stored kvs k v=kvs++[(k,v)]:=by
 unfold stored
 rw [if_neg]
 intro z
 obtain ⟨p,m,e⟩:=List.any_eq_true.mp z
 exact h (Zg.mpr ⟨p,m,Wa e⟩)
section
variable {prog:Program} {w:World} {A:Around} {E:Value->Shared->Prop} {s:Shared}
theorem yr (a:Addr) (o:Obj) (its:Array Value) (n:Nat) (hc:o.cls= .type "tuple") (hd:o.dict=none) (hdt:o.data= .seq its n) (u:Tok):Meets (Builtin.«object.__getattribute__» ⟨[.ref a, .str "keys" u],[]⟩) (fun A R s=>s.heap.get? a=some o/\raisesAttr (.ref a) "keys" A R s):=
 Meets.of_wp fun prog w A R s hs=>by
  obtain ⟨hp,g,d,tk,os⟩:=s
  obtain ⟨hx,hs⟩:=hs
  dsimp only at hx
  obtain ⟨cls,dict,data,slots⟩:=o
  simp only at hc hd hdt
  subst hc hd hdt
  have hT:(⟨hp,g,d,tk,os⟩:Shared).TypeIs (.ref a) "tuple":=⟨_,hx,rfl⟩
  have f1:=yq
  unfold Builtin.«object.__getattribute__»
  repeat (any_goals (first | assumption | wp_step | (refine PySem.AutoSeq1.wpAny_loadPart' hx ?_)))
  exact wpAny_raiseAttrError hs.1 hs.2 (attrMsg_fits (by decide+kernel) (by rw [Wd];decide+kernel))
theorem Ej {a:Addr} {o:Obj} {its:Array Value} {n:Nat} {Q:Option Value->Shared->Prop} (hh:A.handled=none) (hx:s.heap.get? a=some o) (hc:o.cls= .type "tuple") (hd:o.dict=none) (hdt:o.data= .seq its n)
  (hQ: ∀h' tk,(∀b ob,s.heap.get? b=some ob->h'.get? b=some ob)->Q none { s with heap:=h',toks:=tk }):wpAny (model prog w) A (getAttr? (.ref a) "keys") Q E s:=by
 obtain ⟨hp,g,d,tk,os⟩:=s
 dsimp only at hx
 have M:=fun u=>yr a o its n hc hd hdt u
 obtain ⟨cls,dict,data,slots⟩:=o
 simp only at hc hd hdt
 subst hc hd hdt
 have hT: ∀tk,(⟨hp,g,d,tk,os⟩:Shared).TypeIs (.ref a) "tuple":=fun _=>⟨_,hx,rfl⟩
 have f1:=sub_AttributeError
 have f3:=F.slot_tuple_getattribute.lookup
 have f4:=F.slot_tuple_getattribute.bind (.ref a)
 have f5:=JB
 unfold getAttr? getAttrBy? getAttrBy
 repeat (any_goals (first | assumption | exact hT _ | ((with_reducible show wpAny _ _ (call (Value.builtin "tuple.__getattribute__") _ _) _ _ _);refine call_meets F.slot_tuple_getattribute (hT _) F.entry_tuple_ga (F.args_tuple_getattribute_2 _ _) (M _) ⟨hx,hh,fun h' tk' e hx=> ?_⟩) | wp_step))
 obtain ⟨t',u',he⟩:=hx.there
 show wpAny _ _ (getattributeRaised _ _ _ _ _ _ _) _ _ _
 unfold getattributeRaised
 repeat (any_goals (first | assumption | wp_step))
 exact hQ _ _ hx.keeps
theorem yt {K:Type} [DecidableEq K] {knd:PySem.KeyKind prog w K} {I D:Addr} {fp wr:List Addr} {zs:List (Addr×Value×K×Value)} {St:Nat->Heap->Prop} {h₀:Heap} {R:Result->Shared->Prop}
  (W:Walks prog w A.in1 I fp wr zs.length (fun i v=> ∃z,zs[i]? =some z/\v= .ref z.1) St) (hDf:D∉fp)
  (hz: ∀z∈zs,z.1∉D::wr/\knd.is z.2.2.1 z.2.1=true/\ ∃o n,h₀.get? z.1=some o/\o.cls= .type "tuple"/\o.data= .seq #[z.2.1,z.2.2.2] n) (hnd:(zs.map (·.2.2.1)).Nodup) (hsz:zs.length<=sizeLine) (res:Value)
  (hR: ∀h' tk',h'.DictOf knd D (zs.map fun z=>(z.2.2.1,z.2.2.2))->(∀b o,b∉D::wr->h₀.get? b=some o->h'.get? b=some o)->R (.ok (.ret res)) { s with heap:=h',toks:=tk' }):
  ∀ (k i:Nat) (h:Heap) (tk:Nat) (j:Int),zs.length-i=k->i<=zs.length->St i h->h.DictOf knd D ((zs.take i).map fun z=>(z.2.2.1,z.2.2.2))->(∀b o,b∉D::wr->h₀.get? b=some o->h.get? b=some o)->
   codeAny (model prog w) A (.builtin "dict.update.loop" ⟨[.ref D, .ref I, .int j 0,res],[]⟩) R { s with heap:=h,toks:=tk }:=by
 have hDw:D∉wr:=fun m=>hDf (W.sub _ m)
 have sub: ∀ {b},b∉D::wr->b∉wr:=fun {b} n m=>n (Zs _ m)
 intro k
 induction k with
 | zero=>
  intro i h tk j hk hi hst hD hkeep
  have hin:i=zs.length:=by rfl'
  subst hin
  rw [Wp] at hD
  refine Wo lZ ?_
  rw [Xw gA _]
  show wpAny _ A.in1 (pyNext (.ref I) >>= _) _ _ _
  refine Qb (W.done { s with heap:=h,toks:=tk } _ _ hst fun h' tk' hk'=> ?_)
  show wpAny _ A.in1 (Builtin.Dict.addKeywords D [] >>= _) _ _ _
  refine Qb (Za (Za (hR h' tk' ?_ fun b o hb e=>hk' b o (sub hb) (hkeep b o hb e))))
  obtain ⟨o,es,ep,ho,r⟩:=hD
  exact ⟨o,es,ep,hk' D o hDw ho,r⟩
 | succ k ih=>
  intro i h tk j hk hi hst hD hkeep
  have hlt:i<zs.length:=by rfl'
  refine Wo lZ ?_
  rw [Xw gA _]
  show wpAny _ A.in1 (pyNext (.ref I) >>= _) _ _ _
  refine Qb (W.item i { s with heap:=h,toks:=tk } _ _ hlt hst fun v h' tk' hP hst' hk'=> ?_)
  obtain ⟨z,ez,rfl⟩:=hP
  have hm:=Zj ez
  obtain ⟨n1,n2,o,n,g1,g2,g3⟩:=hz z hm
  have g1':h'.get? z.1=some o:=hk' _ _ (sub n1) (hkeep _ _ n1 g1)
  have hD':h'.DictOf knd D ((zs.take i).map fun z=>(z.2.2.1,z.2.2.2)):=by
   obtain ⟨o,es,ep,ho,r⟩:=hD
   exact ⟨o,es,ep,hk' D o hDw ho,r⟩
  refine Qb (Xp ?_)
  refine Qb (wpAny_tryCatch ?_)
  unfold Builtin.Dict.pairItems
  refine Qb (wpAny_typeOf (T:="tuple") ⟨o,g1',g2⟩ ?_)
  rw [if_pos (by decide)]
  refine Qb ?_
  unfold seqItems?
  refine Qb (wpAny_load g1' ?_)
  rw [g3]
  refine Za (Za ?_)
  show wpAny _ _ (holding [z.2.1,z.2.2.2] (dictSet D z.2.1 z.2.2.2)) _ _ _
  refine Xp (wpAny_dictSet_pairs n2 hD' (fun h'' hd'' hs''=> ?_) (by rw [Qr,Yf];rfl'))
  have et:zs.take (i+1)=zs.take i++[z]:=by rw [Yz,ez];rfl
  have hnew:z.2.2.1∉((zs.take i).map fun z=>(z.2.2.1,z.2.2.2)).map (·.1):=by
   intro m
   rw [Zy] at m
   obtain ⟨y,my,ey⟩:=Zg.mp m
   have hnd2:((zs.take (i+1)).map (·.2.2.1)).Nodup:=List.Nodup.sublist ((List.take_sublist _ _).map _) hnd
   rw [et,Zw,List.nodup_append] at hnd2
   exact hnd2.2.2 _ (Zg.mpr ⟨y,my,rfl⟩) z.2.2.1 (by simp) ey
  rw [stored_new hnew] at hd''
  refine Za ⟨plainId_quiet gA _,ih (i+1) h'' _ (j+1) (by rfl') hlt (W.frame _ _ _ hst' fun b hb o e=> ?_) (by rw [et,Zw];exact hd'') fun b o hb e=> ?_⟩
  ·rw [hs''.2 b (fun q=>hDf (by rw [<- q];exact hb))];exact e
  ·rw [hs''.2 b (fun q=>hb (by rw [q];exact Zq))]
   exact hk' b o (sub hb) (hkeep b o hb e)
theorem jj {K:Type} [DecidableEq K] {knd:PySem.KeyKind prog w K} {a:Addr} {o:Obj} {n:Nat} {zs:List (Addr×Value×K×Value)} {Q:Value->Shared->Prop} (hh:A.handled=none) (hx:s.heap.get? a=some o) (hc:o.cls= .type "tuple") (hd:o.dict=none) (hdt:o.data= .seq (zs.map fun z=>Value.ref z.1).toArray n)
  (hz: ∀z∈zs,knd.is z.2.2.1 z.2.1=true/\ ∃o n,s.heap.get? z.1=some o/\o.cls= .type "tuple"/\o.data= .seq #[z.2.1,z.2.2.2] n) (hnd:(zs.map (·.2.2.1)).Nodup) (hsz:zs.length<=sizeLine)
  (hQ: ∀h' tk,h'.DictOf knd s.heap.objs.size (zs.map fun z=>(z.2.2.1,z.2.2.2))->(∀b o,s.heap.get? b=some o->h'.get? b=some o)->Q (.ref s.heap.objs.size) { s with heap:=h',toks:=tk }):
  wpAny (model prog w) A (call (.type "dict") [.ref a]) Q E s:=by
 refine callType_codes (Q₁:=fun obj s₁=>obj= .ref s.heap.objs.size/\s₁={ s with heap:=s.heap.push { cls:= .type "dict",data:= .dict #[] } }) F.kt_called_dict (F.kt_typeCall_dict_1 _) F.entry_dict_init (kt_code_dict_new _ ⟨rfl,rfl⟩) ?_
 rintro obj s₁ ⟨rfl,rfl⟩
 have hal:a<s.heap.objs.size:=Zk hx
 have hnew:(s.heap.push { cls:= .type "dict",data:= .dict #[] }).DictOf knd s.heap.objs.size []:=Heap.DictOf.new s.heap
 have hx':(s.heap.push { cls:= .type "dict",data:= .dict #[] }).get? a=some o:=Zb _ hx
 refine ⟨hnew.typeIs,F.args_dict_init_2 _ _,?_⟩
 unfold Builtin.«dict.__init__»
 refine Qb ?_
 unfold Builtin.Dict.selfAndRest
 refine Qb (wpAny_notOrdered_dict hnew.typeIs ?_)
 show wpAny _ _ (pure (s.heap.objs.size,[Value.ref a])) _ _ _
 refine Za ?_
 show wpAny _ _ (Builtin.Dict.updateFrom "dict.__init__" s.heap.objs.size (.ref a) [] .none) _ _ _
 unfold Builtin.Dict.updateFrom
 refine Qb (wpAny_typeOf (T:="tuple") ⟨o,hx',hc⟩ ?_)
 rw [if_pos (by decide)]
 refine Qb (Ej hh hx' hc hd hdt fun h1 tk1 hk1=> ?_)
 rw [if_pos (show (none:Option Value).isNone=true from rfl)]
 refine Qb (Wb ?_)
 have hxa:h1.IsTuple a (zs.map fun z=>Value.ref z.1).toArray:=⟨o,hk1 _ _ hx',hc,n,hdt⟩
 refine Qb (wpAny_pyIter_tuple hxa ?_)
 have hs1:s.heap.objs.size<h1.objs.size:=Zk (hk1 s.heap.objs.size _ (Zm _ rfl))
 have hne:a≠h1.objs.size:=Yh (Nat.lt_trans hal hs1)
 have esz:(zs.map fun z=>Value.ref z.1).toArray.size=zs.length:=by simp
 have W0:=Walks.tuple (prog:=prog) (w:=w) (A:=A.in1.in1) hh h1.objs.size a hne (zs.map fun z=>Value.ref z.1).toArray
 have W : Walks prog w A.in1.in1 h1.objs.size [h1.objs.size, a] [h1.objs.size] zs.length (fun i v => ∃ z, zs[i]? = some z /\ v = .ref z.1) (fun i h => h.IsTupleIter h1.objs.size a i /\ h.IsTuple a (zs.map fun z => Value.ref z.1).toArray) :=
  { sub:=W0.sub,frame:=W0.frame,self:=W0.self
    item:=fun i s Q E hi st hQ=>W0.item i s Q E (by rw [esz];exact hi) st fun v h' tk hP=>hQ v h' tk (by
      rw [Xt,Zd] at hP
      obtain ⟨z,e1,e2⟩:=Yn.mp hP
      exact ⟨z,e1,e2.symm⟩)
    done:=fun s Q E st hQ=>W0.done s Q E (by rw [esz];exact st) hQ }
 have hk2: ∀b ob,s.heap.get? b=some ob->(h1.push { cls:= .type "tuple_iterator",data:= .fields #[.ref a, .int 0 0] }).get? b=some ob:=fun b ob e=>Zb _ (hk1 b ob (Zb _ e))
 have hnw: ∀b ob,s.heap.get? b=some ob->b∉[s.heap.objs.size,h1.objs.size]:=fun b ob e m=>by
  have:=Zk e
  simp only [Zu,Xb,or_false] at m
  rcases m with rfl | rfl
  ·exact Nat.lt_irrefl _ this
  ·exact Nat.lt_irrefl _ (Nat.lt_trans this hs1)
 refine Za ⟨plainId_quiet gA _,yt (s:=s) (A:=A.in1) (knd:=knd) (D:=s.heap.objs.size) (h₀:=h1.push { cls:= .type "tuple_iterator",data:= .fields #[.ref a, .int 0 0] }) W ?_ (fun z m=> ?_) hnd hsz .none (fun h' tk' hD hk=>⟨rfl,hQ h' tk' hD fun b ob e=>hk b ob (hnw b ob e) (hk2 b ob e)⟩) zs.length 0 _ _ 0 rfl (Yp _) ⟨⟨_,Zm _ rfl,rfl,rfl⟩,?_⟩ ?_ fun _ _ _ e=>e⟩
 ·simp only [Zu,Xb,or_false,not_or]
  exact ⟨Nat.ne_of_lt hs1,Nat.ne_of_gt hal⟩
 ·obtain ⟨n1,o',n',g1,g2,g3⟩:=hz z m
  exact ⟨hnw _ _ g1,n1,o',n',hk2 _ _ g1,g2,g3⟩
 ·obtain ⟨o',ho,r⟩:=hxa
  exact ⟨o',Zb _ ho,r⟩
 ·obtain ⟨o',es,ep,ho,r⟩:=hnew
  exact ⟨o',es,ep,Zb _ (hk1 _ _ ho),r⟩
end
end Sy
namespace L2
open PySem PySem.Spec PyProof.Rows
noncomputable def ux (K:W.Frag):List V->Hp->VK->Prop:=fun xs H Q=> ∃p ys,xs=[.ref p]/\SqL K H p ys/\ ∀l (ob:Obj),ob.dict=none->H l=none->Q (.ref l) (upd H l (.frz ob (.tup ys)))
theorem vU {X:Cx}:cg X (.type "tuple") (ux X.K):=by
 intro pins s σ H xs us Q I r h
 obtain ⟨p,ys,rfl,hq,q⟩:=h
 obtain ⟨u,rfl,rx⟩:=vals1 r
 cases rx
 obtain ⟨its,r',pl,hz⟩:=I.list hq
 have hlen:=r'.length
 refine call_tuple_list pl.isList (fun h' kp=> ?_) (by simp only [Ya]<;>rfl')
 have I1:Inv X pins σ H { s with heap:=h' }:=I.kept (t':=s.toks) kp
 have I2:Inv X pins σ (upd H h'.objs.size (.frz { cls:= .type "tuple",data:= .seq its.toArray } (.tup ys))) { s with heap:=h'.push { cls:= .type "tuple",data:= .seq its.toArray } }:=
  I1.laid (t':=s.toks) (fun b o e=>Zb _ e) (Zh _) (show ObjOk X.prog X.w _ _ _ (.frz _ (.tup ys)) from ⟨Heap.get?_push_size _ rfl,hz,its,r',IsTup.new _ _⟩)
 exact ⟨.ref h'.objs.size,_,I2,rfl,q _ _ rfl (I1.hok.fresh (Zh _))⟩
theorem rJ {X:Cx} (K:W.Frag) (hK:X.K=K):cg X (.type "tuple") (ux K):=hK▸vU
noncomputable def ir (K:W.Frag):List V->Hp->VK->Prop:=fun xs H Q=> ∃ (a:Addr) (ob:Obj) (zs:List (Addr×Str×V)),xs=[.ref a]/\ob.dict=none/\H a=some (.frz ob (.tup (zs.map fun z=>V.ref z.1)))/\(∀z∈zs,SqT K H z.1 [.str z.2.1,z.2.2])/\(zs.map (·.2.1)).Nodup/\zs.length<=1000/\ ∀r,H r=none->Q (.ref r) (upd H r (.dK (zs.map fun z=>(Sum.inr z.2.1,z.2.2))))
theorem pG {X:Cx} (hc:X.calm=true):cg X (.type "dict") (ir X.K):=by
 intro pins s σ H xs us Q I r h
 obtain ⟨a,ob,zs,rfl,hob,ha,hz,hnd,hn,q⟩:=h
 obtain ⟨u,rfl,rx⟩:=vals1 r
 cases rx
 obtain ⟨hg,hlen,its,rv,o',ho',hcl,n,hdt⟩:=I.hok a _ ha
 rw [hg] at ho'
 cases ho'
 have ei:=jL rv
 subst ei
 have hp: ∀z∈zs,∃t v',RelV z.2.2 v'/\ ∃o n,s.heap.get? z.1=some o/\o.cls= .type "tuple"/\o.data= .seq #[.str z.2.1 t,v'] n:=fun z m=>by
  obtain ⟨is,r1,p1,_⟩:=I.tuple (hz z m)
  obtain ⟨o,ho,hc,n,hd⟩:=p1
  cases r1 with
  | cons r2 rr=>
   obtain ⟨t,rfl⟩:=r2
   cases rr with
   | cons r3 r4=>
    cases r4
    exact ⟨t,_,r3,o,n,ho,hc,hd⟩
 have hch: ∃ws:List (Addr×Value×Key×Value),ws.map (fun w=>Value.ref w.1)=zs.map (fun z=>Value.ref z.1)/\ws.map (·.2.2.1)=zs.map (fun z=>(Sum.inr z.2.1:Key))/\KV (zs.map fun z=>((Sum.inr z.2.1:Key),z.2.2)) (ws.map fun w=>(w.2.2.1,w.2.2.2))/\ ∀w∈ws,ie w.2.2.1 w.2.1=true/\ ∃o n,s.heap.get? w.1=some o/\o.cls= .type "tuple"/\o.data= .seq #[w.2.1,w.2.2.2] n:=by
  clear ha hnd hn q rv hdt hz hlen
  induction zs with
  | nil=>exact ⟨[],rfl,rfl, .nil,by simp⟩
  | cons z zs ih=>
   obtain ⟨ws,e1,e2,e3,e4⟩:=ih fun y my=>hp y (Zs _ my)
   obtain ⟨t,v',r1,o,n,g1,g2,g3⟩:=hp z Zq
   refine ⟨(z.1, .str z.2.1 t,Sum.inr z.2.1,v')::ws,by rw [Zr,Zr,e1],by rw [Zr,Zr,e2], .cons ⟨rfl,r1⟩ e3,fun w mw=> ?_⟩
   rcases Zu.mp mw with rfl | mw
   ·exact ⟨lH _ _,o,n,g1,g2,g3⟩
   ·exact e4 w mw
 obtain ⟨ws,e1,e2,e3,e4⟩:=hch
 rw [<- e1] at hdt
 have hwl:ws.length=zs.length:=by have:=Xr List.length e1;rw [Qr,Qr] at this;exact this
 refine Sy.jj (knd:=bF X.prog X.w) (I.ok.hd hc) hg hcl hob hdt e4 (by rw [e2,show (zs.map fun z=>(Sum.inr z.2.1:Key))=(zs.map (·.2.1)).map Sum.inr by rw [Zy];rfl];exact List.pairwise_map.mpr (List.Pairwise.imp (fun {a b} h e=>h (Sum.inr.inj e)) hnd)) (by rw [hwl,Wd];rfl') fun h' tk hD hk=> ?_
 refine ⟨.ref _,_,I.laid (t':=tk) (o:= .dK (zs.map fun z=>((Sum.inr z.2.1:Key),z.2.2))) hk (Zh _) (show ObjOk X.prog X.w _ _ _ (.dK _) from ⟨by rw [Qr,Wd];rfl',?_,_,e3,hD⟩),rfl,q _ (I.hok.fresh (Zh _))⟩
 exact beq_eq_false_iff_ne.mpr (Nat.ne_of_gt I.big)
theorem iu {X:Cx} (K:W.Frag) (hK:X.K=K) (hc:X.calm=true):cg X (.type "dict") (ir K):=hK▸pG hc
end L2
end
section
namespace L2
open PySem PySem.Spec PyProof.Rows PySem.SeqAt
noncomputable def Ss:V->Bool
 | .non=>true
 | .bl _=>true
 | .int _=>true
 | .str _=>true
 | .ref _=>true
 | _=>false
noncomputable def Sm (K:W.Frag) (H:Hp):Nat->V->V->Prop
 | 0,x,y=>x=y/\Ss x=true
 | n+1,x,y=>(x=y/\Ss x=true)\/ ∃a b xs ys,x= .ref a/\y= .ref b/\((SqL K H a xs/\SqL K H b ys)\/(SqT K H a xs/\SqT K H b ys))/\xs.length=ys.length/\ ∀ (i:Nat) u v,xs[i]? =some u->ys[i]? =some v->Sm K H n u v
end L2
end
section
namespace L2
open PySem PySem.Spec PyProof.Rows
structure Drw (prog:Program) (w:World) (i l:Addr) (xs:Array Value) (St:Nat->Heap->Prop):Prop where
 keep: ∀k h h',St k h->(∀c,c=i\/c=l-> ∀o,h.get? c=some o->h'.get? c=some o)->St k h'
 item: ∀ (A:Around) (s:Shared) k x (Q:Value->Shared->Prop) (E:Value->Shared->Prop),St k s.heap->xs[k]? =some x->(∀h',St (k+1) h'->Heap.SameBut i s.heap h'->Q x { s with heap:=h' })->
  wpAny (model prog w) A (Builtin.SmallTypes.nextOf (.ref i)) Q E s
 stop: ∀ (A:Around) (s:Shared) k (Q:Value->Shared->Prop) (E:Value->Shared->Prop),A.handled=none->St k s.heap->xs[k]? =none->(∀h' e,Heap.ExtBut i s.heap h'->(∃o,h'.get? e=some o/\o.cls= .type "StopIteration")->E (.ref e) { s with heap:=h' })->
  wpAny (model prog w) A (Builtin.SmallTypes.nextOf (.ref i)) Q E s
theorem Drw.but {prog:Program} {w:World} {i l b:Addr} {xs:Array Value} {St:Nat->Heap->Prop} (D:Drw prog w i l xs St) {k:Nat} {h h':Heap} (st:St k h) (e:Heap.ExtBut b h h') (hi:i≠b) (hl:l≠b):St k h':=
 D.keep k h h' st fun c hc o q=>e c o (by rcases hc with rfl | rfl;exact hi;exact hl) q
theorem jm {prog:Program} {w:World} {i l:Addr} {xs:Array Value} (hne:l≠i):Drw prog w i l xs fun k h=>h.IsTupleIter i l k/\h.IsTuple l xs where
 keep:=fun k h h' st kk=>⟨st.1.at fun o e=>kk i (.inl rfl) o e,by obtain ⟨o,e,q⟩:=st.2;exact ⟨o,kk l (.inr rfl) o e,q⟩⟩
 item:=fun A s k x Q E st hx hQ=>by
  obtain ⟨hit,ht⟩:=st
  obtain ⟨o,ho,hc,hd⟩:=id hit
  obtain ⟨ol,hol,_,nl,hdl⟩:=id ht
  unfold Builtin.SmallTypes.nextOf
  refine Qb (wpAny_callSpecial?_slot (name:=Str.ofString "__next__") hit.typeIs F.slot_tuple_iterator_next (Yy F.slot_tuple_iterator_next hit.typeIs F.entry_tuple_iterator_next ?_ (F.args_tuple_iterator_next_1 _)))
  refine Qb (m:=field (.ref i) 0) (wpAny_field ho hd (x:= .ref l) rfl ?_)
  show wpAny _ _ (if (Value.ref l==Value.none)=true then _ else _) _ _ s
  rw [if_neg (by intro z;cases z)]
  refine Qb (m:=field (.ref i) 1) (wpAny_field ho hd (x:= .int k 0) rfl ?_)
  refine Qb (m:=seqItems? (.ref l)) (Xu hol hdl ?_)
  simp only [Yb,hx]
  refine Qb (wpAny_setField ho hd (by simp) (Za ⟨x,rfl,Za (hQ _ ⟨?_,ht.extBut (Xo ..).extBut hne⟩ (Xo ..))⟩))
  exact ⟨_,Xx _ ho (Obj.isFreed_of_fields (Xl hd _)),(Obj.cls_mapFields ..).trans hc,by rw [Xl hd];simp [rawInt]⟩
 stop:=fun A s k Q E hh st hx hE=>by
  obtain ⟨hit,ht⟩:=st
  obtain ⟨o,ho,hc,hd⟩:=id hit
  obtain ⟨ol,hol,_,nl,hdl⟩:=id ht
  unfold Builtin.SmallTypes.nextOf
  refine Qb (wpAny_callSpecial?_slot (name:=Str.ofString "__next__") hit.typeIs F.slot_tuple_iterator_next (Yy F.slot_tuple_iterator_next hit.typeIs F.entry_tuple_iterator_next ?_ (F.args_tuple_iterator_next_1 _)))
  refine Qb (m:=field (.ref i) 0) (wpAny_field ho hd (x:= .ref l) rfl ?_)
  show wpAny _ _ (if (Value.ref l==Value.none)=true then _ else _) _ _ s
  rw [if_neg (by intro z;cases z)]
  refine Qb (m:=field (.ref i) 1) (wpAny_field ho hd (x:= .int k 0) rfl ?_)
  refine Qb (m:=seqItems? (.ref l)) (Xu hol hdl ?_)
  simp only [Yb,hx]
  refine Qb (Wb (Qb (wpAny_setField ho hd (by simp) ?_)))
  refine Qb (m:=newExc (.type "StopIteration") []) ?_
  simp only [newExc,newTuple]
  refine Qb (Xc ?_ (by size_fits))
  refine Qb (m:=firstArgMember _ _) (wpAny_of_eq (a:=Value.none) (by first | rfl | (simp only [firstArgMember];rfl)) ?_)
  refine Xc ?_ (by size_fits)
  simp only [raiseNew]
  refine Qb (wpAny_handled ?_)
  first | rw [show A.in1.handled=none from hh] | rw [hh]
  exact Qb (Za (wpAny_throw (hE _ _ (((Xo ..).extBut.push _).push _) ⟨_,Zm _ rfl,rfl⟩)))
section
variable {prog:Program} {w:World} {A:Around} {E:Value->Shared->Prop} {s:Shared} {z TI TO i1 i2 l1 l2:Addr} {k:Nat} {xs ys:Array Value} {S1 S2:Nat->Heap->Prop}
theorem vV {x y a b:Value} {Q:Option Value->Shared->Prop} (D:ZipApart z TI TO i1 i2 l1 l2) (D1:Drw prog w i1 l1 xs S1) (D2:Drw prog w i2 l2 ys S2)
  (hz:IsZip s.heap z TI TO .none) (hTI:IsPair s.heap TI (.ref i1) (.ref i2)) (hTO:IsPair s.heap TO a b) (h1:S1 k s.heap) (h2:S2 k s.heap) (hx:xs[k]? =some x) (hy:ys[k]? =some y)
  (hQ: ∀h',IsZip h' z TI TO (rawInt s.heap.objs.size)->IsPair h' TO x y->S1 (k+1) h'->S2 (k+1) h'->IsPair h' s.heap.objs.size x y->
   (∀c o,c≠z->c≠TO->c≠i1->c≠i2->s.heap.get? c=some o->h'.get? c=some o)->Q (some (.ref s.heap.objs.size)) { s with heap:=h' }):
  wpAny (model prog w) A (pyNext (.ref z)) Q E s:=by
 have hT:s.TypeIs (.ref z) "zip":=⟨_,hz,rfl⟩
 unfold pyNext
 refine Qb (wpAny_attempt (wpAny_callSpecial?_slot (name:=Str.ofString "__next__") hT F.slot_zip_next (Yy F.slot_zip_next hT F.entry_zip_next ?_ (F.args_zip_next_1 _))))
 refine Qb (m:=field (.ref z) 2) (wpAny_field hz rfl (x:= .bool false) rfl ?_)
 refine Qb (m:=field (.ref z) 3) (wpAny_field hz rfl (x:= .ref TI) rfl ?_)
 refine Qb (Xu hTI rfl ?_)
 refine Qb (m:=Builtin.SmallTypes.ownedTupleIsFree (.ref z)) ?_
 unfold Builtin.SmallTypes.ownedTupleIsFree
 refine Qb (wpAny_field hz rfl (x:= .none) rfl (Za ?_))
 simp only [if_true]
 refine Qb (Wb ?_)
 refine Qb (wpAny_field hz rfl (x:= .ref TO) rfl ?_)
 refine Qb (wpAny_setField_rec hz (by simp) fun g1 y1 t1=> ?_)
 refine Qb ?_
 simp only [List.zipIdx_cons,List.zipIdx_nil,Yo,List.forIn_nil]
 refine Qb (Qb (wpAny_onRaise ?_))
 refine Qb (m:=Builtin.SmallTypes.nextOf (.ref i1)) (D1.item _ _ k x _ _ (D1.but h1 t1.extBut D.i1z D.l1z) hx fun g2 r2 t2=>Za ?_)
 have o2:IsPair g2 TO a b:=t2.extBut _ _ D.TOi1 (t1.extBut _ _ D.TOz hTO)
 have q2:S2 k g2:=D2.but (D2.but h2 t1.extBut D.i2z D.l2z) t2.extBut D.i12.symm D.l2i1
 refine Qb (Xu o2 rfl ?_)
 refine Qb (wpAny_updateSeq_pair o2 fun g3 o3 t3=> ?_)
 replace o3:IsPair g3 TO x b:=o3
 refine Qb (wpAny_letGo (Za ?_))
 refine Qb (Qb (wpAny_onRaise ?_))
 refine Qb (m:=Builtin.SmallTypes.nextOf (.ref i2)) (D2.item _ _ k y _ _ (D2.but q2 t3.extBut D.TOi2.symm D.l2TO) hy fun g4 r4 t4=>Za ?_)
 have o4:IsPair g4 TO x b:=t4.extBut _ _ D.TOi2 o3
 refine Qb (Xu o4 rfl ?_)
 refine Qb (wpAny_updateSeq_pair o4 fun g5 o5 t5=> ?_)
 replace o5:IsPair g5 TO x y:=o5
 refine Qb (wpAny_letGo (Za (Za ?_)))
 refine Qb (Xu o5 rfl ?_)
 refine Qb (wpAny_newTuple ?_)
 have sz:g5.objs.size=s.heap.objs.size:=by rw [t5.1,t4.1,t3.1,t2.1,t1.1]
 have y5:IsZip g5 z TI TO .ellipsis:=t5.extBut _ _ D.TOz.symm (t4.extBut _ _ D.i2z.symm (t3.extBut _ _ D.TOz.symm (t2.extBut _ _ D.i1z.symm y1)))
 have c5: ∀c o,c≠z->c≠TO->c≠i1->c≠i2->s.heap.get? c=some o->g5.get? c=some o:=fun c o n1 n2 n3 n4 e=>
  t5.extBut _ _ n2 (t4.extBut _ _ n4 (t3.extBut _ _ n2 (t2.extBut _ _ n3 (t1.extBut _ _ n1 e))))
 have r5:S1 (k+1) g5:=D1.but (D1.but (D1.but r2 t3.extBut D.TOi1.symm D.l1TO) t4.extBut D.i12 D.l1i2) t5.extBut D.TOi1.symm D.l1TO
 have p5:S2 (k+1) g5:=D2.but r4 t5.extBut D.TOi2.symm D.l2TO
 have hlt:z<g5.objs.size:=Zk y5
 refine Qb (m:=Builtin.SmallTypes.ownedTupleHandOut (.ref z) (.ref g5.objs.size)) ?_
 unfold Builtin.SmallTypes.ownedTupleHandOut
 refine Qb (wpAny_setField_rec (show IsZip (g5.push { cls:= .type "tuple",data:= .seq #[x,y] }) z TI TO .ellipsis from Zb _ y5) (by simp) fun g7 y7 t7=> ?_)
 replace y7:IsZip g7 z TI TO (rawInt g5.objs.size):=y7
 refine wpAny_setField_rec y7 (by simp) fun g8 y8 t8=> ?_
 replace y8:IsZip g8 z TI TO (rawInt g5.objs.size):=y8
 have up: ∀c o,c≠z->g5.get? c=some o->g8.get? c=some o:=fun c o n e=>t8.extBut _ _ n (t7.extBut _ _ n (Zb _ e))
 have w8:IsPair g8 g5.objs.size x y:=t8.extBut _ _ (Nat.ne_of_gt hlt) (t7.extBut _ _ (Nat.ne_of_gt hlt) (Zm _ rfl))
 rw [sz] at y8 w8
 refine Za ⟨_,rfl,Za ?_⟩
 show Q (some (.ref g5.objs.size)) _
 rw [sz]
 exact hQ g8 y8 (up _ _ D.TOz o5) (D1.keep _ _ _ r5 fun c hc o e=>up c o (by rcases hc with rfl | rfl;exact D.i1z;exact D.l1z) e) (D2.keep _ _ _ p5 fun c hc o e=>up c o (by rcases hc with rfl | rfl;exact D.i2z;exact D.l2z) e) w8 fun c o n1 n2 n3 n4 e=>up c o n1 (c5 c o n1 n2 n3 n4 e)
theorem yu {a b:Value} {Q:Option Value->Shared->Prop} (hh:A.handled=none) (D:ZipApart z TI TO i1 i2 l1 l2) (D1:Drw prog w i1 l1 xs S1) (D2:Drw prog w i2 l2 ys S2)
  (hz:IsZip s.heap z TI TO .none) (hTI:IsPair s.heap TI (.ref i1) (.ref i2)) (hTO:IsPair s.heap TO a b) (h1:S1 k s.heap) (h2:S2 k s.heap) (hend:xs[k]? =none\/ys[k]? =none)
  (hQ: ∀h',(∀c o,c≠z->c≠TO->c≠i1->c≠i2->s.heap.get? c=some o->h'.get? c=some o)->Q none { s with heap:=h' }):
  wpAny (model prog w) A (pyNext (.ref z)) Q E s:=by
 have hT:s.TypeIs (.ref z) "zip":=⟨_,hz,rfl⟩
 have fin: ∀h' e,(∀c o,c≠z->c≠TO->c≠i1->c≠i2->s.heap.get? c=some o->h'.get? c=some o)->(∃o,h'.get? e=some o/\o.cls= .type "StopIteration")->
   wpAny (model prog w) A (do if <- isInstance (.ref e) (.type "StopIteration") then pure none else throw (.ref e):Sem (Option Value)) Q E { s with heap:=h' }:=fun h' e kk he=>by
  obtain ⟨o,ho,hc⟩:=he
  exact Qb (Xm (T:="StopIteration") (b:=true) ⟨o,ho,hc⟩ isSubtype_stop (Za (hQ _ kk)))
 unfold pyNext
 refine Qb (wpAny_attempt (wpAny_callSpecial?_slot (name:=Str.ofString "__next__") hT F.slot_zip_next (Yy F.slot_zip_next hT F.entry_zip_next ?_ (F.args_zip_next_1 _))))
 refine Qb (m:=field (.ref z) 2) (wpAny_field hz rfl (x:= .bool false) rfl ?_)
 refine Qb (m:=field (.ref z) 3) (wpAny_field hz rfl (x:= .ref TI) rfl ?_)
 refine Qb (Xu hTI rfl ?_)
 refine Qb (m:=Builtin.SmallTypes.ownedTupleIsFree (.ref z)) ?_
 unfold Builtin.SmallTypes.ownedTupleIsFree
 refine Qb (wpAny_field hz rfl (x:= .none) rfl (Za ?_))
 simp only [if_true]
 refine Qb (Wb ?_)
 refine Qb (wpAny_field hz rfl (x:= .ref TO) rfl ?_)
 refine Qb (wpAny_setField_rec hz (by simp) fun g1 y1 t1=> ?_)
 refine Qb ?_
 simp only [List.zipIdx_cons,List.zipIdx_nil,Yo,List.forIn_nil]
 refine Qb (Qb (wpAny_onRaise ?_))
 replace y1:IsZip g1 z TI TO .ellipsis:=y1
 have r1:S1 k g1:=D1.but h1 t1.extBut D.i1z D.l1z
 cases hx:xs[k]? with
 | none=>
  refine Qb (m:=Builtin.SmallTypes.nextOf (.ref i1)) (D1.stop _ _ k _ _ hh r1 hx fun g2 e t2 he=> ?_)
  obtain ⟨oe,hoe,hce⟩:=he
  have y2:IsZip g2 z TI TO .ellipsis:=t2 _ _ D.i1z.symm y1
  have hez:e≠z:=fun q=>by subst q;rw [y2] at hoe;cases hoe;simp at hce
  exact wpAny_setField_rec y2 (by simp) fun g3 _ t3=>fin g3 e (fun c o n1 _ n3 _ q=>t3.extBut _ _ n1 (t2 _ _ n3 (t1.extBut _ _ n1 q))) ⟨oe,t3.extBut _ _ hez hoe,hce⟩
 | some x=>
  have hy:ys[k]? =none:=by rcases hend with q | q;rw [hx] at q;cases q;exact q
  refine Qb (m:=Builtin.SmallTypes.nextOf (.ref i1)) (D1.item _ _ k x _ _ r1 hx fun g2 r2 t2=>Za ?_)
  have o2:IsPair g2 TO a b:=t2.extBut _ _ D.TOi1 (t1.extBut _ _ D.TOz hTO)
  have q2:S2 k g2:=D2.but (D2.but h2 t1.extBut D.i2z D.l2z) t2.extBut D.i12.symm D.l2i1
  refine Qb (Xu o2 rfl ?_)
  refine Qb (wpAny_updateSeq_pair o2 fun g3 o3 t3=> ?_)
  refine Qb (wpAny_letGo (Za ?_))
  refine Qb (Qb (wpAny_onRaise ?_))
  refine Qb (m:=Builtin.SmallTypes.nextOf (.ref i2)) (D2.stop _ _ k _ _ hh (D2.but q2 t3.extBut D.TOi2.symm D.l2TO) hy fun g4 e t4 he=> ?_)
  obtain ⟨oe,hoe,hce⟩:=he
  have y4:IsZip g4 z TI TO .ellipsis:=t4 _ _ D.i2z.symm (t3.extBut _ _ D.TOz.symm (t2.extBut _ _ D.i1z.symm y1))
  have hez:e≠z:=fun q=>by subst q;rw [y4] at hoe;cases hoe;simp at hce
  exact wpAny_setField_rec y4 (by simp) fun g5 _ t5=>fin g5 e (fun c o n1 n2 n3 n4 q=>t5.extBut _ _ n1 (t4 _ _ n4 (t3.extBut _ _ n2 (t2.extBut _ _ n3 (t1.extBut _ _ n1 q))))) ⟨oe,t5.extBut _ _ hez hoe,hce⟩
end
noncomputable abbrev QL (h:Heap) (j1:Obj):Heap:=h.push j1
noncomputable abbrev QM (h:Heap) (j1 j2:Obj):Heap:=(QL h j1).push j2
noncomputable abbrev QQ (h:Heap) (j1 j2:Obj):Heap:=(QM h j1 j2).push { cls:= .type "tuple",data:= .seq #[.ref h.objs.size, .ref (QL h j1).objs.size] }
noncomputable abbrev QR (h:Heap) (j1 j2:Obj):Heap:=(QQ h j1 j2).push { cls:= .type "tuple",data:= .seq #[.none, .none] }
noncomputable abbrev Nf (h:Heap) (j1 j2:Obj):Heap:=(QR h j1 j2).push { cls:= .type "zip",data:= .fields #[.none, .bool false, .bool false, .ref (QM h j1 j2).objs.size, .ref (QQ h j1 j2).objs.size] }
noncomputable abbrev jM (l:Addr):Obj:={ cls:= .type "tuple_iterator",data:= .fields #[.ref l, .int 0 0] }
noncomputable def O6 (K:W.Frag) (a b:Addr):It:=
 ⟨fun i H=> ∃xs ys x y,SqT K H a xs/\SqL K H b ys/\xs[i]? =some x/\ys[i]? =some y,
  fun i H v H'=> ∃p x y,H p=none/\v= .ref p/\H'=upd H p (.tup [x,y])/\(∀xs,SqT K H a xs->xs[i]? =some x)/\ ∀ys,SqL K H b ys->ys[i]? =some y,
  fun i H=> ∃xs ys,SqT K H a xs/\SqL K H b ys/\(xs.length<=i\/ys.length<=i)⟩
structure ZipStT (z TI TO i1 i2 a b:Addr) (i:Nat) (h:Heap):Prop where
 hz:IsZip h z TI TO .none
 hTI:IsPair h TI (.ref i1) (.ref i2)
 hTO: ∃u v,IsPair h TO u v
 h1:h.IsTupleIter i1 a i
 h2:h.IsListIter i2 b i
 aTO:a≠TO
theorem iU {h:Heap} {a c:Addr} {o o':Obj} (e:h.get? a=some o) (e':h.get? c=some o') (n:o.cls≠o'.cls):a≠c:=fun q=>by
 subst q;rw [e] at e';cases e';exact n rfl
noncomputable def Su (K:W.Frag) (ta:TA):TI:=fun σ H R=>ta σ H fun vs H1=> ∃a b xs ys,vs=[.ref a, .ref b]/\SqT K H1 a xs/\SqL K H1 b ys/\R (O6 K a b) H1
noncomputable def O7 (lo:Int) (n:Nat):It:=⟨fun i _=>i<n,fun i H x H'=>H'=H/\x= .int (lo-i),fun i _=>n<=i⟩
noncomputable def Sv (ta:TA):TI:=fun σ H R=>ta σ H fun vs H1=> ∃i j:Int,vs=[.int i, .int j, .int (-1)]/\(-(2^62)<=i/\i<2^62/\ -(2^62)<=j/\j<2^62)/\R (O7 i (i-j).toNat) H1
noncomputable abbrev O8:R2:=fun x y H Q=> ∃i j,x= .str i/\y= .str j/\Q (.bl (decide (j.cps.toList<i.cps.toList))) H
noncomputable abbrev O9:R2:=fun x y H Q=> ∃i j,x= .str i/\y= .str j/\Q (.bl (!(decide (i.cps.toList<j.cps.toList)))) H
noncomputable def Oa (K:W.Frag) (a:Addr) (n:Nat):It where
 go:=fun i H=> ∃xs x,SqL K H a xs/\xs.length=n/\i<n/\xs[n-1-i]? =some x
 yld:=fun i H x H'=>H'=H/\ ∀ys,SqL K H a ys->ys[n-1-i]? =some x
 stop:=fun i _=>i=n
noncomputable def Sw (K:W.Frag) (ta:TA):TI:=fun σ H R=>ta σ H fun vs H1=> ∃a xs,vs=[.ref a]/\SqL K H1 a xs/\R (Oa K a xs.length) H1
end L2
end
section
namespace L2
open PySem PySem.Spec PyProof.Rows
section
variable {P:Program} {w:World} {H:Hp} {h:Heap} {a:Addr} {kvs:List (Key×V)} {od:Obj}
theorem HOk.freezeK (x:HOk P w H h) (ea:H a=some (.dK kvs)) (eo:h.get? a=some od):HOk P w (upd H a (.frz od (.dK kvs))) h:=by
 have keepO: ∀c y,H c=some (.own y)->upd H a (.frz od (.dK kvs)) c=some (.own y):=fun c y q=>by
  rw [aF (cO q ea (by intro z;cases z))];exact q
 have keepT: ∀c xs,H c=some (.tup xs)->upd H a (.frz od (.dK kvs)) c=some (.tup xs):=fun c xs q=>by
  rw [aF (cO q ea (by intro z;cases z))];exact q
 intro b u e
 by_cases hb:b=a
 ·rw [hb] at e ⊢
  rw [au] at e
  cases e
  exact ⟨eo,(x a _ ea).stay (fun c v _ q=>q) (fun c q=>keepO c _ q) fun c xs q=>keepT c xs q⟩
 ·rw [aF hb] at e
  exact (x b u e).stay (fun c v _ q=>q) (fun c q=>keepO c _ q) fun c xs q=>keepT c xs q
theorem pairs_at {knd:PySem.KeyKind P w Key}: ∀ {es:List DictEntry} {us:List (Key×Value)} (i:Nat) (e:DictEntry),Pairs knd es us->es[i]? =some e-> ∃u,us[i]? =some u/\knd.is u.1 e.key=true
 | _,_,0,e, .cons r _ _,h=>by
  simp only [List.getElem?_cons_zero,Option.some.injEq] at h
  subst h
  exact ⟨_,rfl,r⟩
 | _,_,i+1,e, .cons _ _ t,h=>by
  simp only [List.getElem?_cons_succ] at h
  obtain ⟨u,h1,h2⟩:=pairs_at i e t h
  exact ⟨u,by simpa using h1,h2⟩
theorem pairs_len {knd:PySem.KeyKind P w Key}: ∀ {es:List DictEntry} {us:List (Key×Value)},Pairs knd es us->es.length=us.length
 | _,_, .nil=>rfl
 | _,_, .cons _ _ t=>by simp only [Yv,pairs_len t]
end
theorem Ek {k:Key} {v:Value} (h:ie k v=true):RelV (kV k) v:=by
 rcases bA h with ⟨i,t,rfl,rfl⟩ | ⟨x,t,rfl,rfl⟩
 ·exact ⟨t,rfl⟩
 ·exact ⟨t,rfl⟩
theorem Inv.freezeK {X:Cx} {pins:List (Addr×Obj)} {σ:St} {H:Hp} {s:Shared} {a:Addr} {kvs:List (Key×V)} {od:Obj} (I:Inv X pins σ H s) (ea:H a=some (.dK kvs)) (eo:s.heap.get? a=some od):
  Inv X pins σ (upd H a (.frz od (.dK kvs))) s:=by
 refine I.call' (ch:=[]) rfl ⟨fun b o q _ _ _=>q,fun b o q _ _ _=>⟨o.slots,q⟩,fun b o q n _=> ?_,fun b o q _=>⟨o,q⟩,fun b xs q=> ?_,fun b o u q=> ?_,fun b ps q=>⟨#[],?_⟩⟩ (I.hok.freezeK ea eo) I.bare fun b hb=>nomatch hb
 ·rw [aF (fun z=>by rw [z,ea] at n;cases n)];exact n
 ·rw [aF (cO q ea (by intro z;cases z))];exact q
 ·rw [aF (cO q ea (by intro z;cases z))];exact q
 ·rw [aF (cO q ea (by intro z;cases z)),q];simp
noncomputable def vW (od:Obj) (a:Addr):It where
 go:=fun i H=> ∃kvs,H a=some (.frz od (.dK kvs))/\i<kvs.length
 yld:=fun i H v H'=>H'=H/\ ∀kvs,H a=some (.frz od (.dK kvs))-> ∃k x,kvs[i]? =some (k,x)/\v=kV k
 stop:=fun i H=> ∃kvs,H a=some (.frz od (.dK kvs))/\kvs.length<=i
theorem jN {P:Program} {w:World} {K:W.Frag} {tg:Expr} (it a:Addr) {od:Obj} {es:Array DictEntry} {ep:Nat} (hdd:od.data= .dict es ep):Turn P w K tg (vW od a) [it] it (fun i h=>h.IsKeyIter it a i es.size ep) where
 mem:=by simp
 obj:=fun i h st b hb=>by
  obtain ⟨o,e,c,d⟩:=st
  have e':b=it:=by simpa using hb
  rw [e']
  exact ⟨o,e,fun v z=>by rw [d] at z;cases z⟩
 keep:=fun i h h' st k=>by
  obtain ⟨o,e,r⟩:=st
  exact ⟨o,k it (by simp) o e,r⟩
 item:=by
  intro X hP hw hK hc i pins s σ H E I hf st hg
  subst hP hw hK
  obtain ⟨kvs,ea,hi⟩:=hg
  obtain ⟨eo,_,_,us,rel,o,es',ep',e1,_,e3,_,e4,_⟩:=(show ObjOk X.prog X.w H s.heap a (.frz od (.dK kvs)) from I.hok a _ ea)
  rw [eo] at e1
  cases e1
  rw [hdd] at e3
  cases e3
  have hsz:es.size=us.length:=by rw [<- Yd];exact pairs_len e4
  have hl:kvs.length=us.length:=Paired.length rel
  obtain ⟨f0,f1,f2,f3,f4,f5⟩:=hf it (by simp)
  refine pB st eo hdd (by rfl') fun h' st' hs=> ?_
  have I1:Inv X pins σ H { s with heap:=h',toks:=s.toks }:=I.turned (fun b o hb e=>hs.extBut b o hb e) f0 f1 f3 f4 f5
  obtain ⟨o,e,hcl,d⟩:=id st'
  obtain ⟨⟨k,x⟩,⟨k',y⟩,hk,hx,r1,_⟩:=lW i rel hi
  have hes:RelV (kV k) (es[i]'(by rfl')).key:=by
   obtain ⟨u,h1,h2⟩:=pairs_at i (es[i]'(by rfl')) e4 (by rw [Yr,Zi])
   rw [hx] at h1
   cases h1
   rw [qH] at h2
   rw [show k=k' from r1]
   exact Ek h2
  refine ⟨_,rfl,u6 (s:={ s with heap:=h' }) e hcl d (by decide) ⟨kV k,H,I1,hes,⟨rfl,fun kvs' q=> ?_⟩,st',fun b hb=>(hf b hb).1⟩⟩
  rw [ea] at q
  cases q
  exact ⟨k,x,hk,rfl⟩
 done:=by
  intro X hP hw hK hc i pins s σ H E I hf st hg
  subst hP hw hK
  obtain ⟨kvs,ea,hi⟩:=hg
  obtain ⟨eo,_,_,us,rel,o,es',ep',e1,_,e3,_,e4,_⟩:=(show ObjOk X.prog X.w H s.heap a (.frz od (.dK kvs)) from I.hok a _ ea)
  rw [eo] at e1
  cases e1
  rw [hdd] at e3
  cases e3
  have hsz:es.size=us.length:=by rw [<- Yd];exact pairs_len e4
  have hl:kvs.length=us.length:=Paired.length rel
  obtain ⟨f0,f1,f2,f3,f4,f5⟩:=hf it (by simp)
  exact uv (I.ok.hd hc) st eo hdd (by rfl') fun h' kk=>⟨rfl,I.turned (t':=s.toks) (fun b o hb e=>kk b o hb e) f0 f1 f3 f4 f5⟩
 self:=fun _ _ _ _ _ st h=>wpAny_pyIter_keyiter st h
noncomputable def rK (tl:TE):TI:=fun σ H R=>tl σ H fun x H1=> ∃a kvs,x= .ref a/\((H1 a=some (.dK kvs)/\ ∀od,R (vW od a) (upd H1 a (.frz od (.dK kvs))))\/ ∃od,H1 a=some (.frz od (.dK kvs))/\R (vW od a) H1)
theorem yw {X:Cx} {tg l:Expr} {tl:TE} (hl:PE X l tl):PI X tg l (rK tl):=by
 intro pins s σ H R I h
 refine bI (hl pins s σ H _ I h) fun v s1 ⟨x,H1,I1,r1,q1⟩=> ?_
 obtain ⟨a,kvs,rfl,q⟩:=q1
 cases r1
 rcases q with ⟨ea,q⟩ | ⟨od,ea,q⟩
 ·obtain ⟨_,hsm,us,rel,o,es,ep,e1,ex,e3,_,e4,_⟩:=(show ObjOk X.prog X.w H1 s1.heap a (.dK kvs) from I1.hok a _ ea)
  refine jH hsm ⟨o,e1,ex.1⟩ e1 e3 ?_
  have IF:=I1.freezeK ea e1
  refine ⟨s1.heap.objs.size,[s1.heap.objs.size],_,_,_,rfl,IF.kept (t':=s1.toks) fun b o e=>Zb _ e,jN _ a e3,⟨_,Zm _ rfl,rfl,rfl⟩,fun b hb=> ?_,q o⟩
  rw [Zf.mp hb]
  exact IF.fpOk (Zh _) (IF.hok.fresh (Zh _))
 ·obtain ⟨eo,_,hsm,us,rel,o,es,ep,e1,ex,e3,_,e4,_⟩:=(show ObjOk X.prog X.w H1 s1.heap a (.frz od (.dK kvs)) from I1.hok a _ ea)
  rw [eo] at e1
  cases e1
  refine jH hsm ⟨od,eo,ex.1⟩ eo e3 ?_
  refine ⟨s1.heap.objs.size,[s1.heap.objs.size],_,_,_,rfl,I1.kept (t':=s1.toks) fun b o e=>Zb _ e,jN _ a e3,⟨_,Zm _ rfl,rfl,rfl⟩,fun b hb=> ?_,q⟩
  rw [Zf.mp hb]
  exact I1.fpOk (Zh _) (I1.hok.fresh (Zh _))
end L2
end
section
namespace L2
open PySem PySem.Spec PyProof.Rows
noncomputable def JC (K:W.Frag):V->List V->Hp->VK->Prop:=fun x vs H Q=> ∃ (s:Str) (a:Addr) (ys:List Str),x= .str s/\vs=[.ref a]/\SqL K H a (ys.map V.str)/\(ys.map (·.length)).sum+ys.length*s.length<=16777216/\Q (.str (Txt.join s ys.reverse)) H
section
variable {X:Cx}
noncomputable def U6 (K:W.Frag) (to:TE) (t:TA):TE:=fun σ H Q=>to σ H fun x H1=>Nb K "str" x H1/\t σ H1 fun xs H2=>JC K x xs H2 Q
end
end L2
end
section
namespace L2
open PySem PySem.Spec PyProof.Rows
noncomputable def Rh (B:Heap) (l:List Env) (x:Addr) (C a0:Value) (h:Heap):Prop:=B.StaysIn h/\B.get? x=none/\h.FunFrames B l/\ ∃fl,h.TracedAtW B x C a0 fl
structure Air (P:Program) (w:World) (fp:List Addr) (outer:List Env) (H:Hp) (s:Shared) (E:XK) (x:Addr) (C a0:Value) (B:Heap) (H':Hp) (s':Shared):Prop where
 os:s'.os=s.os
 bare:AllBare s'.gens
 un:Un (frs outer) fp H H' s.heap s'.heap
 hok:HOk P w H' s'.heap
 nx:H' x=none
 air:Rh B outer x C a0 s'.heap
 new:x∈fp\/s.heap.get? x=none
 d1: ∀b o,s.heap.get? b=some o->b∉frs outer->b∉fp-> ∃u,B.get? b=some u
 d2: ∀b o,H' b=some o-> ∃u,B.get? b=some u
 ex:E C none H'
end L2
end
section
namespace PySem
open PyProof.Rows
section
variable {prog:Program} {w:World} {A:Around} {E:Value->Shared->Prop} {s:Shared}
noncomputable def Heap.IsRevT (h:Heap) (a t:Addr) (i:Int):Prop:= ∃o,h.get? a=some o/\o.cls= .type "reversed"/\o.data= .fields #[.ref t,rawInt i]
end
end PySem
namespace L2
open PySem PySem.Spec PyProof.Rows
noncomputable def Ob (K:W.Frag) (a:Addr) (n:Nat):It where
 go:=fun i H=> ∃xs x,SqT K H a xs/\xs.length=n/\i<n/\xs[n-1-i]? =some x
 yld:=fun i H x H'=>H'=H/\ ∀ys,SqT K H a ys->ys[n-1-i]? =some x
 stop:=fun i _=>i=n
noncomputable def SJ (K:W.Frag) (ta:TA):TI:=fun σ H R=>ta σ H fun vs H1=> ∃a xs,vs=[.ref a]/\SqT K H1 a xs/\R (Ob K a xs.length) H1
end L2
end
section
namespace L2
open PySem PySem.Spec PyProof.Rows
noncomputable def SM (K:W.Frag) (a:Addr) (o:Nat):It:=
 ⟨fun i H=> ∃xs x,SqL K H a xs/\xs[i]? =some x,
  fun i H v H'=> ∃p x,H p=none/\v= .ref p/\H'=upd H p (.tup [.int ((i+o:Nat):Int),x])/\ ∀xs,SqL K H a xs->xs[i]? =some x,
  fun i H=> ∃xs,SqL K H a xs/\xs.length=i⟩
structure EnSf (e it a:Addr) (o i:Nat) (h:Heap):Prop where
 he: ∃old,IsEnum h e it ((i+o:Nat):Int) old
 h1:h.IsListIter it a i
noncomputable def Ri (K:W.Frag) (ta tk:TA):TI:=fun σ H R=>ta σ H fun vs H1=>tk σ H1 fun ks H2=> ∃a xs o,vs=[.ref a]/\ks=[.int ((o:Nat):Int)]/\o<=1000000000/\SqL K H2 a xs/\R (SM K a o) H2
end L2
end
section
namespace L2
open PySem PySem.Spec PyProof.Rows
noncomputable def U7 (r:V->V->Hp->VK->Prop) (ta tk:TA):TE:=fun σ H Q=>ta σ H fun vs H1=>tk σ H1 fun ks H2=> ∃x y,vs=[x]/\ks=[y]/\r x y H2 Q
end L2
end
section
namespace L2
open PySem PySem.Spec PyProof.Rows
theorem nA (l1 l2:Addr) (xs ys:Array Value):
  Meets (Builtin.«zip.__new__» ⟨[.type "zip", .ref l1, .ref l2],[]⟩) (fun _ R s=>s.heap.IsTuple l1 xs/\s.heap.IsTuple l2 ys/\
   R (.ok (.ret (.ref (QR s.heap (jM l1) (jM l2)).objs.size))) { s with heap:=Nf s.heap (jM l1) (jM l2) }):=
 .of_wp fun prog w A R s h=>by
  obtain ⟨hp,g,d,tk,os⟩:=s
  obtain ⟨k1,k2,h⟩:=h
  have hsub:=sub_zip
  have e1:Heap.IsTuple (Shared.heap ⟨hp,g,d,tk,os⟩) l1 xs:=k1
  have e2:Heap.IsTuple (Shared.heap ⟨hp.push (jM l1),g,d,tk,os⟩) l2 ys:=Heap.IsTuple.push k2 _
  wp_walk using wpAny_pyIter_tuple e1,wpAny_pyIter_tuple e2
  exact ⟨_,rfl,h⟩
theorem pH {prog:Program} {w:World} {A:Around} {E:Value->Shared->Prop} {s:Shared} {l1 l2:Addr} {xs ys:Array Value} {Q:Value->Shared->Prop} (k1:s.heap.IsTuple l1 xs) (k2:s.heap.IsTuple l2 ys)
  (h: ∀h',IsZip h' (s.heap.objs.size+4) (s.heap.objs.size+2) (s.heap.objs.size+3) .none->IsPair h' (s.heap.objs.size+2) (.ref s.heap.objs.size) (.ref (s.heap.objs.size+1))->
   IsPair h' (s.heap.objs.size+3) .none .none->h'.IsTupleIter s.heap.objs.size l1 0->h'.IsTupleIter (s.heap.objs.size+1) l2 0->
   (∀c o,s.heap.get? c=some o->h'.get? c=some o)->Q (.ref (s.heap.objs.size+4)) { s with heap:=h' }):
  wpAny (model prog w) A (call (.type "zip") [.ref l1, .ref l2]) Q E s:=by
 refine callType_new F.called_zip (by decide) (F.typeCall_zip_2 _ _) (F.newCall_zip_2 _ _) (fun obj=>F.args_object_init_3 obj _ _) F.entry_zip_new (nA l1 l2 xs ys) ⟨k1,k2,?_⟩
 generalize hj1:jM l1=j1
 generalize hj2:jM l2=j2
 have f1:Obj.isFreed j1=false:=by rw [<- hj1];rfl
 have f2:Obj.isFreed j2=false:=by rw [<- hj2];rfl
 have z1:(QL s.heap j1).objs.size=s.heap.objs.size+1:=Heap.size_push ..
 have z2:(QM s.heap j1 j2).objs.size=s.heap.objs.size+2:=by rw [Heap.size_push,z1]
 have z3:(QQ s.heap j1 j2).objs.size=s.heap.objs.size+3:=by rw [Heap.size_push,z2]
 have z4:(QR s.heap j1 j2).objs.size=s.heap.objs.size+4:=by rw [Heap.size_push,z3]
 have up: ∀ {c o} {h:Heap} {u:Obj},h.get? c=some o->(h.push u).get? c=some o:=fun e=>Zb _ e
 have g5:(Nf s.heap j1 j2).get? (QR s.heap j1 j2).objs.size=some _:=Zm _ rfl
 have g4:(Nf s.heap j1 j2).get? (QQ s.heap j1 j2).objs.size=some _:=up (Zm _ rfl)
 have g3:(Nf s.heap j1 j2).get? (QM s.heap j1 j2).objs.size=some _:=up (up (Zm _ rfl))
 have g2:(Nf s.heap j1 j2).get? (QL s.heap j1).objs.size=some j2:=up (up (up (Zm _ f2)))
 have g1:(Nf s.heap j1 j2).get? s.heap.objs.size=some j1:=up (up (up (up (Zm _ f1))))
 show _/\_
 rw [z2,z3,z4] at g5
 rw [z1,z2] at g3
 rw [z3] at g4
 rw [z1] at g2
 rw [z4]
 exact ⟨⟨_,g5,rfl⟩,h _ g5 g3 g4 ⟨_,g1,by subst hj1;rfl,by subst hj1;rfl⟩ ⟨_,g2,by subst hj2;rfl,by subst hj2;rfl⟩ fun c o x=>up (up (up (up (up x))))⟩
noncomputable def JD (K:W.Frag) (a b:Addr):It:=
 ⟨fun i H=> ∃xs ys x y,SqT K H a xs/\SqT K H b ys/\xs[i]? =some x/\ys[i]? =some y,
  fun i H v H'=> ∃p x y,H p=none/\v= .ref p/\H'=upd H p (.tup [x,y])/\(∀xs,SqT K H a xs->xs[i]? =some x)/\ ∀ys,SqT K H b ys->ys[i]? =some y,
  fun i H=> ∃xs ys,SqT K H a xs/\SqT K H b ys/\(xs.length<=i\/ys.length<=i)⟩
structure ZipStU (z TI TO i1 i2 a b:Addr) (i:Nat) (h:Heap):Prop where
 hz:IsZip h z TI TO .none
 hTI:IsPair h TI (.ref i1) (.ref i2)
 hTO: ∃u v,IsPair h TO u v
 h1:h.IsTupleIter i1 a i
 h2:h.IsTupleIter i2 b i
 aTO:a≠TO
 bTO:b≠TO
theorem jO {X:Cx} {pins:List (Addr×Obj)} {σ:St} {H:Hp} {s:Shared} {a b z TI TO i1 i2:Addr} {i:Nat} {xs ys:List V} (D:ZipNe z TI TO i1 i2) (I:Inv X pins σ H s) (hxs:SqT X.K H a xs) (hys:SqT X.K H b ys) (st:ZipStU z TI TO i1 i2 a b i s.heap):ZipApart z TI TO i1 i2 a b:=by
 obtain ⟨hz,hTI,⟨u0,v0,hTO⟩,⟨o1,e1,c1,_⟩,⟨o2,e2,c2,_⟩,aTO,bTO⟩:=st
 obtain ⟨its,rv,⟨oa,ea,ca,_⟩,_⟩:=I.tuple hxs
 obtain ⟨its2,rv2,⟨ob,eb,cb,_⟩,_⟩:=I.tuple hys
 exact ⟨D.TIz,D.TOz,D.i1z,D.i2z,D.TITO,D.TIi1,D.TIi2,D.TOi1,D.TOi2,D.i12,
  iU ea hz (by rw [ca];show Value.type "tuple"≠Value.type "zip";decide),aTO,iU ea e1 (by rw [ca,c1];decide),iU ea e2 (by rw [ca,c2];decide),
  iU eb hz (by rw [cb];show Value.type "tuple"≠Value.type "zip";decide),bTO,iU eb e1 (by rw [cb,c1];decide),iU eb e2 (by rw [cb,c2];decide)⟩
theorem vX {P:Program} {w:World} {K:W.Frag} {elts:List Expr} {k:Nat} {tpos:Pos} {z TI TO i1 i2:Addr} (a b:Addr) (D:ZipNe z TI TO i1 i2):
  Turn P w K (.Tuple elts k tpos) (JD K a b) [z,TI,TO,i1,i2] z (ZipStU z TI TO i1 i2 a b) where
 mem:=by simp
 obj:=fun i h st c hc=>by
  obtain ⟨hz,hTI,⟨u,v,hTO⟩,⟨o1,e1,c1,d1⟩,⟨o2,e2,c2,d2⟩,_,_⟩:=st
  simp only [Zu,Xb,or_false] at hc
  rcases hc with rfl | rfl | rfl | rfl | rfl
  ·exact ⟨_,hz,fun v z=>by cases z⟩
  ·exact ⟨_,hTI,fun v z=>by cases z⟩
  ·exact ⟨_,hTO,fun v z=>by cases z⟩
  ·exact ⟨o1,e1,fun v z=>by rw [d1] at z;cases z⟩
  ·exact ⟨o2,e2,fun v z=>by rw [d2] at z;cases z⟩
 keep:=fun i h h' st kk=>by
  obtain ⟨hz,hTI,⟨u,v,hTO⟩,h1,h2,aTO,bTO⟩:=st
  exact ⟨kk z (by simp) _ hz,kk TI (by simp) _ hTI,⟨u,v,kk TO (by simp) _ hTO⟩,h1.at fun o e=>kk i1 (by simp) o e,h2.at fun o e=>kk i2 (by simp) o e,aTO,bTO⟩
 item:=by
  intro X hP hw hK hc i pins s σ H E I hf st hg
  subst hP hw hK
  obtain ⟨xs,ys,x,y,hxs,hys,hx,hy⟩:=hg
  have DA:=jO D I hxs hys st
  obtain ⟨its,rv,p,_⟩:=I.tuple hxs
  obtain ⟨its2,rv2,p2,_⟩:=I.tuple hys
  obtain ⟨u,hu,ru⟩:=rv.get hx
  obtain ⟨v,hv,rv'⟩:=rv2.get hy
  obtain ⟨hz,hTI,⟨u0,v0,hTO⟩,h1,h2,aTO,bTO⟩:=id st
  refine vV DA (jm DA.l1i1) (jm DA.l2i2) hz hTI hTO ⟨h1,(show s.heap.IsTuple a its.toArray from p)⟩ ⟨h2,(show s.heap.IsTuple b its2.toArray from p2)⟩ (x:=u) (y:=v) (by simpa using hu) (by simpa using hv) fun h' a1 a2 a3 a4 a5 a7=> ?_
  refine ⟨_,rfl,wpAny_letOwnedTupleGo_zip a1 fun h'' b1 hs=> ?_⟩
  have hT:s.heap.objs.size≠z:=Nat.ne_of_gt (Zk hz)
  have kk: ∀c o,c∉[z,TI,TO,i1,i2]->s.heap.get? c=some o->h''.get? c=some o:=fun c o hc' e=>by
   simp only [Zu,Xb,or_false,not_or] at hc'
   exact hs.extBut _ _ hc'.1 (a7 c o hc'.1 hc'.2.2.1 hc'.2.2.2.1 hc'.2.2.2.2 e)
  have I1:Inv X pins σ H { s with heap:=h'',toks:=s.toks }:=I.turnedAll kk hf
  have hnew:H s.heap.objs.size=none:=I.hok.fresh (Zh _)
  have e5:h''.get? s.heap.objs.size=some { cls:= .type "tuple",data:= .seq #[u,v] }:=hs.extBut _ _ hT a5
  have hTI':IsPair h'' TI (.ref i1) (.ref i2):=hs.extBut _ _ D.TIz (a7 _ _ D.TIz D.TITO D.TIi1 D.TIi2 hTI)
  have un:Un (frs X.stack) [z,TI,TO,i1,i2] H (upd H s.heap.objs.size (.tup [x,y])) s.heap h'':=
   ⟨fun b o q _ _ hx=>kk b o hx q,fun b o q _ _ hx=>⟨o.slots,kk b o hx q⟩,fun b o q n _=>by rw [aF (Yh (Zk q))];exact n,fun b o q hx=>⟨o,kk b o hx q⟩,
    fun b xs q=>by rw [aF (aR q hnew)];exact q,fun b o x q=>by rw [aF (aR q hnew)];exact q,fun b ps q=>⟨#[],by rw [aF (aR q hnew),q];simp⟩⟩
  have hok:HOk X.prog X.w (upd H s.heap.objs.size (.tup [x,y])) h'':=HOk.track I1.hok hnew ⟨by show 2<=sizeLine;decide,[u,v], .cons ru (.cons rv' .nil),_,e5,rfl,_,rfl⟩
  have I2:Inv X pins σ (upd H s.heap.objs.size (.tup [x,y])) { s with heap:=h'' }:=I.call' (s':={ s with heap:=h'' }) rfl un hok I.bare fun c hc'=>⟨(hf c hc').2.2.2.1,(hf c hc').2.1,(hf c hc').2.2.2.2⟩
  refine ⟨.ref s.heap.objs.size,_,I2,rfl,⟨_,x,y,hnew,rfl,rfl,fun xs' h=>by rw [I.tuple_inj h hxs];exact hx,fun ys' h=>by rw [I.tuple_inj h hys];exact hy⟩,⟨b1,hTI',⟨u,v,hs.extBut _ _ D.TOz a2⟩,a3.1.extBut hs.extBut D.i1z,a4.1.extBut hs.extBut D.i2z,aTO,bTO⟩,fun c hc'=> ?_⟩
  have hlt:c<s.heap.objs.size:=by
   obtain ⟨⟨o1,e1,_⟩,⟨o2,e2,_⟩⟩:=(⟨h1,h2⟩:_/\_)
   simp only [Zu,Xb,or_false] at hc'
   rcases hc' with rfl | rfl | rfl | rfl | rfl
   ·exact Zk hz
   ·exact Zk hTI
   ·exact Zk hTO
   ·exact Zk e1
   ·exact Zk e2
  rw [aF (Yh hlt)]
  exact (hf c hc').1
 done:=by
  intro X hP hw hK hc i pins s σ H E I hf st hg
  subst hP hw hK
  obtain ⟨xs,ys,hxs,hys,hend⟩:=hg
  have DA:=jO D I hxs hys st
  obtain ⟨its,rv,p,_⟩:=I.tuple hxs
  obtain ⟨its2,rv2,p2,_⟩:=I.tuple hys
  obtain ⟨hz,hTI,⟨u0,v0,hTO⟩,h1,h2,aTO,bTO⟩:=id st
  have hl1:=rv.length
  have hl2:=rv2.length
  refine yu (I.ok.hd hc) DA (jm DA.l1i1) (jm DA.l2i2) hz hTI hTO ⟨h1,(show s.heap.IsTuple a its.toArray from p)⟩ ⟨h2,(show s.heap.IsTuple b its2.toArray from p2)⟩ ?_ fun h' kk=> ?_
  ·rcases hend with q | q
   ·left;simp;rfl'
   ·right;simp;rfl'
  ·refine ⟨rfl,I.turnedAll (t':=s.toks) (fun c o hc' e=> ?_) hf⟩
   simp only [Zu,Xb,or_false,not_or] at hc'
   exact kk c o hc'.1 hc'.2.2.1 hc'.2.2.2.1 hc'.2.2.2.2 e
 self:=fun _ _ _ _ _ st h=>wpAny_pyIter_zip st.hz h
noncomputable def uy (K:W.Frag) (ta:TA):TI:=fun σ H R=>ta σ H fun vs H1=> ∃a b xs ys,vs=[.ref a, .ref b]/\SqT K H1 a xs/\SqT K H1 b ys/\R (JD K a b) H1
theorem El {X:Cx} {elts:List Expr} {k:Nat} {tpos:Pos} {a b:Expr} {ta:TA} {p pos:Pos} (hg:Gl X "zip") (hc:X.calm=true) (hm:X.mg "zip"=none) (ha:PA X [a,b] ta) (hs:starEach [a,b] X.env=[(false,eval a X.env),(false,eval b X.env)]:=by rfl) (hs2:starEach [b] X.env=[(false,eval b X.env)]:=by rfl):
  PI X (.Tuple elts k tpos) (.Call (.Name "zip" p) [a,b] [] pos) (uy X.K ta):=by
 intro pins s σ H R I h
 refine Call_ (dW I hg hm (show bootBuiltins "zip"=some (.type "zip") by decide+kernel) (Wc (bI (ha pos pins s σ H _ I h) fun us s1 ⟨vs,H1,I1,r1,q1⟩=> ?_) (by rw [hs,hs2]) (by rw [hs2];rfl)))
 obtain ⟨la,lb,xs,ys,e,hxs,hys,q⟩:=q1
 subst e
 cases r1 with
 | cons r rr=>
  cases rr with
  | cons r' rr=>
   cases rr
   cases r
   cases r'
   obtain ⟨its,rv,p1,_⟩:=I1.tuple hxs
   obtain ⟨its2,rv2,p2,_⟩:=I1.tuple hys
   have hla:la<s1.heap.objs.size:=by obtain ⟨o,e,_⟩:=p1;exact Zk e
   have hlb:lb<s1.heap.objs.size:=by obtain ⟨o,e,_⟩:=p2;exact Zk e
   refine pH (show s1.heap.IsTuple la its.toArray from p1) (show s1.heap.IsTuple lb its2.toArray from p2) fun h' z1 z2 z3 z4 z5 kk=> ?_
   refine wpAny_pyIter_zip z1 ?_
   refine ⟨s1.heap.objs.size+4,[s1.heap.objs.size+4,s1.heap.objs.size+2,s1.heap.objs.size+3,s1.heap.objs.size,s1.heap.objs.size+1],_,_,H1,rfl,I1.kept (t':=s1.toks) kk,vX la lb ⟨?_,?_,?_,?_,?_,?_,?_,?_,?_,?_⟩,⟨z1,z2,⟨_,_,z3⟩,z4,z5,Yh (Zz hla (Nat.le_add_right _ _)),Yh (Zz hlb (Nat.le_add_right _ _))⟩,fun c hc'=> ?_,q⟩
   all_goals first
    | (show (_:Nat)≠_;rfl')
    | skip
   have hle:s1.heap.objs.size<=c:=by
    simp only [Zu,Xb,or_false] at hc'
    rcases hc' with rfl | rfl | rfl | rfl | rfl<;>(show (_:Nat)<=_;rfl')
   exact I1.fpOk hle (I1.hok.fresh hle)
theorem yx {X:Cx} {elts:List Expr} {k:Nat} {tpos:Pos} {a b:Expr} {ta:TA} {p pos:Pos} (K:W.Frag) (hK:X.K=K) (hg:Gl X "zip") (hc:X.calm=true) (hm:X.mg "zip"=none) (ha:PA X [a,b] ta) (hs:starEach [a,b] X.env=[(false,eval a X.env),(false,eval b X.env)]:=by rfl) (hs2:starEach [b] X.env=[(false,eval b X.env)]:=by rfl):
  PI X (.Tuple elts k tpos) (.Call (.Name "zip" p) [a,b] [] pos) (uy K ta):=by subst hK;exact El hg hc hm ha hs hs2
end L2
end
section
namespace L2
open PySem PySem.Spec PyProof.Rows
theorem pI {prog:Program} {w:World} {A:Around} {E:Value->Shared->Prop} {s:Shared} {r:Addr} {m:Int} {t u v:Tok} {n:Nat} {R:List Value->Shared->Prop}
  (hh:A.handled=none) (hr:IsRange s.heap r 0 m 1 t u v) (hs:Builtin.Range.small 0 m 1=true) (hn:Builtin.Range.rangeSize 0 m 1=n) (hl:n<=2^24)
  (h: ∀ (h':Heap) (tk:Nat) (vs:List Value),(∀b o,s.heap.get? b=some o->h'.get? b=some o)->s.heap.objs.size<=h'.objs.size->vs.length=n->(∀ (j:Nat) x,vs[j]? =some x-> ∃t,x= .int (0+(j:Int)*1) t)->R vs { s with heap:=h',toks:=tk }):
  wpAny (model prog w) A (collect (.ref r)) R E s:=by
 unfold collect
 refine Qb (wpAny_runValue (Wo entry_proto_collect' ?_))
 rw [Xw PySem.F.plain_proto_collect _]
 show wpAny _ A.in1 (newList [] >>= fun l=>again (.builtin "list.__iadd__" ⟨[l, .ref r],[]⟩)) _ _ s
 refine Qb (Xc (Za ⟨plainId_quiet PySem.F.plain_list_iadd _,Wo entry_list_iadd' ?_⟩))
 rw [Xw PySem.F.plain_list_iadd _]
 have e1:(s.heap.push { cls:= .type "list",data:= .seq ([]:List Value).toArray }).get? s.heap.objs.size=some { cls:= .type "list",data:= .seq #[] }:=Zm _ rfl
 show wpAny _ A.in1 (Builtin.List.listExtendWith (.ref s.heap.objs.size) (.ref r) (.ref s.heap.objs.size)) _ _ _
 have key:=wpAny_extend_range (prog:=prog) (w:=w) (A:=A) (s:={ s with heap:=s.heap.push { cls:= .type "list",data:= .seq ([]:List Value).toArray } })
  (R:=fun (q:Result) (s':Shared)=> ∃ (h':Heap) (tk:Nat) (acc:Array Value) (c:Nat),q= .ok (.ret (.ref s.heap.objs.size))/\s'={ s with heap:=h',toks:=tk }/\(∀b o,s.heap.get? b=some o->h'.get? b=some o)/\h'.get? s.heap.objs.size=some { cls:= .type "list",dict:=none,data:= .seq acc c,slots:= #[] }/\ItemsOf (fun i v=> ∃t,v= .int (0+(i:Int)*1) t) acc n)
  hh (Zb _ hr) hs hn hl s.heap.objs.size (.ref s.heap.objs.size) 0 e1
  (fun h' tk acc c hk hS ha=>⟨h',tk,acc,c,rfl,rfl,fun b o e=>hk b o (Yh (Zk e)) (Zb _ e),hS,ha⟩)
 have fin: ∀ {h':Heap} {tk:Nat} {acc:Array Value} {c:Nat},(∀b o,s.heap.get? b=some o->h'.get? b=some o)->h'.get? s.heap.objs.size=some { cls:= .type "list",dict:=none,data:= .seq acc c,slots:= #[] }->ItemsOf (fun i v=> ∃t,v= .int (0+(i:Int)*1) t) acc n->R acc.toList { s with heap:=h',toks:=tk }:=fun {h' tk acc c} hk hS ha=>
  h h' tk acc.toList hk (Xq (Zk hS)) (by rw [Yd];exact ha.1) fun j x hj=>ha.2 j x (by rw [<- Yr];exact hj)
 refine Xz key (fun f s' x=> ?_) fun e s' x=> ?_
 ·cases f with
  | done f=>
   obtain ⟨h',tk,acc,c,e,rfl,hk,hS,ha⟩:=x
   cases e
   show wpAny _ A (load s.heap.objs.size >>= _) _ _ _
   exact Qb (wpAny_load hS (Za (fin hk hS ha)))
  | again c1=>
   refine ⟨x.1,codeAny_mono x.2 fun q s2 y=> ?_⟩
   obtain ⟨h',tk,acc,c,rfl,rfl,hk,hS,ha⟩:=y
   show wpAny _ A (load s.heap.objs.size >>= _) _ _ _
   exact Qb (wpAny_load hS (Za (fin hk hS ha)))
 ·obtain ⟨_,_,_,_,e',_⟩:=x
  cases e'
theorem lF (r:Addr) (m:Int) (t u v:Tok) (n:Nat) (hs:Builtin.Range.small 0 m 1=true) (hn:Builtin.Range.rangeSize 0 m 1=n) (hl:n<=2^24):
  Meets (Builtin.«tuple.__new__» ⟨[.type "tuple", .ref r],[]⟩) (fun A R s=>A.handled=none/\IsRange s.heap r 0 m 1 t u v/\ ∀ (h':Heap) (tk:Nat) (vs:List Value),(∀b o,s.heap.get? b=some o->h'.get? b=some o)->vs.length=n->(∀ (j:Nat) x,vs[j]? =some x-> ∃t,x= .int (0+(j:Int)*1) t)->
   R (.ok (.ret (.ref h'.objs.size))) { s with heap:=h'.push { cls:= .type "tuple",data:= .seq vs.toArray },toks:=tk }):=
 .of_wp fun prog w A R s ⟨hh,hr,h⟩=>by
  have hsub:=sub_tuple_self
  have hinit:=init_tuple_lookup
  have hmh:=madeHere_tuple
  have hT:s.TypeIs (.ref r) "range":=⟨_,hr,rfl⟩
  have hh1:A.in1.handled=none:=hh
  wp_walk using wpAny_typeOf hT,pI (A:=A.in1) hh1 hr hs hn hl
  intro h' tk vs hk _ hv hx
  refine Qb (Za ?_)
  show wpAny _ _ (Builtin.Tuple.tupleExact vs.toArray >>= fun v=>ret v) _ _ _
  unfold Builtin.Tuple.tupleExact
  refine Qb (Xc ?_ (show vs.toArray.size<=sizeLine by rw [Ya,hv,Wd];rfl'))
  exact Za ⟨_,rfl,h h' tk vs hk hv hx⟩
theorem jP {prog:Program} {w:World} {A:Around} {E:Value->Shared->Prop} {s:Shared} {r:Addr} {m:Int} {t u v:Tok} {n:Nat} {Q:Value->Shared->Prop} (hh:A.handled=none) (hr:IsRange s.heap r 0 m 1 t u v) (hs:Builtin.Range.small 0 m 1=true) (hn:Builtin.Range.rangeSize 0 m 1=n) (hl:n<=2^24)
  (h: ∀ (h':Heap) (tk:Nat) (vs:List Value),(∀b o,s.heap.get? b=some o->h'.get? b=some o)->vs.length=n->(∀ (j:Nat) x,vs[j]? =some x-> ∃t,x= .int (0+(j:Int)*1) t)->Q (.ref h'.objs.size) { s with heap:=h'.push { cls:= .type "tuple",data:= .seq vs.toArray },toks:=tk }):
  wpAny (model prog w) A (call (.type "tuple") [.ref r]) Q E s:=
 callType_new F.called_tuple (by decide) (F.typeCall_tuple_1 _) (F.newCall_tuple_1 _) (fun obj=>F.args_object_init_2 obj _) F.entry_tuple_new (lF r m t u v n hs hn hl)
  ⟨hh,hr,fun h' tk vs hk hv hx=>⟨⟨_,Zm _ rfl,rfl⟩,h h' tk vs hk hv hx⟩⟩
noncomputable def yz (te:TE):TE:=fun σ H Q=>te σ H fun x H1=> ∃n:Nat,x= .int (n:Int)/\n<=1000000/\ ∀p,H1 p=none->Q (.ref p) (upd H1 p (.tup ((List.range n).map fun i:Nat=>V.int (i:Int))))
theorem Em {X:Cx} {e:Expr} {te:TE} {p p2 pos cpos:Pos} (hc:X.calm=true) (hg:Gl X "tuple") (hm:X.mg "tuple"=none) (hg2:Gl X "range") (hm2:X.mg "range"=none) (he:PE X e te)
  (hs1:starEach [.Call (.Name "range" p2) [e] [] cpos] X.env=(false,eval (.Call (.Name "range" p2) [e] [] cpos) X.env)::starEach [] X.env:=by rfl)
  (htr:backTo pos (starEach [.Call (.Name "range" p2) [e] [] cpos] X.env)=[(false,eval (.Call (.Name "range" p2) [e] [] cpos) X.env)]:=by rfl)
  (hs2:starEach [e] X.env=(false,eval e X.env)::starEach [] X.env:=by rfl) (htr2:backTo cpos (starEach [e] X.env)=[(false,eval e X.env)]:=by rfl):
  PE X (.Call (.Name "tuple" p) [.Call (.Name "range" p2) [e] [] cpos] [] pos) (yz te):=by
 intro pins s σ H Q I h
 refine wpAny_Call_Name_kw (dW I hg hm (by decide+kernel:bootBuiltins "tuple"=some (.type "tuple")) ?_ (by decide) (by decide))
 refine Wc ?_ hs1 rfl
 rw [htr]
 refine Calls.spliced_cons ?_
 refine wpAny_Call_Name_kw (dW I hg2 hm2 boot_range ?_ (by decide) (by decide))
 refine Wc ?_ hs2 rfl
 rw [htr2]
 refine Calls.spliced_cons (bI (he pins s σ H _ I h) fun v s1 ⟨x,H1,I1,r1,q1⟩=>Calls.spliced_nil ?_)
 obtain ⟨n,rfl,hn,q⟩:=q1
 obtain ⟨t,rfl⟩:=r1
 refine call_range_1 (Calls.spliced_nil ?_)
 refine jP (n:=n) (I1.ok.hd hc) (IsRange.new ..) (small_one (by decide) (by decide) (by rfl') (by rfl')) (by rw [rangeSize_one];split<;>rfl') (by rfl') fun h' tk vs hk hv hx=> ?_
 have I2:Inv X pins σ H1 { s1 with heap:=h',toks:=tk }:=I1.kept fun b o e=>hk b o (Zb _ e)
 have rv:Vals ((List.range n).map fun i:Nat=>V.int (i:Int)) vs:=by
  have gen: ∀ (k m:Nat) (ws:List Value),ws.length=m->(∀ (j:Nat) x,ws[j]? =some x-> ∃t,x= .int (((k+j:Nat):Int)) t)->Vals ((List.range' k m).map fun i:Nat=>V.int (i:Int)) ws:=fun k m=>by
   induction m generalizing k with
   | zero=>intro ws hw _;rw [Zv hw];exact .nil
   | succ m ih=>
    intro ws hw hx
    cases ws with
    | nil=>cases hw
    | cons w ws=>
     rw [List.range'_succ,Zr]
     obtain ⟨t',rfl⟩:=hx 0 w rfl
     refine .cons ⟨t',rfl⟩ (ih (k+1) ws (by simpa using hw) fun j x hj=> ?_)
     obtain ⟨t2,e2⟩:=hx (j+1) x hj
     exact ⟨t2,by rw [e2,show k+(j+1)=k+1+j by rfl']⟩
  rw [List.range_eq_range']
  refine gen 0 n vs hv fun j x hj=> ?_
  obtain ⟨t2,e2⟩:=hx j x hj
  exact ⟨t2,by rw [e2,Nat.zero_add,Int.zero_add,Int.mul_one]⟩
 exact ⟨.ref h'.objs.size,_,I2.laid (t':=tk) (o:= .tup ((List.range n).map fun i:Nat=>V.int (i:Int))) (fun b o e=>Zb _ e) (Zh _) (show ObjOk X.prog X.w _ _ _ (.tup _) from ⟨by rw [Qr,Ys,Wd];rfl',vs,rv,IsTup.new _ _⟩),rfl,q _ (I2.hok.fresh (Zh _))⟩
end L2
end
section
namespace HT
open PySem PySem.Spec PyProof.Rows
theorem gJ {prog:Program} {w:World} {A:Around} {E:Value->Shared->Prop} {s:Shared} {t sl:Addr} {items:Array Value} {vl vu:Value} {lo hi:Option Int} {Q:Value->Shared->Prop} (ht:IsTup s.heap t items) (hs:s.heap.IsSliceOf sl vl vu .none) (pl:IsPart vl lo) (pu:IsPart vu hi)
  (h0:cG items.size 0 lo=0) (h1:cG items.size items.size hi=items.size) (h:Q (.ref t) s):wpAny (model prog w) A (getItem (.ref t) (.ref sl)) Q E s:=by
 obtain ⟨os,hos,hcs,hds⟩:=id hs
 have hTs:s.TypeIs (.ref sl) "slice":=⟨os,hos,hcs⟩
 unfold getItem
 try with_reducible refine Xp ?_
 first | refine Qb (Za ?_) | skip
 refine Qb (wpAny_sequenceKey ht.typeIs (by decide) ?_)
 refine Qb (wpAny_callSpecial?_slot (name:=Str.ofString "__getitem__") ht.typeIs PyProof.Rows.slot_tuple_getitem (Yy PyProof.Rows.slot_tuple_getitem ht.typeIs entry_tuple_getitem ?_ (args_tuple_getitem _ _)))
 show wpAny _ _ (Builtin.Tuple.tupleItemsOf (.ref t) >>= _) _ _ s
 refine Qb (tupleItemsOf_ ht (Qb (wpAny_typeOf hTs ?_)))
 rw [if_pos (by decide)]
 refine Qb (eQ hs pl pu ?_)
 show wpAny _ _ (if (((cG items.size 0 lo:Nat):Int)==0&&(1:Int)==1&&(cG items.size items.size hi-cG items.size 0 lo)==items.size)=true then _ else _) _ _ s
 rw [if_pos (by rw [h0,h1];simp)]
 have hT:s.TypeIs (.ref t) "tuple":=ht.typeIs
 refine Qb ?_
 unfold Builtin.Tuple.tupleIsExact
 refine Qb (wpAny_typeOf hT (Za ?_))
 rw [if_pos (by decide)]
 exact Qb (Wb (Za ⟨_,rfl,Za h⟩))
end HT
namespace L2
open PySem PySem.Spec PyProof.Rows
noncomputable def jQ (K:W.Frag):V->Option Int->Option Int->Hp->VK->Prop:=fun x lo hi H Q=> ∃a xs,x= .ref a/\SqT K H a xs/\ ∀p H',(p=a/\H'=H/\dY xs lo hi=xs\/H p=none/\H'=upd H p (.tup (dY xs lo hi)))->SqT K H' p (dY xs lo hi)->Q (.ref p) H'
theorem En {X:Cx}:Jj X (jQ X.K):=by
 intro pins s σ H x v vl vu lo hi sl Q I rx hs pl pu h
 obtain ⟨a,xs,rfl,hx,q⟩:=h
 by_cases c:HT.cG xs.length 0 lo=0/\HT.cG xs.length xs.length hi=xs.length
 ·cases rx
  obtain ⟨its,r,ht,hz⟩:=I.tuple hx
  have hlen:its.toArray.size=xs.length:=by rw [Ya];exact r.length.symm
  refine ⟨"tuple",_,PyProof.Rows.slot_tuple_getitem.lookup,ht.typeIs,?_⟩
  have e:dY xs lo hi=xs:=by
   unfold dY
   rw [c.1,c.2,List.drop_zero,Nat.sub_zero,Wp]
  refine HT.gJ ht hs pl pu (by rw [hlen];exact c.1) (by rw [hlen];exact c.2) ⟨.ref a,H,I,rfl,q a H (.inl ⟨rfl,rfl,e⟩) ?_⟩
  rw [e];exact hx
 ·exact Jk pins s σ H (.ref a) v vl vu lo hi sl Q I rx hs pl pu ⟨a,xs,rfl,hx,c,fun p hp=>q p _ (.inr ⟨hp,rfl⟩) (SqT.of au)⟩
theorem dw {X:Cx} (K:W.Frag) (hK:X.K=K):Jj X (jQ K):=hK▸En
end L2
end
section
namespace L2
open PySem PySem.Spec PyProof.Rows PySem.W
noncomputable abbrev nF:R2:=rI IntMulOk fun i j=> .int (i*j)
theorem uz {X:Cx}:gM X (binaryOp .Mult) nF:=Jc fun _ _ _ _ _ _ _ hc q=>mul_int q hc
theorem uA: ∀ (ns:List Int) (n:Int),n∈ns->Builtin.Int.intBits n<=WData.weightAll (ns.map WData.int)
 | m::r,n,h=>by
  have e:WData.weightAll ((m::r).map WData.int)=WData.weight (.int m)+1+WData.weightAll (r.map WData.int):=rfl
  rw [e]
  rcases Zu.mp h with rfl | h
  ·have:Builtin.Int.intBits n=WData.weight (.int n):=by simp only [WData.weight,Builtin.Int.intBits]
   rfl'
  ·have:=uA r n h
   rfl'
theorem pJ {ns:List Int} (h:WData.layableAll [WData.list (ns.map WData.int)]=true) {n:Int} (hn:n∈ns):Builtin.Int.intBits n<=2^20:=by
 have h1:WData.layable (WData.list (ns.map WData.int))=true:=by simpa [WData.layableAll] using h
 unfold WData.layable at h1
 simp only [Bool.and_eq_true,decide_eq_true_eq] at h1
 have h2:WData.weight (WData.list (ns.map WData.int))=WData.weightAll (ns.map WData.int):=by simp only [WData.weight]
 have h3:=h1.2
 rw [h2] at h3
 exact Yk (uA ns n hn) h3
theorem vY {l:OpenLaw} {n k:Nat} {q:Program} {loose:List Str} {XP:(Str->Option Value)->Heap->Prop} {YP:World->Heap->Prop} {d:DefRec} {K:Params->Frag}
  {CX:World->wI} {sp:World->Sp} {x:Str} (hn:l.most=some n) (hn2:n<=sizeLine) (hdf:d.params.defaults=[]) (hr:Room k callerA) (hY: ∀w h,YP w h->(K w.params).In h)
  (F: ∀ (w:World) (mg:Str->Option Value) (fa:Addr) (h:Heap),(K w.params).In h->h.Ns mainGlobals mg->mg d.name=some (.ref fa)-> ∃fd:FuncData,
   (∀ (s:Shared) (u:Value),BindsTo s fd ⟨[u],[]⟩ [(x,u)])/\ ∀base:Heap,(K w.params).In base->base.Ns mainGlobals mg->FnOk l.prog w (K w.params) mg base (CX w) k fa fd [x] (sp w))
  (hsp: ∀ (w:World) (H:Hp) (a:Addr) (ns:List Int),ns.length<=n->(∀i∈ns,Builtin.Int.intBits i<=2^20)->Only H->SqL (K w.params) H a (ns.map V.int)->
   sp w [.ref a] H (fun v _=>v= .bl true) fun _ _ _=>False)
  (hCX: ∀ (w:World) (H:Hp) (s:Shared) (e:Value) (s':Shared),CX w [] H s (fun _ _ _=>False) e s'->False):WalkO q loose XP YP l.row.toRowW d [] (fun f vs=>PySem.call f vs):=by
 intro w s₀ s₁ mg mb G Y fa o pm cd doc dV kV ho hd hcd hD hmg hg args vals as hpre hlay hrd hwl hlo
 cases Dflts.none hD hdf;cases Dflts.noKw hD
 obtain ⟨a,vs,ns,rfl,rfl,hobj,hints,hlen⟩:=Att.vI hn hpre hwl
 have hb:=fun i (hi:i∈ns)=>pJ hlay hi
 have KX:=hY w _ Y;obtain ⟨fd,hbd,hF⟩:=F w mg fa _ KX G.T.g hmg
 have C:=xN KX G.T.g G.T.b G.T.builtins G.T.nolimit hg hobj hints (Yk hlen hn2) hr hF hbd (fun H hO hS=>hsp w H a ns hlen hb hO hS) fun H e s'=>hCX w H s₁ e s'
 refine enter_call (codeAny_mono C fun r s' hq=> ?_)
 obtain ⟨rfl,h2,h3,h4⟩:=hq;refine ⟨.inl ⟨.bool true, .bool true,[],rfl,fun _=>rfl, .bool true,Att.vJ l _,fun _=>⟨.nil,fun _ hm=>(nomatch hm)⟩⟩,h2,h3,h4⟩
end L2
end
section
namespace Sm
open PySem PyProof.Rows Sx
noncomputable def nG:Bool->Keyed->Array Keyed->Nat->Nat->Nat->StateT SortSt Sem (Option Nat):=sortPriv%PySem.Builtin.gallop
noncomputable def JF:Array Keyed->Array Keyed->StateT SortSt Sem (Array Keyed):=sortPriv%PySem.Builtin.mergeLo
noncomputable def JG:Array Keyed->Array Keyed->StateT SortSt Sem (Array Keyed):=sortPriv%PySem.Builtin.mergeHi
noncomputable def Eo:Nat->StateT SortSt Sem Unit:=sortPriv%PySem.Builtin.setMinGallop
noncomputable def Oc (bey:Nat->StateT SortSt Sem (Option Bool)) (n lo hi:Nat):StateT SortSt Sem (Option Nat):=do
 let mut lo:=lo
 let mut hi:=hi
 for _ in [0:n] do
  if lo>=hi then break
  let m:=lo+(hi-lo) / 2
  let some mo <- bey m | return none
  if mo then lo:=m+1 else hi:=m
 return some hi
noncomputable def JH (bey:Nat->StateT SortSt Sem (Option Bool)) (n h:Nat):StateT SortSt Sem (Option Nat):=do
 let mut la:=0
 let mut of:=1
 let mut lo:=0
 let mut hi:=0
 let some rg <- bey h | return none
 if rg then
  let mx:=n-h
  for _ in [0:n] do
   if of>=mx then break
   let some mo <- bey (h+of) | return none
   if !mo then break
   la:=of
   of:=2*of+1
  lo:=h+la+1
  hi:=h+min of mx
 else
  let mx:=h+1
  for _ in [0:n] do
   if of>=mx then break
   let some fo <- bey (h-of) | return none
   if fo then break
   la:=of
   of:=2*of+1
  lo:=h+1-min of mx
  hi:=h-la
 for _ in [0:n] do
  if lo>=hi then break
  let m:=lo+(hi-lo) / 2
  let some mo <- bey m | return none
  if mo then lo:=m+1 else hi:=m
 return some hi
noncomputable def JK (lf:Bool) (ky:Keyed) (xs:Array Keyed) (b i:Nat):StateT SortSt Sem (Option Bool):=do
  let x <- elem' xs (b+i)
  if lf then lt' x ky else return (<- lt' ky x).map (!·)
theorem yC (lf:Bool) (ky:Keyed) (xs:Array Keyed) (b n h:Nat):nG lf ky xs b n h=JH (JK lf ky xs b) n h:=rfl
section
variable {prog:Program} {w:World} {A:Around} {E:Value->Shared->Prop} {s:Shared} {st:SortSt} {n:Nat} {bv:Nat->Bool} {bey:Nat->StateT SortSt Sem (Option Bool)} {Q:Option Nat->SortSt->Prop}
theorem pK (hb: ∀i,i<n-> ∀R:Option Bool->SortSt->Prop,R (some (bv i)) st->wpS (model prog w) A E s (bey i) R st)
  (mo: ∀i j,i<=j->j<n->bv j=true->bv i=true) {lo hi:Nat} (h1:lo<=hi) (h2:hi<=n) (t: ∀i,i<lo->bv i=true) (f: ∀i,hi<=i->i<n->bv i=false)
  (q: ∀k,k<=n->(∀i,i<k->bv i=true)->(∀i,k<=i->i<n->bv i=false)->Q (some k) st):wpS (model prog w) A E s (Oc bey n lo hi) Q st:=by
 unfold Oc
 dsimp only
 refine Zo (wpS_mono (Xy (I:=fun x c z=>z=st/\ ∃l r,c=(none,l,r)/\l<=r/\r<=n/\r+x<=n+l/\(∀i,i<l->bv i=true)/\ ∀i,r<=i->i<n->bv i=false)
  (Q:=fun c z=>z=st/\ ∃l,c=(none,l,l)/\l<=n/\(∀i,i<l->bv i=true)/\ ∀i,l<=i->i<n->bv i=false)
  (fun x c z g1 g2 hI=> ?_) (fun c z hI=> ?_) ⟨rfl,lo,hi,rfl,h1,h2,by rfl',t,f⟩) fun c z hc=> ?_)
 ·obtain ⟨rfl,l,r,rfl,hlr,hr,hx,tt,ff⟩:=hI
  dsimp only
  by_cases ge:l>=r
  ·rw [if_pos ge]
   obtain rfl:l=r:=Nat.le_antisymm hlr ge
   exact Zt ⟨rfl,l,rfl,hr,tt,ff⟩
  ·rw [if_neg ge]
   have m1:l<=l+(r-l) / 2:=Nat.le_add_right _ _
   have m2:l+(r-l) / 2<r:=by rfl'
   generalize l+(r-l) / 2=m at m1 m2 ⊢
   refine Zo (hb m (by rfl') _ ?_)
   dsimp only
   cases e:bv m with
   | true=>
    rw [if_pos rfl]
    exact Zt ⟨rfl,m+1,r,rfl,m2,hr,by rfl',fun i hi=>mo i m (by rfl') (by rfl') e,ff⟩
   | false=>
    rw [if_neg Zl]
    refine Zt ⟨rfl,l,m,rfl,m1,by rfl',by rfl',tt,fun i hi hn=> ?_⟩
    cases e':bv i with
    | false=>rfl
    | true=>rw [mo m i hi hn e'] at e;cases e
 ·obtain ⟨rfl,l,r,rfl,hlr,hr,hx,tt,ff⟩:=hI
  obtain rfl:l=r:=by rfl'
  exact ⟨rfl,l,rfl,hr,tt,ff⟩
 ·obtain ⟨rfl,l,rfl,hl,tt,ff⟩:=hc
  exact Zt (q l hl tt ff)
theorem pL (hb: ∀i,i<n-> ∀R:Option Bool->SortSt->Prop,R (some (bv i)) st->wpS (model prog w) A E s (bey i) R st)
  (mo: ∀i j,i<=j->j<n->bv j=true->bv i=true) {h:Nat} (hh:h<n)
  (q: ∀k,k<=n->(∀i,i<k->bv i=true)->(∀i,k<=i->i<n->bv i=false)->Q (some k) st):wpS (model prog w) A E s (JH bey n h) Q st:=by
 have mo': ∀i j,i<=j->j<n->bv i=false->bv j=false:=fun i j h1 h2 e=>by
  cases e':bv j with
  | false=>rfl
  | true=>rw [mo i j h1 h2 e'] at e;cases e
 unfold JH
 dsimp only
 refine Zo (hb h hh _ ?_)
 dsimp only
 cases e0:bv h with
 | true=>
  rw [if_pos rfl]
  refine Zo (wpS_mono (Xy (I:=fun x c z=>z=st/\ ∃la f,c=(none,la,f)/\la<f/\h+la<n/\x+1<=f/\bv (h+la)=true)
   (Q:=fun c z=>z=st/\ ∃la f,c=(none,la,f)/\la<f/\h+la<n/\bv (h+la)=true/\(n-h<=f\/bv (h+f)=false))
   (fun x c z g1 g2 hI=> ?_) (fun c z hI=> ?_) ⟨rfl,0,1,rfl,by rfl',by rfl',by rfl',e0⟩) fun c z hc=> ?_)
  ·obtain ⟨rfl,la,f,rfl,h1,h2,h3,h4⟩:=hI
   dsimp only
   by_cases ge:f>=n-h
   ·rw [if_pos ge];exact Zt ⟨rfl,la,f,rfl,h1,h2,h4, .inl ge⟩
   ·rw [if_neg ge]
    refine Zo (hb _ (by rfl') _ ?_)
    dsimp only
    cases e:bv (h+f) with
    | false=>rw [if_pos (by decide)];exact Zt ⟨rfl,la,f,rfl,h1,h2,h4, .inr e⟩
    | true=>rw [if_neg (by decide)];exact Zt ⟨rfl,f,2*f+1,rfl,by rfl',by rfl',by rfl',e⟩
  ·obtain ⟨rfl,la,f,rfl,h1,h2,h3,h4⟩:=hI
   exact ⟨rfl,la,f,rfl,h1,h2,h4, .inl (by rfl')⟩
  ·obtain ⟨rfl,la,f,rfl,h1,h2,h4,h5⟩:=hc
   dsimp only
   refine pK (bey:=bey) (lo:=h+la+1) (hi:=h+min f (n-h)) hb mo (by rfl') (by rfl') (fun i hi=>mo i _ (by rfl') h2 h4) (fun i hi hn=> ?_) q
   rcases h5 with h5 | h5
   ·rfl'
   ·by_cases c:n-h<=f
    ·rfl'
    ·exact mo' _ i (by rfl') hn h5
 | false=>
  rw [if_neg Zl]
  refine Zo (wpS_mono (Xy (I:=fun x c z=>z=st/\ ∃la f,c=(none,la,f)/\la<f/\la<=h/\x+1<=f/\bv (h-la)=false)
   (Q:=fun c z=>z=st/\ ∃la f,c=(none,la,f)/\la<f/\la<=h/\bv (h-la)=false/\(h+1<=f\/bv (h-f)=true))
   (fun x c z g1 g2 hI=> ?_) (fun c z hI=> ?_) ⟨rfl,0,1,rfl,by rfl',by rfl',by rfl',e0⟩) fun c z hc=> ?_)
  ·obtain ⟨rfl,la,f,rfl,h1,h2,h3,h4⟩:=hI
   dsimp only
   by_cases ge:f>=h+1
   ·rw [if_pos ge];exact Zt ⟨rfl,la,f,rfl,h1,h2,h4, .inl ge⟩
   ·rw [if_neg ge]
    refine Zo (hb _ (by rfl') _ ?_)
    dsimp only
    cases e:bv (h-f) with
    | true=>rw [if_pos rfl];exact Zt ⟨rfl,la,f,rfl,h1,h2,h4, .inr e⟩
    | false=>rw [if_neg Zl];exact Zt ⟨rfl,f,2*f+1,rfl,by rfl',by rfl',by rfl',e⟩
  ·obtain ⟨rfl,la,f,rfl,h1,h2,h3,h4⟩:=hI
   exact ⟨rfl,la,f,rfl,h1,h2,h4, .inl (by rfl')⟩
  ·obtain ⟨rfl,la,f,rfl,h1,h2,h4,h5⟩:=hc
   dsimp only
   refine pK (bey:=bey) (lo:=h+1-min f (h+1)) (hi:=h-la) hb mo (by rfl') (by rfl') (fun i hi=> ?_) (fun i hi hn=>mo' _ i hi hn h4) q
   rcases h5 with h5 | h5
   ·rfl'
   ·by_cases c:h+1<=f
    ·rfl'
    ·exact mo i _ (by rfl') (by rfl') h5
end
noncomputable def Sd (B:Keyed->Keyed->Bool) (l:List Keyed):Prop:=l.Pairwise fun x y=>B y x=false
noncomputable def Tw (a0:Array Keyed) (x y:Keyed):Prop:= ∃r,(x::y::r).Perm a0.toList
noncomputable def An (M:Model) (A:Around) (E:Value->Shared->Prop) (s:Shared) (kd:SortKind) (a0:Array Keyed) (B:Keyed->Keyed->Bool):Prop:=
 ∀ (st:SortSt) (x y:Keyed) (Q:Option Bool->SortSt->Prop),kindOf st=kd->Tw a0 x y->Q (some (B x y)) st->wpS M A E s (lt' x y) Q st
noncomputable def Sg (z st:SortSt):Prop:= ∃g,z=SortSt.mk' (kindOf st) (arrOf st) (pendingOf st) g (failedOf st)
theorem Sg.refl (st:SortSt):Sg st st:=⟨gallopOf st,rfl⟩
structure Mg (B:Keyed->Keyed->Bool) (A1 A2 B1 B2 o:List Keyed):Prop where
 pm:o.Perm (A1++B1)
 sd:Sd B o
 le: ∀x∈o,∀y,y∈A2\/y∈B2->B y x=false
section
variable {B:Keyed->Keyed->Bool} {A1 A2 B1 B2 o K:List Keyed} {x y:Keyed}
theorem Mg.takeB (k:Wk B) (m:Mg B A1 (x::A2) B1 (K++B2) o) (s1:Sd B (x::A2)) (s2:Sd B (K++B2)) (h: ∀y∈K,B y x=true):Mg B A1 (x::A2) (B1++K) B2 (o++K):=by
 obtain ⟨sK,_,sx⟩:=Yj.mp s2
 refine ⟨?_,Yj.mpr ⟨m.sd,sK,fun u hu v hv=>m.le u hu v (.inr (Xf _ hv))⟩,fun u hu v hv=> ?_⟩
 ·rw [<- Ye];exact m.pm.append_right K
 ·rcases Yc.mp hu with hu | hu
  ·exact m.le u hu v (hv.imp id (Yi _))
  ·rcases hv with hv | hv
   ·rcases Zu.mp hv with rfl | hv
    ·exact k.an (h u hu)
    ·exact k.tr (k.an (h u hu)) (List.rel_of_pairwise_cons s1 hv)
   ·exact sx u hu v hv
theorem Mg.takeA (k:Wk B) (m:Mg B A1 (K++A2) B1 (y::B2) o) (s1:Sd B (K++A2)) (s2:Sd B (y::B2)) (h: ∀x∈K,B y x=false):Mg B (A1++K) A2 B1 (y::B2) (o++K):=by
 obtain ⟨sK,_,sx⟩:=Yj.mp s1
 refine ⟨?_,Yj.mpr ⟨m.sd,sK,fun u hu v hv=>m.le u hu v (.inl (Xf _ hv))⟩,fun u hu v hv=> ?_⟩
 ·refine (m.pm.append_right K).trans ?_
  rw [Ye,Ye]
  exact (List.perm_append_comm (l₁:=B1)).append_left A1
 ·rcases Yc.mp hu with hu | hu
  ·exact m.le u hu v (hv.imp (Yi _) id)
  ·rcases hv with hv | hv
   ·exact sx u hu v hv
   ·rcases Zu.mp hv with rfl | hv
    ·exact h u hu
    ·exact k.tr (h u hu) (List.rel_of_pairwise_cons s2 hv)
theorem Mg.tl (m:Mg B A1 A2 B1 B2 o) {T:List Keyed} (hp:T.Perm (A2++B2)) (st:Sd B T):(o++T).Perm (A1++A2++(B1++B2))/\Sd B (o++T):=by
 refine ⟨((m.pm.append hp).trans ?_),Yj.mpr ⟨m.sd,st,fun u hu v hv=>m.le u hu v (Yc.mp (hp.mem_iff.mp hv))⟩⟩
 rw [Ye,Ye,<- Ye B1,<- Ye A2]
 exact ((List.perm_append_comm (l₁:=B1)).append_right B2).append_left A1
theorem Mg.dn (m:Mg B A1 A2 B1 [] o) (s1:Sd B A2):(o++A2++[]).Perm (A1++A2++(B1++[]))/\Sd B (o++A2++[]):=by
 have:=m.tl (T:=A2) (by rw [Yx]) s1
 simpa using this
theorem Mg.dn' (m:Mg B A1 [] B1 B2 o) (s1:Sd B B2):(o++[]++B2).Perm (A1++[]++(B1++B2))/\Sd B (o++[]++B2):=by
 have:=m.tl (T:=B2) (by rw [List.nil_append]) s1
 simpa using this
theorem Mg.ls (k:Wk B) (m:Mg B A1 [x] B1 B2 o) (s1:Sd B B2) (h: ∀y∈B2,B y x=true):(o++B2++[x]).Perm (A1++[x]++(B1++B2))/\Sd B (o++B2++[x]):=by
 rw [Ye o]
 refine m.tl List.perm_append_comm (Yj.mpr ⟨s1,List.pairwise_singleton _ _,fun u hu v hv=> ?_⟩)
 rw [Zf.mp hv]
 exact k.an (h u hu)
end
section
variable {L A1 A2 A3 K:List Keyed} {x:Keyed}
theorem gB (e:L=A1++A2):L.toArray.extract A1.length L.toArray.size=A2.toArray:=by
 subst e
 apply Array.toList_inj.mp
 simp
theorem gC (e:L=A1++(K++A2)):L.toArray.extract A1.length (A1.length+K.length)=K.toArray:=by
 subst e
 apply Array.toList_inj.mp
 simp
theorem JL (e:L=A1++x::A2):L.toArray[A1.length]? =some x:=by
 subst e
 simp
theorem Sd.rt {B:Keyed->Keyed->Bool} (s:Sd B (A1++A2)):Sd B A2:=(Yj.mp s).2.1
theorem Sd.lf {B:Keyed->Keyed->Bool} (s:Sd B (A1++A2)):Sd B A1:=(Yj.mp s).1
end
section
variable {prog:Program} {w:World} {A:Around} {E:Value->Shared->Prop} {s:Shared} {kd:SortKind} {a0:Array Keyed} {B:Keyed->Keyed->Bool} {st:SortSt}
theorem bf {L A1 A2:List Keyed} {x:Keyed} {Q:Keyed->SortSt->Prop} (e:L=A1++x::A2) (q:Q x st):wpS (model prog w) A E s (elem' L.toArray A1.length) Q st:=by
 rw [elem'_eq,JL e];exact Zt q
theorem nH {g:Nat} {Q:Unit->SortSt->Prop} (q:Q () (SortSt.mk' (kindOf st) (arrOf st) (pendingOf st) g (failedOf st))):wpS (model prog w) A E s (Eo g) Q st:=
 wpS_modify q
theorem Ng {bv:Nat->Bool} {l:List Keyed} {p:Keyed->Bool} (hp: ∀i (h:i<l.length),bv i=p l[i]) {k:Nat} (hk:k<=l.length) (t: ∀i,i<k->bv i=true) (f: ∀i,k<=i->i<l.length->bv i=false):
  ∃K R,l=K++R/\K.length=k/\(∀x∈K,p x=true)/\ ∀x∈R,p x=false:=by
 refine ⟨l.take k,l.drop k,(Ws k l).symm,by rw [Yf];rfl',fun x hx=> ?_,fun x hx=> ?_⟩
 ·obtain ⟨i,hi,rfl⟩:=List.mem_iff_getElem.mp hx
  rw [Yf] at hi
  rw [List.getElem_take,<- hp i (by rfl')]
  exact t i (by rfl')
 ·obtain ⟨i,hi,rfl⟩:=List.mem_iff_getElem.mp hx
  rw [Xs] at hi
  rw [List.getElem_drop,<- hp (k+i) (by rfl')]
  exact f _ (by rfl') (by rfl')
theorem Sd.get {l:List Keyed} (k:Wk B) (d:Sd B l) {i j:Nat} (hij:i<=j) (hj:j<l.length):B l[j] (l[i]'(Yg hij hj))=false:=by
 by_cases e:i=j
 ·subst e;exact k.rf _
 ·exact List.pairwise_iff_getElem.mp d i j _ hj (by rfl')
theorem yD (k:Wk B) (hA:An (model prog w) A E s kd a0 B) (kn:kindOf st=kd) {L A1 A2 A3:List Keyed} {y:Keyed} {h:Nat} {Q:Option Nat->SortSt->Prop} (e:L=A1++(A2++A3)) (d:Sd B A2) (tw: ∀x∈A2,Tw a0 y x) (hh:h<A2.length)
  (q: ∀K R,A2=K++R->(∀x∈K,B y x=false)->(∀x∈R,B y x=true)->Q (some K.length) st):wpS (model prog w) A E s (nG false y L.toArray A1.length A2.length h) Q st:=by
 have nn: ∀ {c:Bool},(!c)=true->c=false:=fun {c} h=>by cases c<;>first | rfl | cases h
 have nn': ∀ {c:Bool},(!c)=false->c=true:=fun {c} h=>by cases c<;>first | rfl | cases h
 rw [yC]
 refine pL (bv:=fun i=>if h:i<A2.length then !B y A2[i] else false) (fun i hi R r=> ?_) (fun i j hij hj t=> ?_) hh fun m hm t f=> ?_
 ·unfold JK
  have:L.toArray[A1.length+i]? =some A2[i]:=by
   subst e
   rw [Xt,Wv (Nat.le_add_right _ _),Nat.add_sub_cancel_left,List.getElem?_append_left hi,Zc hi]
  rw [elem'_eq,this]
  refine Zo (Zt ?_)
  rw [if_neg Zl]
  refine Zo (hA _ _ _ _ kn (tw _ (Xh hi)) (Zt ?_))
  rw [dif_pos hi] at r
  exact r
 ·rw [dif_pos hj] at t
  rw [dif_pos (Yg hij hj),k.tr (d.get k hij hj) (nn t)]
  rfl
 ·obtain ⟨K,R,e1,rfl,e3,e4⟩:=Ng (l:=A2) (p:=fun x=> !B y x) (fun i h=>dif_pos h) hm t f
  exact q K R e1 (fun x hx=>nn (e3 x hx)) fun x hx=>nn' (e4 x hx)
theorem yE (k:Wk B) (hA:An (model prog w) A E s kd a0 B) (kn:kindOf st=kd) {L A1 A2 A3:List Keyed} {y:Keyed} {h:Nat} {Q:Option Nat->SortSt->Prop} (e:L=A1++(A2++A3)) (d:Sd B A2) (tw: ∀x∈A2,Tw a0 x y) (hh:h<A2.length)
  (q: ∀K R,A2=K++R->(∀x∈K,B x y=true)->(∀x∈R,B x y=false)->Q (some K.length) st):wpS (model prog w) A E s (nG true y L.toArray A1.length A2.length h) Q st:=by
 rw [yC]
 refine pL (bv:=fun i=>if h:i<A2.length then B A2[i] y else false) (fun i hi R r=> ?_) (fun i j hij hj t=> ?_) hh fun m hm t f=> ?_
 ·unfold JK
  have:L.toArray[A1.length+i]? =some A2[i]:=by
   subst e
   rw [Xt,Wv (Nat.le_add_right _ _),Nat.add_sub_cancel_left,List.getElem?_append_left hi,Zc hi]
  rw [elem'_eq,this]
  refine Zo (Zt ?_)
  rw [if_pos rfl]
  rw [dif_pos hi] at r
  exact hA _ _ _ _ kn (tw _ (Xh hi)) r
 ·rw [dif_pos hj] at t
  rw [dif_pos (Yg hij hj)]
  cases c:B (A2[i]'(Yg hij hj)) y with
  | true=>rfl
  | false=>rw [k.tr c (d.get k hij hj)] at t;cases t
 ·obtain ⟨K,R,e1,rfl,e3,e4⟩:=Ng (l:=A2) (p:=fun x=>B x y) (fun i h=>dif_pos h) hm t f
  exact q K R e1 e3 e4
end
section
variable {α β γ τ:Type}
inductive Se (D:Array Keyed->Prop) (P:Nat->α->β->γ->Prop) (n:Nat):Option (Array Keyed)×α×β×γ×τ->Prop
 | dn {x:Array Keyed} {t:α×β×γ×τ} (h:D x):Se D P n (some x,t)
 | go {a:α} {b:β} {c:γ} {t:τ} (h:P n a b c):Se D P n (none,a,b,c,t)
inductive Sy (P:Nat->α->β->γ->Prop) (n:Nat):Option (Array Keyed)×α×β×γ×τ->Prop
 | go {a:α} {b:β} {c:γ} {t:τ} (h:P n a b c):Sy P n (none,a,b,c,t)
noncomputable def Sr (D:Array Keyed->Prop) (P:Nat->α->β->γ->Prop) (n:Nat):ForInStep (Option (Array Keyed)×α×β×γ×τ)->Prop
 | .done c=>Se D P n c
 | .yield c=>Sy P n c
noncomputable def Sq (D:Array Keyed->Prop) (P:Nat->α->β->γ->Prop) (n:Nat):ForInStep (Option (Array Keyed)×α×β×γ×τ)->Prop
 | .done c=>Se D (fun _ _ _ _=>False) 0 c
 | .yield c=>Sy P n c
noncomputable abbrev TF (α β γ:Type):=Nat->α->β->γ->Nat->Nat->StateT SortSt Sem (ForInStep (Option (Array Keyed)×α×β×γ×Nat×Nat))
noncomputable abbrev TG (α β γ:Type):=α->β->γ->Nat->Nat->Nat->StateT SortSt Sem (ForInStep (Option (Array Keyed)×α×β×γ×Nat×Nat×Nat))
noncomputable def Rj (tot:Nat) (F:TF α β γ) (G:TG α β γ) (r:Option (Array Keyed)×α×β×γ×Nat):StateT SortSt Sem (ForInStep (Option (Array Keyed)×α×β×γ×Nat)):=do
 let s1 <- forIn [0:tot] (none,r.2.1,r.2.2.1,r.2.2.2.1,0,0) fun _ s=>F r.2.2.2.2 s.2.1 s.2.2.1 s.2.2.2.1 s.2.2.2.2.1 s.2.2.2.2.2
 match s1.1 with
 | some x=>pure (.done (some x,s1.2.1,s1.2.2.1,s1.2.2.2.1,r.2.2.2.2))
 | none=>do
  rule "list.sort.gallop"
  let s2 <- forIn [0:tot] (none,s1.2.1,s1.2.2.1,s1.2.2.2.1,r.2.2.2.2+1,s1.2.2.2.2.1,s1.2.2.2.2.2) fun _ s=>if s.2.2.2.2.1>1 then G s.2.1 s.2.2.1 s.2.2.2.1 (s.2.2.2.2.1-1) s.2.2.2.2.2.1 s.2.2.2.2.2.2 else G s.2.1 s.2.2.1 s.2.2.2.1 s.2.2.2.2.1 s.2.2.2.2.2.1 s.2.2.2.2.2.2
  match s2.1 with
  | some x=>pure (.done (some x,s2.2.1,s2.2.2.1,s2.2.2.2.1,s2.2.2.2.2.1))
  | none=>do
   Eo (s2.2.2.2.2.1+1)
   pure (.yield (none,s2.2.1,s2.2.2.1,s2.2.2.2.1,s2.2.2.2.2.1+1))
noncomputable def QS (tot:Nat) (F:TF α β γ) (G:TG α β γ) (r0:Option (Array Keyed)×α×β×γ×Nat):StateT SortSt Sem (Array Keyed):=do
 let r <- forIn [0:tot] r0 fun _ r=>Rj tot F G r
 match r.1 with
 | some x=>pure x
 | none=>unsupported "internal:list.sort.merge-bound"
structure Gn (prog:Program) (w:World) (A:Around) (E:Value->Shared->Prop) (s:Shared) (st:SortSt) (D:Array Keyed->Prop) (P:Nat->α->β->γ->Prop) (tot:Nat) (F:TF α β γ) (G:TG α β γ):Prop where
 mo: ∀ {n m a b c},m<=n->P n a b c->P m a b c
 lt: ∀ {n a b c},P n a b c->n<tot
 f: ∀ {n a b c mg ac bc z},Sg z st->P n a b c->wpS (model prog w) A E s (F mg a b c ac bc) (fun r z'=>z'=z/\Sr D P (n+1) r) z
 g: ∀ {n a b c mg ac bc z},Sg z st->P n a b c->wpS (model prog w) A E s (G a b c mg ac bc) (fun r z'=>Sg z' st/\Sr D P (n+1) r) z
variable {prog:Program} {w:World} {A:Around} {E:Value->Shared->Prop} {s:Shared} {st:SortSt} {D:Array Keyed->Prop} {P:Nat->α->β->γ->Prop} {tot:Nat} {F:TF α β γ} {G:TG α β γ}
theorem Gn.se (h:Gn prog w A E s st D P tot F G) {n m:Nat} (hm:m<=n) {c:Option (Array Keyed)×α×β×γ×τ} (x:Se D P n c):Se D P m c:=by
 cases x with
 | dn x=>exact .dn x
 | go x=>exact .go (h.mo hm x)
theorem Ep (h:Gn prog w A E s st D P tot F G) {n mg:Nat} {a:α} {b:β} {c:γ} {z:SortSt} (hz:Sg z st) (hp:P n a b c):wpS (model prog w) A E s (Rj tot F G (none,a,b,c,mg)) (fun r z'=>Sg z' st/\Sq D P (n+1) r) z:=by
 unfold Rj
 refine Zo (wpS_mono (Xy (I:=fun x c z'=>z'=z/\Sy P (x+n) c) (Q:=fun c z'=>z'=z/\Se D P (n+1) c) (fun x c z' _ _ hI=> ?_) (fun c z' hI=> ?_) ⟨rfl, .go (by rw [Nat.zero_add];exact hp)⟩) fun c1 z1 hc=> ?_)
 ·obtain ⟨e,⟨hp⟩⟩:=hI
  subst e
  refine wpS_mono (h.f hz hp) fun r z'' hr=> ?_
  obtain ⟨e,hr⟩:=hr
  subst e
  cases r with
  | done c=>exact ⟨rfl,h.se (Nat.add_le_add_right (Nat.le_add_left n x) 1) hr⟩
  | yield c=>exact ⟨rfl,(Nat.add_right_comm x 1 n)▸hr⟩
 ·obtain ⟨e,⟨hp⟩⟩:=hI
  exact absurd (Yg (Yk (Nat.le_max_right 0 tot) (Nat.le_add_right _ n)) (h.lt hp)) (Nat.lt_irrefl _)
 ·obtain ⟨e,hc⟩:=hc
  subst e
  cases hc with
  | dn hd=>exact Zt ⟨hz, .dn hd⟩
  | go hp1=>
   refine Zo (wpS_lift (Wb ⟨rfl,?_⟩))
   refine Zo (wpS_mono (Xy (I:=fun x c z'=>Sg z' st/\Sy P (x+(n+1)) c) (Q:=fun c z'=>Sg z' st/\Se D P (n+1) c) (fun x c z' _ _ hI=> ?_) (fun c z' hI=> ?_) ⟨hz, .go (by rw [Nat.zero_add];exact hp1)⟩) fun c1 z1 hc=> ?_)
   ·obtain ⟨hz,⟨hp⟩⟩:=hI
    dsimp only
    split
    all_goals
     refine wpS_mono (h.g hz hp) fun r z'' hr=> ?_
     obtain ⟨hz',hr⟩:=hr
     cases r with
     | done c=>exact ⟨hz',h.se (Yk (Nat.le_add_left (n+1) x) (Nat.le_succ _)) hr⟩
     | yield c=>exact ⟨hz',(Nat.add_right_comm x 1 (n+1))▸hr⟩
   ·obtain ⟨e,⟨hp⟩⟩:=hI
    exact absurd (Yg (Yk (Nat.le_max_right 0 tot) (Nat.le_add_right _ (n+1))) (h.lt hp)) (Nat.lt_irrefl _)
   ·obtain ⟨hz',hc⟩:=hc
    cases hc with
    | dn hd=>exact Zt ⟨hz', .dn hd⟩
    | go hp2=>
     obtain ⟨g,e⟩:=hz'
     subst e
     exact Zo (nH (Zt ⟨⟨_,rfl⟩, .go hp2⟩))
theorem uB (h:Gn prog w A E s st D P tot F G) {mg:Nat} {a:α} {b:β} {c:γ} (hp:P 0 a b c) {Q:Array Keyed->SortSt->Prop} (q: ∀r z,D r->Sg z st->Q r z):wpS (model prog w) A E s (QS tot F G (none,a,b,c,mg)) Q st:=by
 unfold QS
 refine Zo (wpS_mono (Xy (I:=fun x c z'=>Sg z' st/\Sy P x c) (Q:=fun c z'=>Sg z' st/\Se D (fun _ _ _ _=>False) 0 c) (fun x c z' _ _ hI=> ?_) (fun c z' hI=> ?_) ⟨Sg.refl _, .go hp⟩) fun c1 z1 hc=> ?_)
 ·obtain ⟨hz,⟨hp⟩⟩:=hI
  refine wpS_mono (Ep h hz hp) fun r z'' hr=> ?_
  obtain ⟨hz',hr⟩:=hr
  cases r with
  | done c=>exact ⟨hz',hr⟩
  | yield c=>exact ⟨hz',hr⟩
 ·obtain ⟨hz,⟨hp⟩⟩:=hI
  exact absurd (Yg (Nat.le_max_right 0 tot) (h.lt hp)) (Nat.lt_irrefl _)
 ·obtain ⟨hz',hc⟩:=hc
  cases hc with
  | dn hd=>exact Zt (q _ _ hd hz')
  | go hp2=>exact hp2.elim
end
noncomputable abbrev GS:=ForInStep (Option (Array Keyed)×Array Keyed×Nat×Nat×Nat×Nat×Nat)
noncomputable def G3 (a b o:Array Keyed) (p q mg ac k:Nat):StateT SortSt Sem GS:=do
 let u <- elem' a p
 if (p+1+1==a.size)=true then
  pure (.done (some (o.push u++b.extract q b.size++a.extract (p+1) a.size),o.push u,p+1,q,mg,ac,k))
 else if (decide (ac<7)&&decide (k<7))=true then pure (.done (none,o.push u,p+1,q,mg,ac,k))
 else pure (.yield (none,o.push u,p+1,q,mg,ac,k))
noncomputable def G2 (a b o:Array Keyed) (p q mg ac bc:Nat):StateT SortSt Sem GS:=do
 let u <- elem' b q
 if (q+1==b.size)=true then
  pure (.done (some (o.push u++a.extract p a.size++b.extract (q+1) b.size),o.push u,p,q+1,mg,ac,bc))
 else do
  let v <- elem' a p
  let x <- nG true v b (q+1) (b.size-(q+1)) 0
  match x with
  | some k=>
   if k>0 then
    if (q+1+k==b.size)=true then
     pure (.done (some (o.push u++b.extract (q+1) (q+1+k)++a.extract p a.size++b.extract (q+1+k) b.size),o.push u++b.extract (q+1) (q+1+k),p,q+1+k,mg,ac,k))
    else G3 a b (o.push u++b.extract (q+1) (q+1+k)) p (q+1+k) mg ac k
   else G3 a b (o.push u) p (q+1) mg ac k
  | _=>pure (.done (some (o.push u++a.extract p a.size++b.extract (q+1) b.size),o.push u,p,q+1,mg,ac,bc))
noncomputable def G1 (a b o:Array Keyed) (p q mg ac bc:Nat):StateT SortSt Sem GS:=do
 Eo mg
 let u <- elem' b q
 let x <- nG false u a p (a.size-p) 0
 match x with
 | some k=>
  if k>0 then
   if (p+k+1==a.size)=true then
    pure (.done (some (o++a.extract p (p+k)++b.extract q b.size++a.extract (p+k) a.size),o++a.extract p (p+k),p+k,q,mg,k,bc))
   else if (p+k==a.size)=true then
    pure (.done (some (o++a.extract p (p+k)++a.extract (p+k) a.size++b.extract q b.size),o++a.extract p (p+k),p+k,q,mg,k,bc))
   else G2 a b (o++a.extract p (p+k)) (p+k) q mg k bc
  else G2 a b o p q mg k bc
 | _=>pure (.done (some (o++a.extract p a.size++b.extract q b.size),o,p,q,mg,ac,bc))
noncomputable def F1 (a b:Array Keyed) (mg:Nat) (o:Array Keyed) (p q ac bc:Nat):StateT SortSt Sem (ForInStep (Option (Array Keyed)×Array Keyed×Nat×Nat×Nat×Nat)):=do
 let y <- elem' b q
 let x <- elem' a p
 match <- lt' y x with
 | some bw=>
  if bw=true then do
   let u <- elem' b q
   if (q+1==b.size)=true then pure (.done (some (o.push u++a.extract p a.size++b.extract (q+1) b.size),o.push u,p,q+1,0,bc+1))
   else if bc+1>=mg then pure (.done (none,o.push u,p,q+1,0,bc+1))
   else pure (.yield (none,o.push u,p,q+1,0,bc+1))
  else do
   let u <- elem' a p
   if (p+1+1==a.size)=true then pure (.done (some (o.push u++b.extract q b.size++a.extract (p+1) a.size),o.push u,p+1,q,ac+1,0))
   else if ac+1>=mg then pure (.done (none,o.push u,p+1,q,ac+1,0))
   else pure (.yield (none,o.push u,p+1,q,ac+1,0))
 | _=>pure (.done (some (o++a.extract p a.size++b.extract q b.size),o,p,q,ac,bc))
theorem JM (a b:Array Keyed):JF a b=(do
 rule "list.sort.merge-lo"
 let y <- elem' b 0
 if (1==b.size)=true then pure (#[y]++a.extract 0 a.size++b.extract 1 b.size)
 else if (0+1==a.size)=true then pure (#[y]++b.extract 1 b.size++a.extract 0 a.size)
 else do
  let st <- get
  QS (a.size+b.size) (F1 a b) (G1 a b) (none,#[y],0,1,gallopOf st)):=by kernel_rfl
structure Ml (B:Keyed->Keyed->Bool) (L1 L2 A1 A2 B1 B2 o:List Keyed):Prop where
 e1:L1=A1++A2
 e2:L2=B1++B2
 mg:Mg B A1 A2 B1 B2 o
section
variable {prog:Program} {w:World} {A:Around} {E:Value->Shared->Prop} {s:Shared} {kd:SortKind} {a0:Array Keyed} {B:Keyed->Keyed->Bool} {st:SortSt} {L1 L2:List Keyed}
theorem yF {l:List Keyed} (h:2<=l.length): ∃x y r,l=x::y::r:=by
 obtain ⟨x,m,rfl⟩:=Yq (Zz Nat.zero_lt_two h)
 obtain ⟨y,r,rfl⟩:=Yq (Nat.lt_of_succ_lt_succ h)
 exact ⟨x,y,r,rfl⟩
theorem yG {l:List Keyed} (h:l.length=1): ∃x,l=[x]:=List.length_eq_one_iff.mp h
theorem yH {B:Keyed->Keyed->Bool} {l:List Keyed} (h:l.length<2):Sd B l:=by
 cases l with
 | nil=>exact .nil
 | cons x r=>
  cases r with
  | nil=>exact List.pairwise_singleton _ _
  | cons y r=>exact absurd (Nat.lt_of_succ_lt_succ (Nat.lt_of_succ_lt_succ h)) (Nat.not_lt_zero _)
theorem jR {l m:List Keyed} {x:Keyed} (e:l=m++[x]):l.getLast?=some x:=by subst e;simp
theorem Ml.la {A1 A2 B1 B2 o:List Keyed} (k:Wk B) (s2:Sd B L2) (h9: ∀x,L1.getLast?=some x-> ∀y∈L2,B y x=true) (m:Ml B L1 L2 A1 A2 B1 B2 o) (h:A2.length=1):
  ∃r,o.toArray++L2.toArray.extract B1.length L2.toArray.size++L1.toArray.extract A1.length L1.toArray.size=r.toArray/\r.Perm (L1++L2)/\Sd B r:=by
 obtain ⟨x,rfl⟩:=yG h
 rw [gB m.e1,gB m.e2]
 have:=m.mg.ls k (Sd.rt (m.e2▸s2)) fun y hy=>h9 x (jR m.e1) y (by rw [m.e2];exact Yi _ hy)
 rw [<- m.e1,<- m.e2] at this
 exact ⟨o++B2++[x],by simp,this⟩
theorem Ml.dn {A1 A2 B1 B2 o:List Keyed} (s1:Sd B L1) (m:Ml B L1 L2 A1 A2 B1 B2 o) (h:B2=[]):
  ∃r,o.toArray++L1.toArray.extract A1.length L1.toArray.size++L2.toArray.extract B1.length L2.toArray.size=r.toArray/\r.Perm (L1++L2)/\Sd B r:=by
 subst h
 rw [gB m.e1,gB m.e2]
 have:=m.mg.dn (Sd.rt (m.e1▸s1))
 rw [<- m.e1,<- m.e2] at this
 exact ⟨o++A2++[],by simp,this⟩
theorem Ml.dn' {A1 A2 B1 B2 o:List Keyed} (s2:Sd B L2) (m:Ml B L1 L2 A1 A2 B1 B2 o) (h:A2=[]):
  ∃r,o.toArray++L1.toArray.extract A1.length L1.toArray.size++L2.toArray.extract B1.length L2.toArray.size=r.toArray/\r.Perm (L1++L2)/\Sd B r:=by
 subst h
 rw [gB m.e1,gB m.e2]
 have:=m.mg.dn' (Sd.rt (m.e2▸s2))
 rw [<- m.e1,<- m.e2] at this
 exact ⟨o++[]++B2,by simp,this⟩
theorem Ml.b1 {A1 A2 B1 B2 o:List Keyed} {x y:Keyed} (k:Wk B) (s1:Sd B L1) (s2:Sd B L2) (m:Ml B L1 L2 A1 (x::A2) B1 (y::B2) o) (h:B y x=true):Ml B L1 L2 A1 (x::A2) (B1++[y]) B2 (o++[y]):=
 ⟨m.e1,by rw [m.e2];simp,Mg.takeB (K:=[y]) k m.mg (Sd.rt (m.e1▸s1)) (Sd.rt (m.e2▸s2)) fun u hu=>by rw [Zf.mp hu];exact h⟩
theorem Ml.a1 {A1 A2 B1 B2 o:List Keyed} {x y:Keyed} (k:Wk B) (s1:Sd B L1) (s2:Sd B L2) (m:Ml B L1 L2 A1 (x::A2) B1 (y::B2) o) (h:B y x=false):Ml B L1 L2 (A1++[x]) A2 B1 (y::B2) (o++[x]):=
 ⟨by rw [m.e1];simp,m.e2,Mg.takeA (K:=[x]) k m.mg (Sd.rt (m.e1▸s1)) (Sd.rt (m.e2▸s2)) fun u hu=>by rw [Zf.mp hu];exact h⟩
theorem Ml.bk {A1 A2 B1 B2 K o:List Keyed} {x:Keyed} (k:Wk B) (s1:Sd B L1) (s2:Sd B L2) (m:Ml B L1 L2 A1 (x::A2) B1 (K++B2) o) (h: ∀y∈K,B y x=true):Ml B L1 L2 A1 (x::A2) (B1++K) B2 (o++K):=
 ⟨m.e1,by rw [m.e2];simp,Mg.takeB k m.mg (Sd.rt (m.e1▸s1)) (Sd.rt (m.e2▸s2)) h⟩
theorem Ml.ak {A1 A2 B1 B2 K o:List Keyed} {y:Keyed} (k:Wk B) (s1:Sd B L1) (s2:Sd B L2) (m:Ml B L1 L2 A1 (K++A2) B1 (y::B2) o) (h: ∀x∈K,B y x=false):Ml B L1 L2 (A1++K) A2 B1 (y::B2) (o++K):=
 ⟨by rw [m.e1];simp,m.e2,Mg.takeA k m.mg (Sd.rt (m.e1▸s1)) (Sd.rt (m.e2▸s2)) h⟩
noncomputable def Gd (B:Keyed->Keyed->Bool) (L1 L2:List Keyed) (r:Array Keyed):Prop:= ∃l:List Keyed,r=l.toArray/\l.Perm (L1++L2)/\Sd B l
theorem yI {A1 A2:List Keyed} {L:List Keyed} (e:L=A1++A2):(A1.length==L.toArray.size)=decide (A2.length=0):=by
 subst e
 rw [Ya,Zn]
 by_cases h:A2.length=0
 ·rw [h];simp
 ·rw [Zp h]
  exact beq_eq_false_iff_ne.mpr (by rfl')
theorem Er {A1 A2:List Keyed} {L:List Keyed} (e:L=A1++A2):(A1.length+1==L.toArray.size)=decide (A2.length=1):=by
 subst e
 rw [Ya,Zn]
 by_cases h:A2.length=1
 ·rw [h];simp
 ·rw [Zp h]
  exact beq_eq_false_iff_ne.mpr (by rfl')
theorem b8 (A1:List Keyed) (x:Keyed):(A1++[x]).length=A1.length+1:=by simp
theorem iw (o:List Keyed) (x:Keyed):o.toArray.push x=(o++[x]).toArray:=by simp
inductive PL (B:Keyed->Keyed->Bool) (L1 L2:List Keyed) (n:Nat):Array Keyed->Nat->Nat->Prop
 | mk {A1 A2 B1 B2 o:List Keyed} (m:Ml B L1 L2 A1 A2 B1 B2 o) (h1:2<=A2.length) (h2:1<=B2.length) (h3:n+1<=A1.length+B1.length):PL B L1 L2 n o.toArray A1.length B1.length
theorem yJ (k:Wk B) (s1:Sd B L1) (s2:Sd B L2) (h9: ∀x,L1.getLast?=some x-> ∀y∈L2,B y x=true) {z:SortSt} (hg:Sg z st)
  {A1 A2 B1 B2 o:List Keyed} {y x:Keyed} {mg ac bc n:Nat} (m:Ml B L1 L2 A1 (x::A2) B1 (y::B2) o) (e:B y x=false) (hA2:1<=A2.length) (hn:n+1<=A1.length+B1.length):
  wpS (model prog w) A E s (G3 L1.toArray L2.toArray o.toArray A1.length B1.length mg ac bc) (fun r z'=>Sg z' st/\Sr (Gd B L1 L2) (PL B L1 L2) (n+1) r) z:=by
 unfold G3
 refine Zo (bf m.e1 ?_)
 have m':=m.a1 k s1 s2 e
 rw [iw,<- b8 A1 x,Er m'.e1]
 by_cases z1:A2.length=1
 ·rw [if_pos (Ym z1)]
  obtain ⟨r,er,hr⟩:=m'.la k s2 h9 z1
  exact Zt ⟨hg, .dn ⟨r,er,hr⟩⟩
 ·rw [if_neg (by simpa using z1)]
  have b:n+1+1<=(A1++[x]).length+B1.length:=by rw [b8];rfl'
  by_cases z3:(decide (ac<7)&&decide (bc<7))=true
  ·rw [if_pos z3]
   exact Zt ⟨hg, .go ⟨m',by rfl',by simp,b⟩⟩
  ·rw [if_neg z3]
   exact Zt ⟨hg, .go ⟨m',by rfl',by simp,b⟩⟩
theorem yK {L A1 A2:List Keyed} (e:L=A1++A2):L.toArray.size-A1.length=A2.length:=by subst e;simp
theorem uC (o K:List Keyed):o.toArray++K.toArray=(o++K).toArray:=by simp
theorem yL (k:Wk B) (hA:An (model prog w) A E s kd a0 B) (kn:kindOf st=kd) (tw: ∀x∈L1,∀y∈L2,Tw a0 y x) (s1:Sd B L1) (s2:Sd B L2) (h9: ∀x,L1.getLast?=some x-> ∀y∈L2,B y x=true) {z:SortSt} (hg:Sg z st)
  {A1 A2 B1 B2 o:List Keyed} {y x:Keyed} {mg ac bc n:Nat} (m:Ml B L1 L2 A1 (x::A2) B1 (y::B2) o) (e:B y x=true) (hA2:1<=A2.length) (hn:n+1<=A1.length+B1.length):
  wpS (model prog w) A E s (G2 L1.toArray L2.toArray o.toArray A1.length B1.length mg ac bc) (fun r z'=>Sg z' st/\Sr (Gd B L1 L2) (PL B L1 L2) (n+1) r) z:=by
 have kz:kindOf z=kd:=by obtain ⟨g,rfl⟩:=hg;exact kn
 unfold G2
 refine Zo (bf m.e2 ?_)
 have m':=m.b1 k s1 s2 e
 rw [iw,<- b8 B1 y,yI m'.e2]
 by_cases z1:B2.length=0
 ·rw [if_pos (Ym z1)]
  obtain ⟨r,er,hr⟩:=m'.dn s1 (Zv z1)
  exact Zt ⟨hg, .dn ⟨r,er,hr⟩⟩
 rw [if_neg (by simpa using z1)]
 refine Zo (bf m.e1 ?_)
 rw [yK m'.e2]
 have sB:Sd B B2:=Sd.rt (m'.e2▸s2)
 have hx:x∈L1:=by rw [m.e1];simp
 refine Zo (yE k hA kz (A3:=[]) (by rw [Yx];exact m'.e2) sB (fun u hu=>tw x hx u (by rw [m'.e2];exact Yi _ hu)) (by rfl') fun K R eK hK hR=> ?_)
 dsimp only
 subst eK
 by_cases z2:K.length>0
 ·rw [if_pos z2,gC m'.e2,uC (o++[y]) K]
  have m2:=m'.bk k s1 s2 hK
  rw [<- Zn,yI m2.e2]
  by_cases z3:R.length=0
  ·rw [if_pos (Ym z3)]
   obtain ⟨r,er,hr⟩:=m2.dn s1 (Zv z3)
   exact Zt ⟨hg, .dn ⟨r,er,hr⟩⟩
  rw [if_neg (by simpa using z3)]
  obtain ⟨y2,R,rfl⟩:=Yq (Wm z3)
  exact yJ k s1 s2 h9 hg m2 (hR _ Zq) hA2 (by simp only [Zn,Yv];rfl')
 ·rw [if_neg z2]
  obtain rfl:K=[]:=Zv (by rfl')
  rw [List.nil_append] at z1 m'
  obtain ⟨y2,R,rfl⟩:=Yq (Wm z1)
  exact yJ k s1 s2 h9 hg m' (hR _ Zq) hA2 (by simp only [Zn,Yv];rfl')
theorem JN (k:Wk B) (hA:An (model prog w) A E s kd a0 B) (kn:kindOf st=kd) (tw: ∀x∈L1,∀y∈L2,Tw a0 y x) (s1:Sd B L1) (s2:Sd B L2) (h9: ∀x,L1.getLast?=some x-> ∀y∈L2,B y x=true) {z:SortSt} (hg:Sg z st)
  {A1 A2 B1 B2 o:List Keyed} {mg ac bc n:Nat} (m:Ml B L1 L2 A1 A2 B1 B2 o) (hA2:2<=A2.length) (hB2:1<=B2.length) (hn:n+1<=A1.length+B1.length):
  wpS (model prog w) A E s (G1 L1.toArray L2.toArray o.toArray A1.length B1.length mg ac bc) (fun r z'=>Sg z' st/\Sr (Gd B L1 L2) (PL B L1 L2) (n+1) r) z:=by
 obtain ⟨g,rfl⟩:=hg
 unfold G1
 refine Zo (nH ?_)
 obtain ⟨y,B2,rfl⟩:=Yq hB2
 have hy:y∈L2:=by rw [m.e2];simp
 have hg:Sg (SortSt.mk' (kindOf st) (arrOf st) (pendingOf st) mg (failedOf st)) st:=⟨_,rfl⟩
 refine Zo (bf m.e2 ?_)
 rw [yK m.e1]
 have sA:Sd B A2:=Sd.rt (m.e1▸s1)
 have kz:kindOf (SortSt.mk' (kindOf st) (arrOf st) (pendingOf st) mg (failedOf st))=kd:=kn
 refine Zo (yD k hA kz (A2:=A2) (A3:=[]) (by rw [Yx];exact m.e1) sA (fun u hu=>tw u (by rw [m.e1];exact Yi _ hu) y hy) (by rfl') fun K R eK hK hR=> ?_)
 dsimp only
 subst eK
 by_cases z2:K.length>0
 ·rw [if_pos z2,gC m.e1,uC o K]
  have m2:=m.ak k s1 s2 hK
  rw [<- Zn,yI m2.e1,Er m2.e1]
  by_cases z3:R.length=1
  ·rw [if_pos (Ym z3)]
   obtain ⟨r,er,hr⟩:=m2.la k s2 h9 z3
   exact Zt ⟨hg, .dn ⟨r,er,hr⟩⟩
  rw [if_neg (by simpa using z3)]
  by_cases z4:R.length=0
  ·rw [if_pos (Ym z4)]
   obtain ⟨r,er,hr⟩:=m2.dn' s2 (Zv z4)
   exact Zt ⟨hg, .dn ⟨r,er,hr⟩⟩
  rw [if_neg (by simpa using z4)]
  obtain ⟨x,R,rfl⟩:=Yq (Wm z4)
  exact yL k hA kn tw s1 s2 h9 hg m2 (hR _ Zq) (by rw [Yv] at z3;rfl') (by simp only [Zn];rfl')
 ·rw [if_neg z2]
  obtain rfl:K=[]:=Zv (by rfl')
  rw [List.nil_append] at hA2 m
  obtain ⟨x,x2,R,rfl⟩:=yF hA2
  exact yL k hA kn tw s1 s2 h9 hg m (hR _ Zq) (by simp) hn
theorem JP (k:Wk B) (hA:An (model prog w) A E s kd a0 B) (kn:kindOf st=kd) (tw: ∀x∈L1,∀y∈L2,Tw a0 y x) (s1:Sd B L1) (s2:Sd B L2) (h9: ∀x,L1.getLast?=some x-> ∀y∈L2,B y x=true) {z:SortSt} (hg:Sg z st)
  {A1 A2 B1 B2 o:List Keyed} {y x:Keyed} {mg ac bc n:Nat} (m:Ml B L1 L2 A1 (x::A2) B1 (y::B2) o) (hA2:1<=A2.length) (hn:n+1<=A1.length+B1.length):
  wpS (model prog w) A E s (F1 L1.toArray L2.toArray mg o.toArray A1.length B1.length ac bc) (fun r z'=>z'=z/\Sr (Gd B L1 L2) (PL B L1 L2) (n+1) r) z:=by
 have kz:kindOf z=kd:=by obtain ⟨g,rfl⟩:=hg;exact kn
 unfold F1
 refine Zo (bf m.e2 (Zo (bf m.e1 (Zo (hA _ _ _ _ kz (tw x (by rw [m.e1];simp) y (by rw [m.e2];simp)) ?_)))))
 dsimp only
 cases e:B y x with
 | true=>
  rw [if_pos rfl]
  refine Zo (bf m.e2 ?_)
  have m':=m.b1 k s1 s2 e
  rw [iw,<- b8 B1 y,yI m'.e2]
  by_cases z1:B2.length=0
  ·rw [if_pos (Ym z1)]
   obtain ⟨r,er,hr⟩:=m'.dn s1 (Zv z1)
   exact Zt ⟨rfl, .dn ⟨r,er,hr⟩⟩
  ·rw [if_neg (by simpa using z1)]
   have p:PL B L1 L2 (n+1) _ _ _:=⟨m',Nat.succ_le_succ hA2,Wm z1,by rw [b8];rfl'⟩
   by_cases z3:bc+1>=mg
   ·rw [if_pos z3];exact Zt ⟨rfl, .go p⟩
   ·rw [if_neg z3];exact Zt ⟨rfl, .go p⟩
 | false=>
  rw [if_neg Zl]
  refine Zo (bf m.e1 ?_)
  have m':=m.a1 k s1 s2 e
  rw [iw,<- b8 A1 x,Er m'.e1]
  by_cases z1:A2.length=1
  ·rw [if_pos (Ym z1)]
   obtain ⟨r,er,hr⟩:=m'.la k s2 h9 z1
   exact Zt ⟨rfl, .dn ⟨r,er,hr⟩⟩
  ·rw [if_neg (by simpa using z1)]
   have p:PL B L1 L2 (n+1) _ _ _:=⟨m',by rfl',Nat.succ_pos _,by rw [b8];rfl'⟩
   by_cases z3:ac+1>=mg
   ·rw [if_pos z3];exact Zt ⟨rfl, .go p⟩
   ·rw [if_neg z3];exact Zt ⟨rfl, .go p⟩
theorem Od (k:Wk B) (hA:An (model prog w) A E s kd a0 B) (kn:kindOf st=kd) (tw: ∀x∈L1,∀y∈L2,Tw a0 y x) (s1:Sd B L1) (s2:Sd B L2) (h9: ∀x,L1.getLast?=some x-> ∀y∈L2,B y x=true):
  Gn prog w A E s st (Gd B L1 L2) (PL B L1 L2) (L1.toArray.size+L2.toArray.size) (F1 L1.toArray L2.toArray) (G1 L1.toArray L2.toArray) where
 mo:=fun h p=>by cases p with | mk m h1 h2 h3=>exact ⟨m,h1,h2,Yk (Nat.succ_le_succ h) h3⟩
 lt:=fun p=>by
  cases p with
  | mk m h1 h2 h3=>
   have l1:=Xr List.length m.e1
   have l2:=Xr List.length m.e2
   rw [Zn] at l1 l2
   rw [Ya,Ya]
   rfl'
 f:=fun hg p=>by
  cases p with
  | mk m h1 h2 h3=>
   obtain ⟨x1,x2,A3,rfl⟩:=yF h1
   obtain ⟨y1,B3,rfl⟩:=Yq h2
   exact JP k hA kn tw s1 s2 h9 hg m (Nat.succ_pos _) h3
 g:=fun hg p=>by
  cases p with
  | mk m h1 h2 h3=>exact JN k hA kn tw s1 s2 h9 hg m h1 h2 h3
theorem Es (k:Wk B) (hA:An (model prog w) A E s kd a0 B) (kn:kindOf st=kd) (tw: ∀x∈L1,∀y∈L2,Tw a0 y x) (s1:Sd B L1) (s2:Sd B L2) (n1:1<=L1.length) (n2:1<=L2.length)
  (h0: ∀y,L2.head?=some y-> ∀x∈L1,B y x=true) (h9: ∀x,L1.getLast?=some x-> ∀y∈L2,B y x=true) {Q:Array Keyed->SortSt->Prop}
  (q: ∀r z,Gd B L1 L2 r->Sg z st->Q r z):wpS (model prog w) A E s (JF L1.toArray L2.toArray) Q st:=by
 rw [JM]
 refine Zo (wpS_lift (Wb ⟨rfl,?_⟩))
 obtain ⟨y0,L2',rfl⟩:=Yq n2
 obtain ⟨x0,L1',rfl⟩:=Yq n1
 have m0:Ml B (x0::L1') (y0::L2') [] (x0::L1') [y0] L2' [y0]:=
  Ml.b1 (A1:=[]) (B1:=[]) (o:=[]) k s1 s2 ⟨rfl,rfl,⟨.refl _, .nil,fun _ h=>by cases h⟩⟩ (h0 y0 rfl x0 Zq)
 generalize x0::L1'=L1 at*
 generalize y0::L2'=L2 at*
 have hb:=m0.e2
 have ha:=m0.e1
 refine Zo (bf (A1:=[]) hb ?_)
 have c1:=yI hb
 have c2:=Er ha
 rw [show ([y0]:List Keyed).length=1 from rfl] at c1
 rw [show ([]:List Keyed).length=0 from rfl] at c2
 rw [c1,c2]
 by_cases z1:L2'.length=0
 ·rw [if_pos (Ym z1)]
  obtain ⟨r,er,hr⟩:=m0.dn s1 (Zv z1)
  exact Zt (q _ _ ⟨r,er,hr⟩ (Sg.refl _))
 rw [if_neg (by simpa using z1)]
 by_cases z2:L1.length=1
 ·rw [if_pos (Ym z2)]
  obtain ⟨r,er,hr⟩:=m0.la k s2 h9 z2
  exact Zt (q _ _ ⟨r,er,hr⟩ (Sg.refl _))
 rw [if_neg (by simpa using z2)]
 refine Zo (wpS_get ?_)
 exact uB (Od k hA kn tw s1 s2 h9) (PL.mk m0 (by rfl') (by rfl') (Zh _)) q
end
noncomputable abbrev HS:=ForInStep (Option (Array Keyed)×Nat×Nat×Array Keyed×Nat×Nat×Nat)
noncomputable def H3 (a b o:Array Keyed) (p q mg ac k:Nat):StateT SortSt Sem HS:=do
 let u <- elem' a (p-1)
 if (p-1==0)=true then
  pure (.done (some (a.extract 0 (p-1)++b.extract 0 q++(o.push u).reverse),p-1,q,o.push u,mg,ac,k))
 else if (decide (ac<7)&&decide (k<7))=true then pure (.done (none,p-1,q,o.push u,mg,ac,k))
 else pure (.yield (none,p-1,q,o.push u,mg,ac,k))
noncomputable def H2 (a b o:Array Keyed) (p q mg ac bc:Nat):StateT SortSt Sem HS:=do
 let u <- elem' b (q-1)
 if (q-1==1)=true then
  pure (.done (some (b.extract 0 (q-1)++a.extract 0 p++(o.push u).reverse),p,q-1,o.push u,mg,ac,bc))
 else do
  let v <- elem' a (p-1)
  let x <- nG true v b 0 (q-1) (q-1-1)
  match x with
  | some f=>
   if q-1-f>0 then
    if (f==1)=true then
     pure (.done (some (b.extract 0 f++a.extract 0 p++(o.push u++(b.extract f (q-1)).reverse).reverse),p,f,o.push u++(b.extract f (q-1)).reverse,mg,ac,q-1-f))
    else if (f==0)=true then
     pure (.done (some (a.extract 0 p++b.extract 0 f++(o.push u++(b.extract f (q-1)).reverse).reverse),p,f,o.push u++(b.extract f (q-1)).reverse,mg,ac,q-1-f))
    else H3 a b (o.push u++(b.extract f (q-1)).reverse) p f mg ac (q-1-f)
   else H3 a b (o.push u) p (q-1) mg ac (q-1-f)
  | _=>pure (.done (some (a.extract 0 p++b.extract 0 (q-1)++(o.push u).reverse),p,q-1,o.push u,mg,ac,bc))
noncomputable def H1 (a b o:Array Keyed) (p q mg ac bc:Nat):StateT SortSt Sem HS:=do
 Eo mg
 let u <- elem' b (q-1)
 let x <- nG false u a 0 p (p-1)
 match x with
 | some f=>
  if p-f>0 then
   if (f==0)=true then
    pure (.done (some (a.extract 0 f++b.extract 0 q++(o++(a.extract f p).reverse).reverse),f,q,o++(a.extract f p).reverse,mg,p-f,bc))
   else H2 a b (o++(a.extract f p).reverse) f q mg (p-f) bc
  else H2 a b o p q mg (p-f) bc
 | _=>pure (.done (some (a.extract 0 p++b.extract 0 q++o.reverse),p,q,o,mg,ac,bc))
noncomputable def E1 (a b:Array Keyed) (mg p q:Nat) (o:Array Keyed) (ac bc:Nat):StateT SortSt Sem (ForInStep (Option (Array Keyed)×Nat×Nat×Array Keyed×Nat×Nat)):=do
 let y <- elem' b (q-1)
 let x <- elem' a (p-1)
 match <- lt' y x with
 | some aw=>
  if aw=true then do
   let u <- elem' a (p-1)
   if (p-1==0)=true then pure (.done (some (a.extract 0 (p-1)++b.extract 0 q++(o.push u).reverse),p-1,q,o.push u,ac+1,0))
   else if ac+1>=mg then pure (.done (none,p-1,q,o.push u,ac+1,0))
   else pure (.yield (none,p-1,q,o.push u,ac+1,0))
  else do
   let u <- elem' b (q-1)
   if (q-1==1)=true then pure (.done (some (b.extract 0 (q-1)++a.extract 0 p++(o.push u).reverse),p,q-1,o.push u,0,bc+1))
   else if bc+1>=mg then pure (.done (none,p,q-1,o.push u,0,bc+1))
   else pure (.yield (none,p,q-1,o.push u,0,bc+1))
 | _=>pure (.done (some (a.extract 0 p++b.extract 0 q++o.reverse),p,q,o,ac,bc))
theorem JQ (a b:Array Keyed):JG a b=(do
 rule "list.sort.merge-hi"
 let x <- elem' a (a.size-1)
 if (a.size-1==0)=true then pure (a.extract 0 (a.size-1)++b.extract 0 b.size++ #[x].reverse)
 else if (b.size==1)=true then pure (b.extract 0 b.size++a.extract 0 (a.size-1)++ #[x].reverse)
 else do
  let st <- get
  QS (a.size+b.size) (E1 a b) (fun p q o mg ac bc=>H1 a b o p q mg ac bc) (none,a.size-1,b.size,#[x],gallopOf st)):=by kernel_rfl
structure Mh (B:Keyed->Keyed->Bool) (L1 L2 A1 A2 B1 B2 o:List Keyed):Prop where
 e1:L1=A1++A2
 e2:L2=B1++B2
 pm:o.Perm (A2++B2)
 sd:Sd B o
 le: ∀x∈o,∀y,y∈A1\/y∈B1->B x y=false
section
variable {B:Keyed->Keyed->Bool} {L1 L2 A1 A2 B1 B2 o K:List Keyed} {x y:Keyed}
theorem Mh.ak (k:Wk B) (s1:Sd B L1) (s2:Sd B L2) (m:Mh B L1 L2 (A1++K) A2 (B1++[y]) B2 o) (h: ∀x∈K,B y x=true):Mh B L1 L2 A1 (K++A2) (B1++[y]) B2 (K++o):=by
 obtain ⟨_,sK,sx⟩:=Yj.mp (Sd.lf (m.e1▸s1):Sd B (A1++K))
 obtain ⟨_,_,sy⟩:=Yj.mp (Sd.lf (m.e2▸s2):Sd B (B1++[y]))
 refine ⟨by rw [m.e1,Ye],m.e2,by rw [Ye];exact m.pm.append_left K,Yj.mpr ⟨sK,m.sd,fun u hu v hv=>m.le v hv u (.inl (Yi _ hu))⟩,fun u hu v hv=> ?_⟩
 rcases Yc.mp hu with hu | hu
 ·rcases hv with hv | hv
  ·exact sx v hv u hu
  ·rcases Yc.mp hv with hv | hv
   ·exact k.tr (sy v hv y (Zf.mpr rfl)) (k.an (h u hu))
   ·rw [Zf.mp hv];exact k.an (h u hu)
 ·exact m.le u hu v (hv.imp (Xf _) id)
theorem Mh.bk (k:Wk B) (s1:Sd B L1) (s2:Sd B L2) (m:Mh B L1 L2 (A1++[x]) A2 (B1++K) B2 o) (h: ∀y∈K,B y x=false):Mh B L1 L2 (A1++[x]) A2 B1 (K++B2) (K++o):=by
 obtain ⟨_,sK,sx⟩:=Yj.mp (Sd.lf (m.e2▸s2):Sd B (B1++K))
 obtain ⟨_,_,sy⟩:=Yj.mp (Sd.lf (m.e1▸s1):Sd B (A1++[x]))
 refine ⟨m.e1,by rw [m.e2,Ye],?_,Yj.mpr ⟨sK,m.sd,fun u hu v hv=>m.le v hv u (.inr (Yi _ hu))⟩,fun u hu v hv=> ?_⟩
 ·refine (m.pm.append_left K).trans ?_
  rw [<- Ye,<- Ye]
  exact (List.perm_append_comm (l₁:=K)).append_right B2
 rcases Yc.mp hu with hu | hu
 ·rcases hv with hv | hv
  ·rcases Yc.mp hv with hv | hv
   ·exact k.tr (sy v hv x (Zf.mpr rfl)) (h u hu)
   ·rw [Zf.mp hv];exact h u hu
  ·exact sx v hv u hu
 ·exact m.le u hu v (hv.imp id (Xf _))
theorem Mh.a1 (k:Wk B) (s1:Sd B L1) (s2:Sd B L2) (m:Mh B L1 L2 (A1++[x]) A2 (B1++[y]) B2 o) (h:B y x=true):Mh B L1 L2 A1 (x::A2) (B1++[y]) B2 (x::o):=
 Mh.ak (K:=[x]) k s1 s2 m fun u hu=>by rw [Zf.mp hu];exact h
theorem Mh.b1 (k:Wk B) (s1:Sd B L1) (s2:Sd B L2) (m:Mh B L1 L2 (A1++[x]) A2 (B1++[y]) B2 o) (h:B y x=false):Mh B L1 L2 (A1++[x]) A2 B1 (y::B2) (y::o):=
 Mh.bk (K:=[y]) k s1 s2 m fun u hu=>by rw [Zf.mp hu];exact h
theorem gD {L A1 A2:List Keyed} (e:L=A1++A2):L.toArray.extract 0 A1.length=A1.toArray:=by
 subst e
 apply Array.toList_inj.mp
 simp
theorem Mh.tl (m:Mh B L1 L2 A1 A2 B1 B2 o) {T:List Keyed} (hp:T.Perm (A1++B1)) (st:Sd B T):(T++o).Perm (L1++L2)/\Sd B (T++o):=by
 refine ⟨((hp.append m.pm).trans ?_),Yj.mpr ⟨st,m.sd,fun u hu v hv=>m.le v hv u (Yc.mp (hp.mem_iff.mp hu))⟩⟩
 rw [m.e1,m.e2,Ye,Ye,<- Ye B1,<- Ye A2]
 exact ((List.perm_append_comm (l₁:=B1)).append_right B2).append_left A1
theorem Mh.dn (s2:Sd B L2) (m:Mh B L1 L2 A1 A2 B1 B2 o) (h:A1=[]):Gd B L1 L2 (L1.toArray.extract 0 A1.length++L2.toArray.extract 0 B1.length++o.reverse.toArray.reverse):=by
 subst h
 rw [gD m.e1,gD m.e2]
 refine ⟨B1++o,by simp,m.tl (by rw [List.nil_append]) (Sd.lf (m.e2▸s2))⟩
theorem Mh.dn' (s1:Sd B L1) (m:Mh B L1 L2 A1 A2 B1 B2 o) (h:B1=[]):Gd B L1 L2 (L1.toArray.extract 0 A1.length++L2.toArray.extract 0 B1.length++o.reverse.toArray.reverse):=by
 subst h
 rw [gD m.e1,gD m.e2]
 refine ⟨A1++o,by simp,m.tl (by rw [Yx]) (Sd.lf (m.e1▸s1))⟩
theorem Mh.fb (k:Wk B) (s1:Sd B L1) (h0: ∀y,L2.head?=some y-> ∀x∈L1,B y x=true) (m:Mh B L1 L2 A1 A2 B1 B2 o) (h:B1.length=1):Gd B L1 L2 (L2.toArray.extract 0 B1.length++L1.toArray.extract 0 A1.length++o.reverse.toArray.reverse):=by
 obtain ⟨y,rfl⟩:=yG h
 rw [gD m.e1,gD m.e2]
 refine ⟨[y]++A1++o,by simp,m.tl List.perm_append_comm (Yj.mpr ⟨List.pairwise_singleton _ _,Sd.lf (m.e1▸s1),fun u hu v hv=> ?_⟩)⟩
 rw [Zf.mp hu]
 exact k.an (h0 y (by rw [m.e2];rfl) v (by rw [m.e1];exact Xf _ hv))
theorem cL {l:List Keyed} (h:1<=l.length): ∃r x,l=r++[x]:=by
 rcases List.eq_nil_or_concat l with rfl | ⟨r,x,e⟩
 ·cases h
 ·exact ⟨r,x,by rw [e];simp⟩
theorem mv {L A1 A2:List Keyed} {x:Keyed} (e:L=A1++[x]++A2):L=A1++x::A2:=by rw [e];simp
end
section
variable {prog:Program} {w:World} {A:Around} {E:Value->Shared->Prop} {s:Shared} {kd:SortKind} {a0:Array Keyed} {B:Keyed->Keyed->Bool} {st:SortSt} {L1 L2:List Keyed}
inductive PH (B:Keyed->Keyed->Bool) (L1 L2:List Keyed) (n:Nat):Nat->Nat->Array Keyed->Prop
 | mk {A1 A2 B1 B2 o:List Keyed} (m:Mh B L1 L2 A1 A2 B1 B2 o) (h1:1<=A1.length) (h2:2<=B1.length) (h3:n+1<=A2.length+B2.length):PH B L1 L2 n A1.length B1.length o.reverse.toArray
theorem QT (o:List Keyed) (x:Keyed):o.reverse.toArray.push x=(x::o).reverse.toArray:=by simp
theorem Oe (o K:List Keyed):o.reverse.toArray++K.toArray.reverse=(K++o).reverse.toArray:=by simp
theorem yM (k:Wk B) (s1:Sd B L1) (s2:Sd B L2) {z:SortSt} (hg:Sg z st)
  {A1 A2 B1 B2 o:List Keyed} {y x:Keyed} {mg ac bc n:Nat} (m:Mh B L1 L2 (A1++[x]) A2 (B1++[y]) B2 o) (e:B y x=true) (hB1:1<=B1.length) (hn:n+1<=A2.length+B2.length):
  wpS (model prog w) A E s (H3 L1.toArray L2.toArray o.reverse.toArray (A1++[x]).length (B1++[y]).length mg ac bc) (fun r z'=>Sg z' st/\Sr (Gd B L1 L2) (PH B L1 L2) (n+1) r) z:=by
 unfold H3
 have m':=m.a1 k s1 s2 e
 rw [b8 A1 x,Nat.add_sub_cancel]
 refine Zo (bf (mv m.e1) ?_)
 rw [QT]
 by_cases z1:A1.length=0
 ·rw [if_pos (by simpa using z1)]
  exact Zt ⟨hg, .dn (m'.dn s2 (Zv z1))⟩
 ·rw [if_neg (by simpa using z1)]
  have b:n+1+1<=(x::A2).length+B2.length:=by rw [Yv];rfl'
  by_cases z3:(decide (ac<7)&&decide (bc<7))=true
  ·rw [if_pos z3]
   exact Zt ⟨hg, .go ⟨m',by rfl',by rw [b8];rfl',b⟩⟩
  ·rw [if_neg z3]
   exact Zt ⟨hg, .go ⟨m',by rfl',by rw [b8];rfl',b⟩⟩
theorem yN (k:Wk B) (hA:An (model prog w) A E s kd a0 B) (kn:kindOf st=kd) (tw: ∀x∈L1,∀y∈L2,Tw a0 y x) (s1:Sd B L1) (s2:Sd B L2) (h0: ∀y,L2.head?=some y-> ∀x∈L1,B y x=true) {z:SortSt} (hg:Sg z st)
  {A1 A2 B1 B2 o:List Keyed} {y x:Keyed} {mg ac bc n:Nat} (m:Mh B L1 L2 (A1++[x]) A2 (B1++[y]) B2 o) (e:B y x=false) (hB1:1<=B1.length) (hn:n+1<=A2.length+B2.length):
  wpS (model prog w) A E s (H2 L1.toArray L2.toArray o.reverse.toArray (A1++[x]).length (B1++[y]).length mg ac bc) (fun r z'=>Sg z' st/\Sr (Gd B L1 L2) (PH B L1 L2) (n+1) r) z:=by
 have kz:kindOf z=kd:=by obtain ⟨g,rfl⟩:=hg;exact kn
 unfold H2
 have m':=m.b1 k s1 s2 e
 rw [b8 B1 y,Nat.add_sub_cancel]
 refine Zo (bf (mv m.e2) ?_)
 rw [QT]
 by_cases z1:B1.length=1
 ·rw [if_pos (by simpa using z1)]
  exact Zt ⟨hg, .dn (m'.fb k s1 h0 z1)⟩
 rw [if_neg (by simpa using z1)]
 rw [show (A1++[x]).length-1=A1.length by rw [b8,Nat.add_sub_cancel]]
 refine Zo (bf (mv m.e1) ?_)
 have sB:Sd B B1:=Sd.lf (m'.e2▸s2)
 have hx:x∈L1:=by rw [m.e1];simp
 refine Zo (yE k hA kz (A1:=[]) (A2:=B1) (A3:=y::B2) m'.e2 sB (fun u hu=>tw x hx u (by rw [m'.e2];exact Xf _ hu)) (by rfl') fun K R eK hK hR=> ?_)
 dsimp only
 subst eK
 rw [show (K++R).length-K.length=R.length by simp]
 by_cases z2:R.length>0
 ·have m2:=m'.bk k s1 s2 hR
  rw [if_pos z2,show (K++R).length=K.length+R.length by simp,gC (A2:=y::B2) (by rw [m'.e2];simp),Oe (y::o) R]
  by_cases z3:K.length=1
  ·rw [if_pos (by simpa using z3)]
   exact Zt ⟨hg, .dn (m2.fb k s1 h0 z3)⟩
  rw [if_neg (by simpa using z3)]
  by_cases z4:K.length=0
  ·rw [if_pos (by simpa using z4)]
   exact Zt ⟨hg, .dn (m2.dn' s1 (Zv z4))⟩
  rw [if_neg (by simpa using z4)]
  obtain ⟨K',y2,rfl⟩:=cL (Wm z4)
  exact yM k s1 s2 hg m2 (hK _ (by simp)) (by rw [b8] at z3;rfl') (by simp only [Zn,Yv];rfl')
 ·rw [if_neg z2]
  obtain rfl:R=[]:=Zv (by rfl')
  rw [Yx] at z1 m' hB1 ⊢
  obtain ⟨K',y2,rfl⟩:=cL hB1
  exact yM k s1 s2 hg m' (hK _ (by simp)) (by rw [b8] at z1;rfl') (by simp only [Zn,Yv];rfl')
theorem JR (k:Wk B) (hA:An (model prog w) A E s kd a0 B) (kn:kindOf st=kd) (tw: ∀x∈L1,∀y∈L2,Tw a0 y x) (s1:Sd B L1) (s2:Sd B L2) (h0: ∀y,L2.head?=some y-> ∀x∈L1,B y x=true) {z:SortSt} (hg:Sg z st)
  {A1 A2 B1 B2 o:List Keyed} {mg ac bc n:Nat} (m:Mh B L1 L2 A1 A2 B1 B2 o) (hA1:1<=A1.length) (hB1:2<=B1.length) (hn:n+1<=A2.length+B2.length):
  wpS (model prog w) A E s (H1 L1.toArray L2.toArray o.reverse.toArray A1.length B1.length mg ac bc) (fun r z'=>Sg z' st/\Sr (Gd B L1 L2) (PH B L1 L2) (n+1) r) z:=by
 obtain ⟨g,rfl⟩:=hg
 unfold H1
 refine Zo (nH ?_)
 obtain ⟨B1,y,rfl⟩:=cL (Xq hB1)
 have hy:y∈L2:=by rw [m.e2];simp
 have hg:Sg (SortSt.mk' (kindOf st) (arrOf st) (pendingOf st) mg (failedOf st)) st:=⟨_,rfl⟩
 have kz:kindOf (SortSt.mk' (kindOf st) (arrOf st) (pendingOf st) mg (failedOf st))=kd:=kn
 rw [show (B1++[y]).length-1=B1.length by rw [b8,Nat.add_sub_cancel]]
 refine Zo (bf (mv m.e2) ?_)
 have sA:Sd B A1:=Sd.lf (m.e1▸s1)
 refine Zo (yD k hA kz (A1:=[]) (A2:=A1) (A3:=A2) m.e1 sA (fun u hu=>tw u (by rw [m.e1];exact Xf _ hu) y hy) (by rfl') fun K R eK hK hR=> ?_)
 dsimp only
 subst eK
 rw [b8] at hB1
 rw [show (K++R).length-K.length=R.length by simp]
 by_cases z2:R.length>0
 ·have m2:=m.ak k s1 s2 hR
  rw [if_pos z2,show (K++R).length=K.length+R.length by simp,gC (A2:=A2) (by rw [m.e1];simp),Oe o R]
  by_cases z3:K.length=0
  ·rw [if_pos (by simpa using z3)]
   exact Zt ⟨hg, .dn (m2.dn s2 (Zv z3))⟩
  rw [if_neg (by simpa using z3)]
  obtain ⟨K',x,rfl⟩:=cL (Wm z3)
  exact yN k hA kn tw s1 s2 h0 hg m2 (hK _ (by simp)) (by rfl') (by simp only [Zn];rfl')
 ·rw [if_neg z2]
  obtain rfl:R=[]:=Zv (by rfl')
  rw [Yx] at hA1 m ⊢
  obtain ⟨K',x,rfl⟩:=cL hA1
  exact yN k hA kn tw s1 s2 h0 hg m (hK _ (by simp)) (by rfl') hn
theorem JS (k:Wk B) (hA:An (model prog w) A E s kd a0 B) (kn:kindOf st=kd) (tw: ∀x∈L1,∀y∈L2,Tw a0 y x) (s1:Sd B L1) (s2:Sd B L2) (h0: ∀y,L2.head?=some y-> ∀x∈L1,B y x=true) {z:SortSt} (hg:Sg z st)
  {A1 A2 B1 B2 o:List Keyed} {y x:Keyed} {mg ac bc n:Nat} (m:Mh B L1 L2 (A1++[x]) A2 (B1++[y]) B2 o) (hB1:1<=B1.length) (hn:n+1<=A2.length+B2.length):
  wpS (model prog w) A E s (E1 L1.toArray L2.toArray mg (A1++[x]).length (B1++[y]).length o.reverse.toArray ac bc) (fun r z'=>z'=z/\Sr (Gd B L1 L2) (PH B L1 L2) (n+1) r) z:=by
 have kz:kindOf z=kd:=by obtain ⟨g,rfl⟩:=hg;exact kn
 unfold E1
 have e3:(B1++[y]).length-1=B1.length:=by rw [b8,Nat.add_sub_cancel]
 have e4:(A1++[x]).length-1=A1.length:=by rw [b8,Nat.add_sub_cancel]
 rw [e3,e4]
 refine Zo (bf (mv m.e2) (Zo (bf (mv m.e1) (Zo (hA _ _ _ _ kz (tw x (by rw [m.e1];simp) y (by rw [m.e2];simp)) ?_)))))
 dsimp only
 cases e:B y x with
 | true=>
  rw [if_pos rfl]
  refine Zo (bf (mv m.e1) ?_)
  have m':=m.a1 k s1 s2 e
  rw [QT]
  by_cases z1:A1.length=0
  ·rw [if_pos (by simpa using z1)]
   exact Zt ⟨rfl, .dn (m'.dn s2 (Zv z1))⟩
  ·rw [if_neg (by simpa using z1)]
   have p:PH B L1 L2 (n+1) _ _ _:=⟨m',Wm z1,by rw [b8];exact Nat.succ_le_succ hB1,by rw [Yv];rfl'⟩
   by_cases z3:ac+1>=mg
   ·rw [if_pos z3];exact Zt ⟨rfl, .go p⟩
   ·rw [if_neg z3];exact Zt ⟨rfl, .go p⟩
 | false=>
  rw [if_neg Zl]
  refine Zo (bf (mv m.e2) ?_)
  have m':=m.b1 k s1 s2 e
  rw [QT]
  by_cases z1:B1.length=1
  ·rw [if_pos (by simpa using z1)]
   exact Zt ⟨rfl, .dn (m'.fb k s1 h0 z1)⟩
  ·rw [if_neg (by simpa using z1)]
   have p:PH B L1 L2 (n+1) _ _ _:=⟨m',by rw [b8];exact Nat.succ_pos _,by rfl',by rw [Yv];rfl'⟩
   by_cases z3:bc+1>=mg
   ·rw [if_pos z3];exact Zt ⟨rfl, .go p⟩
   ·rw [if_neg z3];exact Zt ⟨rfl, .go p⟩
theorem Og (k:Wk B) (hA:An (model prog w) A E s kd a0 B) (kn:kindOf st=kd) (tw: ∀x∈L1,∀y∈L2,Tw a0 y x) (s1:Sd B L1) (s2:Sd B L2) (h0: ∀y,L2.head?=some y-> ∀x∈L1,B y x=true):
  Gn prog w A E s st (Gd B L1 L2) (PH B L1 L2) (L1.toArray.size+L2.length) (E1 L1.toArray L2.toArray) (fun p q o mg ac bc=>H1 L1.toArray L2.toArray o p q mg ac bc) where
 mo:=fun h p=>by cases p with | mk m h1 h2 h3=>exact ⟨m,h1,h2,Yk (Nat.succ_le_succ h) h3⟩
 lt:=fun p=>by
  cases p with
  | mk m h1 h2 h3=>
   have l1:=Xr List.length m.e1
   have l2:=Xr List.length m.e2
   rw [Zn] at l1 l2
   rw [Ya]
   rfl'
 f:=fun hg p=>by
  cases p with
  | mk m h1 h2 h3=>
   obtain ⟨A1,x1,rfl⟩:=cL h1
   obtain ⟨B1,y1,rfl⟩:=cL (Xq h2)
   exact JS k hA kn tw s1 s2 h0 hg m (by rw [b8] at h2;rfl') h3
 g:=fun hg p=>by
  cases p with
  | mk m h1 h2 h3=>exact JR k hA kn tw s1 s2 h0 hg m h1 h2 h3
theorem Et (k:Wk B) (hA:An (model prog w) A E s kd a0 B) (kn:kindOf st=kd) (tw: ∀x∈L1,∀y∈L2,Tw a0 y x) (s1:Sd B L1) (s2:Sd B L2) (n1:1<=L1.length) (n2:1<=L2.length)
  (h0: ∀y,L2.head?=some y-> ∀x∈L1,B y x=true) (h9: ∀x,L1.getLast?=some x-> ∀y∈L2,B y x=true) {Q:Array Keyed->SortSt->Prop}
  (q: ∀r z,Gd B L1 L2 r->Sg z st->Q r z):wpS (model prog w) A E s (JG L1.toArray L2.toArray) Q st:=by
 rw [JQ]
 refine Zo (wpS_lift (Wb ⟨rfl,?_⟩))
 obtain ⟨L1',x0,rfl⟩:=cL n1
 obtain ⟨L2',y0,rfl⟩:=cL n2
 have m0:Mh B (L1'++[x0]) (L2'++[y0]) L1' [x0] (L2'++[y0]) [] [x0]:=
  Mh.a1 (A2:=[]) (B2:=[]) (o:=[]) k s1 s2 ⟨by simp,by simp, .refl _, .nil,fun _ h=>by cases h⟩ (h9 x0 (jR rfl) y0 (by simp))
 have sz:(L1'++[x0]).toArray.size-1=L1'.length:=by simp
 have sz2:(L2'++[y0]).toArray.size=(L2'++[y0]).length:=by simp
 rw [sz,sz2]
 generalize L1'++[x0]=L1 at*
 generalize L2'++[y0]=L2 at*
 refine Zo (bf m0.e1 ?_)
 by_cases z1:L1'.length=0
 ·rw [if_pos (by simpa using z1)]
  exact Zt (q _ _ (m0.dn s2 (Zv z1)) (Sg.refl _))
 rw [if_neg (by simpa using z1)]
 by_cases z2:L2.length=1
 ·rw [if_pos (by simpa using z2)]
  exact Zt (q _ _ (m0.fb k s1 h0 z2) (Sg.refl _))
 rw [if_neg (by simpa using z2)]
 refine Zo (wpS_get ?_)
 exact uB (Og k hA kn tw s1 s2 h0) (PH.mk (o:=[x0]) m0 (by rfl') (by rfl') (Zh _)) q
end
theorem JT (i:Nat):mergeAt' i=(do
 let s <- get
 let (some (sa,na,pw),some (sb,nb,_)):=((pendingOf s)[i]?,(pendingOf s)[i+1]?) | unsupported "internal:list.sort.pending"
 set (SortSt.mk' (kindOf s) (arrOf s) (((pendingOf s).setIfInBounds i (sa,na+nb,pw)).eraseIdxIfInBounds (i+1)) (gallopOf s) (failedOf s))
 let some k <- nG false (<- elem' (arrOf s) sb) (arrOf s) sa na 0 | return false
 let (sa,na):=(sa+k,na-k)
 if na==0 then return true
 let some nb <- nG true (<- elem' (arrOf s) (sa+na-1)) (arrOf s) sb nb (nb-1) | return false
 if nb==0 then return true
 let x:=(arrOf s).extract sa sb
 let y:=(arrOf s).extract sb (sb+nb)
 let mm <- if na<=nb then JF x y else JG x y
 modify fun s=>setArr s (mm.toList.zipIdx.foldl (fun a (p,j)=>a.setIfInBounds (sa+j) p) (arrOf s))
 return (failedOf (<- get)).isNone):=rfl
theorem wb (sa:Nat) (S:List Keyed): ∀ (l M P:List Keyed) (j:Nat),M.length=l.length->sa+j=P.length->((l.zipIdx j).foldl (fun (a:Array Keyed) (p:Keyed×Nat)=>a.setIfInBounds (sa+p.2) p.1) (P++(M++S)).toArray)=(P++(l++S)).toArray
 | [],M,P,j,h1,_=>by
  obtain rfl:M=[]:=Zv h1
  rfl
 | x::l,M,P,j,h1,h2=>by
  obtain ⟨m,M,rfl⟩:=Yq (Nat.lt_of_lt_of_eq (Nat.succ_pos _) h1.symm)
  rw [List.zipIdx_cons,List.foldl_cons]
  have e:(P++(m::M++S)).toArray.setIfInBounds (sa+j) x=((P++[x])++(M++S)).toArray:=by
   apply Array.toList_inj.mp
   rw [Array.toList_setIfInBounds,h2]
   simp
  dsimp only
  rw [e,wb sa S l M (P++[x]) (j+1) (by simpa using h1) (by simp;rfl')]
  simp
theorem yO {a0:Array Keyed} {P L1 L2 S:List Keyed} (hp:(P++(L1++(L2++S))).Perm a0.toList) {x y:Keyed} (hx:x∈L1) (hy:y∈L2):Tw a0 y x:=by
 obtain ⟨a,b,rfl⟩:=List.append_of_mem hx
 obtain ⟨c,d,rfl⟩:=List.append_of_mem hy
 refine ⟨P++a++b++c++d++S,List.Perm.trans ?_ hp⟩
 have h1:(P++(a++x::b++(c++y::d++S))).Perm (x::(P++a++(b++(c++y::d++S)))):=by
  rw [show P++(a++x::b++(c++y::d++S))=(P++a)++x::(b++(c++y::d++S)) by simp]
  exact List.perm_middle
 have h2:(P++a++(b++(c++y::d++S))).Perm (y::(P++a++b++c++d++S)):=by
  rw [show P++a++(b++(c++y::d++S))=(P++a++b++c)++y::(d++S) by simp,show P++a++b++c++d++S=(P++a++b++c)++(d++S) by simp]
  exact List.perm_middle
 exact ((List.Perm.swap x y _).trans (h2.symm.cons x)).trans h1.symm
section
variable {prog:Program} {w:World} {A:Around} {E:Value->Shared->Prop} {s:Shared} {kd:SortKind} {a0:Array Keyed} {B:Keyed->Keyed->Bool} {st:SortSt}
theorem Eu (k:Wk B) (hA:An (model prog w) A E s kd a0 B) (kn:kindOf st=kd) (fl:failedOf st=none) {pre post:List (Nat×Nat×Nat)} {P L1 L2 S:List Keyed} {pw pw':Nat} {Q:Bool->SortSt->Prop}
  (hp:(pendingOf st).toList=pre++(P.length,L1.length,pw)::(P.length+L1.length,L2.length,pw')::post) (hx:arrOf st=(P++(L1++(L2++S))).toArray) (pm:(arrOf st).Perm a0) (s1:Sd B L1) (s2:Sd B L2) (n1:1<=L1.length) (n2:1<=L2.length)
  (q: ∀z L,kindOf z=kd->failedOf z=none->(pendingOf z).toList=pre++(P.length,L1.length+L2.length,pw)::post->L.Perm (L1++L2)->Sd B L->arrOf z=(P++(L++S)).toArray->Q true z):wpS (model prog w) A E s (mergeAt' pre.length) Q st:=by
 rw [JT]
 refine Zo (wpS_get ?_)
 have p1:(pendingOf st)[pre.length]? =some (P.length,L1.length,pw):=by rw [<- Yr,hp];simp
 have p2:(pendingOf st)[pre.length+1]? =some (P.length+L1.length,L2.length,pw'):=by
  rw [<- Yr,hp,Wv (Nat.le_add_right _ _),Nat.add_sub_cancel_left];rfl
 rw [p1,p2]
 dsimp only
 have np:(((pendingOf st).setIfInBounds pre.length (P.length,L1.length+L2.length,pw)).eraseIdxIfInBounds (pre.length+1)).toList=pre++(P.length,L1.length+L2.length,pw)::post:=by
  rw [Array.toList_eraseIdxIfInBounds,Array.toList_setIfInBounds,hp,List.set_append_right _ _ (Zh _),Nat.sub_self,List.eraseIdx_append_of_length_le (Nat.le_add_right _ _),Nat.add_sub_cancel_left]
  rfl
 generalize ((pendingOf st).setIfInBounds pre.length (P.length,L1.length+L2.length,pw)).eraseIdxIfInBounds (pre.length+1)=p' at np ⊢
 have hpm:(P++(L1++(L2++S))).Perm a0.toList:=by have:=Wg.mp pm;rwa [hx] at this
 rw [hx]
 refine Zo (m:=set _) (wpS_modify (f:=fun _=>SortSt.mk' (kindOf st) (P++(L1++(L2++S))).toArray p' (gallopOf st) (failedOf st)) ?_)
 obtain ⟨y,L2',rfl⟩:=Yq n2
 rw [<- Zn]
 refine Zo (bf (A1:=P++L1) (x:=y) (A2:=L2'++S) (by simp) ?_)
 have kz:kindOf (SortSt.mk' (kindOf st) (P++(L1++(y::L2'++S))).toArray p' (gallopOf st) (failedOf st))=kd:=kn
 refine Zo (yD k hA kz (A1:=P) (A2:=L1) (A3:=y::L2'++S) rfl s1 (fun u hu=>yO hpm hu Zq) (by rfl') fun K R eK hK hR=> ?_)
 dsimp only
 subst eK
 have le2: ∀v∈y::L2',B v y=false:=fun v hv=>by
  rcases Zu.mp hv with rfl | hv
  ·exact k.rf _
  ·exact List.rel_of_pairwise_cons s2 hv
 rw [show (K++R).length-K.length=R.length by simp]
 by_cases z1:R.length=0
 ·rw [if_pos (by simpa using z1)]
  obtain rfl:R=[]:=Zv z1
  refine Zt (q _ (K++[]++y::L2') kn fl np (.refl _) (Yj.mpr ⟨s1,s2,fun u hu v hv=>k.tr (hK u (by simpa using hu)) (le2 v hv)⟩) (by simp))
 rw [if_neg (by simpa using z1)]
 obtain ⟨R',x,rfl⟩:=cL (Wm z1)
 rw [show P.length+K.length+(R'++[x]).length-1=(P++K++R').length by simp;rfl']
 refine Zo (bf (A1:=P++K++R') (x:=x) (A2:=y::L2'++S) (by simp) ?_)
 have hx1:x∈K++(R'++[x]):=by simp
 refine Zo (yE k hA kz (A1:=P++(K++(R'++[x]))) (A2:=y::L2') (A3:=S) (by simp) s2 (fun u hu=>yO hpm hx1 hu) (by simp) fun K2 R2 eK2 hK2 hR2=> ?_)
 dsimp only
 have lex: ∀u∈R'++[x],B x u=false:=fun u hu=>by
  rcases Yc.mp hu with hu | hu
  ·exact (Yj.mp (Sd.rt s1:Sd B (R'++[x]))).2.2 u hu x (by simp)
  ·rw [Zf.mp hu];exact k.rf _
 have leK: ∀u∈K++(R'++[x]),B x u=false:=fun u hu=>by
  rcases Yc.mp hu with hu | hu
  ·exact (Yj.mp s1).2.2 u hu x (by simp)
  ·exact lex u hu
 by_cases z2:K2.length=0
 ·rw [if_pos (by simpa using z2)]
  obtain rfl:K2=[]:=Zv z2
  refine Zt (q _ (K++(R'++[x])++y::L2') kn fl np (.refl _) (Yj.mpr ⟨s1,s2,fun u hu v hv=>k.tr (leK u hu) (hR2 v (by rw [eK2] at hv;simpa using hv))⟩) (by simp))
 rw [if_neg (by simpa using z2)]
 obtain ⟨y',K2',rfl⟩:=Yq (Wm z2)
 obtain rfl:y=y':=(List.cons.inj eK2).1
 obtain rfl:L2'=K2'++R2:=(List.cons.inj eK2).2
 have x1:(P++(K++(R'++[x])++(y::(K2'++R2)++S))).toArray.extract (P.length+K.length) (P++(K++(R'++[x]))).length=(R'++[x]).toArray:=by
  have:=gC (L:=P++(K++(R'++[x])++(y::(K2'++R2)++S))) (A1:=P++K) (K:=R'++[x]) (A2:=y::(K2'++R2)++S) (by simp)
  rw [<- this]
  congr 1<;>simp<;>rfl'
 have x2:(P++(K++(R'++[x])++(y::(K2'++R2)++S))).toArray.extract (P++(K++(R'++[x]))).length ((P++(K++(R'++[x]))).length+(y::K2').length)=(y::K2').toArray:=
  gC (A1:=P++(K++(R'++[x]))) (K:=y::K2') (A2:=R2++S) (by simp)
 rw [x1,x2]
 have sR:Sd B (R'++[x]):=Sd.rt s1
 have sK:Sd B (y::K2'):=Sd.lf (A2:=R2) s2
 have fin: ∀r z,Gd B (R'++[x]) (y::K2') r->Sg z (SortSt.mk' (kindOf st) (P++(K++(R'++[x])++(y::(K2'++R2)++S))).toArray p' (gallopOf st) (failedOf st))->
   wpS (model prog w) A E s (do modify fun s=>setArr s (r.toList.zipIdx.foldl (fun a (p,j)=>a.setIfInBounds (P.length+K.length+j) p) (arrOf s));return (failedOf (<- get)).isNone) Q z:=by
  intro r z ⟨l,er,lp,ls⟩ ⟨g,ez⟩
  subst er
  subst ez
  refine Zo (wpS_modify (Zo (wpS_get (Zt ?_))))
  have hw:=wb (P.length+K.length) (R2++S) l (R'++[x]++y::K2') (P++K) 0 (by rw [lp.length_eq]) (by simp)
  have e9:(P++(K++(R'++[x])++(y::(K2'++R2)++S))).toArray=((P++K)++(R'++[x]++y::K2'++(R2++S))).toArray:=by simp
  have key:=q (SortSt.mk' (kindOf st) ((P++K)++(l++(R2++S))).toArray p' g (failedOf st)) (K++l++R2) kn fl np ?_ ?_ (by simp)
  ·rw [show (failedOf (setArr (SortSt.mk' (kindOf st) (P++(K++(R'++[x])++(y::(K2'++R2)++S))).toArray p' g (failedOf st)) _)).isNone=true from Xr Option.isNone fl]
   rw [<- hw,<- e9] at key
   exact key
  ·have:(K++l++R2).Perm (K++(R'++[x]++y::K2')++R2):=(lp.append_left K).append_right R2
   simpa using this
  ·have inl: ∀v∈l,v∈R'++[x]\/v∈y::K2':=fun v hv=>Yc.mp (lp.mem_iff.mp hv)
   have kle: ∀u∈K,∀v∈y::(K2'++R2),B v u=false:=fun u hu v hv=>k.tr (hK u hu) (le2 v hv)
   refine Yj.mpr ⟨List.pairwise_append.mpr ⟨Sd.lf s1,ls,fun u hu v hv=> ?_⟩,Sd.rt (A1:=y::K2') s2,fun u hu v hv=> ?_⟩
   ·rcases inl v hv with hv | hv
    ·exact (Yj.mp s1).2.2 u hu v hv
    ·exact kle u hu v (Xf R2 hv)
   ·rcases Yc.mp hu with hu | hu
    ·exact kle u hu v (Yi (y::K2') hv)
    ·rcases inl u hu with hu | hu
     ·exact k.tr (lex u hu) (hR2 v hv)
     ·exact (Yj.mp (show Sd B ((y::K2')++R2) from s2)).2.2 u hu v hv
 have tw': ∀u∈R'++[x],∀v∈y::K2',Tw a0 v u:=fun u hu v hv=>yO hpm (Yi K hu) (Xf R2 hv)
 have g0: ∀u,(y::K2').head?=some u-> ∀v∈R'++[x],B u v=true:=fun u hu v hv=>by
  cases (Yt hu)
  exact hR v hv
 have g9: ∀u,(R'++[x]).getLast?=some u-> ∀v∈y::K2',B v u=true:=fun u hu v hv=>by
  rw [jR rfl] at hu
  cases (Yt hu)
  exact hK2 v hv
 by_cases z3:(R'++[x]).length<=(y::K2').length
 ·rw [if_pos z3]
  exact Zo (Es k hA kz tw' sR sK (by simp) (by simp) g0 g9 fin)
 ·rw [if_neg z3]
  exact Zo (Et k hA kz tw' sR sK (by simp) (by simp) g0 g9 fin)
end
end Sm
namespace Sm
open PySem PyProof.Rows
open Sx (Wk gt)
noncomputable def gl (xs:Array Keyed) (lo i:Nat):Keyed:=gt xs (lo+i)
noncomputable def Up (B:Keyed->Keyed->Bool) (xs:Array Keyed) (lo k:Nat):Prop:= ∀i j,i<=j->j<k->B (gl xs lo j) (gl xs lo i)=false
noncomputable def Dn (B:Keyed->Keyed->Bool) (xs:Array Keyed) (lo k:Nat):Prop:= ∀i j,i<=j->j<k->B (gl xs lo i) (gl xs lo j)=false
noncomputable def Eb (B:Keyed->Keyed->Bool) (xs:Array Keyed) (lo l k:Nat):Prop:= ∀i j,l<=i->i<k->l<=j->j<k->B (gl xs lo i) (gl xs lo j)=false
structure Bl (kd:SortKind) (a0 x0:Array Keyed) (lo:Nat) (pe:Array (Nat×Nat×Nat)) (st:SortSt):Prop where
 pm:(arrOf st).Perm a0
 kn:kindOf st=kd
 fl:failedOf st=none
 pe:pendingOf st=pe
 pf: ∀i,i<lo->(arrOf st)[i]? =x0[i]?
section
variable {kd:SortKind} {a0 x0 xs:Array Keyed} {lo:Nat} {pe:Array (Nat×Nat×Nat)} {st:SortSt} {B:Keyed->Keyed->Bool} {k l m:Nat}
theorem Bl.sz (b:Bl kd a0 x0 lo pe st):(arrOf st).size=a0.size:=b.pm.size_eq
theorem Bl.mir (b:Bl kd a0 x0 lo pe st) (hm:lo+m<=a0.size):Bl kd a0 x0 lo pe (setArr st (mirror (arrOf st) (lo+l) (lo+m) ((lo+m-(lo+l)) / 2))):=
 ⟨(mirror_perm _ _ _ _).trans b.pm,b.kn,b.fl,b.pe,fun i hi=>by
  show (mirror (arrOf st) _ _ _)[i]? =_
  rw [getElem?_mirror_all (by rw [b.sz];exact hm),if_neg (by rfl')]
  exact b.pf i hi⟩
theorem Bl.bub (b:Bl kd a0 x0 lo pe st) {src d:Nat} (hs:lo+src<a0.size) (hd:d<=src):Bl kd a0 x0 lo pe (setArr st (bubble (arrOf st) (lo+src) d)):=
 ⟨(bubble_perm _ _ _).trans b.pm,b.kn,b.fl,b.pe,fun i hi=>by
  show (bubble (arrOf st) _ _)[i]? =_
  rw [getElem?_bubble (by rw [b.sz];exact hs) d (by rfl'),if_neg (by rfl'),if_neg (by rfl')]
  exact b.pf i hi⟩
theorem yP {src d:Nat} (hs:lo+src<xs.size) (hd:d<=src):gl (bubble xs (lo+src) d) lo k=if k=src-d then gl xs lo src else if src-d<k/\k<=src then gl xs lo (k-1) else gl xs lo k:=by
 unfold gl
 rw [Sx.rD hs (by rfl')]
 by_cases h1:k=src-d
 ·rw [if_pos h1,if_pos (by rfl')]
 ·rw [if_neg h1,if_neg (by rfl')]
  by_cases h2:src-d<k/\k<=src
  ·rw [if_pos h2,if_pos (by rfl'),show lo+k-1=lo+(k-1) by rfl']
  ·rw [if_neg h2,if_neg (by rfl')]
theorem fU (hm:lo+m<=xs.size):gl (mirror xs (lo+l) (lo+m) ((lo+m-(lo+l)) / 2)) lo k=if l<=k/\k<m then gl xs lo (l+m-1-k) else gl xs lo k:=by
 unfold gl
 rw [Sx.fj hm]
 by_cases h1:l<=k/\k<m
 ·rw [if_pos h1,if_pos (by rfl'),show lo+l+(lo+m)-1-(lo+k)=lo+(l+m-1-k) by rfl']
 ·rw [if_neg h1,if_neg (by rfl')]
theorem Up.one (o:Wk B):Up B xs lo 1:=fun i j h1 h2=>by
 have:i=j:=by rfl'
 rw [this];exact o.rf _
theorem Up.next (o:Wk B) (u:Up B xs lo k) (hk:1<=k) (e:B (gl xs lo k) (gl xs lo (k-1))=false):Up B xs lo (k+1):=fun i j h1 h2=>by
 by_cases hj:j<k
 ·exact u i j h1 hj
 ·obtain rfl:j=k:=by rfl'
  by_cases hi:i=j
  ·rw [hi];exact o.rf _
  ·exact o.tr (u i (j-1) (by rfl') (by rfl')) e
theorem Dn.next (o:Wk B) (u:Dn B xs lo k) (hk:1<=k) (e:B (gl xs lo (k-1)) (gl xs lo k)=false):Dn B xs lo (k+1):=fun i j h1 h2=>by
 by_cases hj:j<k
 ·exact u i j h1 hj
 ·obtain rfl:j=k:=by rfl'
  by_cases hi:i=j
  ·rw [hi];exact o.rf _
  ·exact o.tr e (u i (j-1) (by rfl') (by rfl'))
theorem Eb.one (o:Wk B):Eb B xs lo (k-1) k:=fun i j h1 h2 h3 h4=>by
 have:i=j:=by rfl'
 rw [this];exact o.rf _
theorem Eb.next (o:Wk B) (u:Eb B xs lo l k) (hl:l<k) (e1:B (gl xs lo k) (gl xs lo (k-1))=false) (e2:B (gl xs lo (k-1)) (gl xs lo k)=false):Eb B xs lo l (k+1):=fun i j h1 h2 h3 h4=>by
 by_cases hi:i<k
 ·by_cases hj:j<k
  ·exact u i j h1 hi h3 hj
  ·obtain rfl:j=k:=by rfl'
   exact o.tr e2 (u i (j-1) h1 hi (by rfl') (by rfl'))
 ·obtain rfl:i=k:=by rfl'
  by_cases hj:j<i
  ·exact o.tr (u (i-1) j (by rfl') (by rfl') h3 hj) e1
  ·obtain rfl:j=i:=by rfl'
   exact o.rf _
theorem Dn.mir (u:Dn B xs lo m) (q:Eb B xs lo l m) (hm:lo+m<=xs.size):Dn B (mirror xs (lo+l) (lo+m) ((lo+m-(lo+l)) / 2)) lo m:=fun i j h1 h2=>by
 rw [fU hm,fU hm]
 by_cases a:l<=i/\i<m
 ·rw [if_pos a,if_pos (by rfl')]
  exact q _ _ (by rfl') (by rfl') (by rfl') (by rfl')
 ·rw [if_neg a]
  by_cases c:l<=j/\j<m
  ·rw [if_pos c];exact u _ _ (by rfl') (by rfl')
  ·rw [if_neg c];exact u i j h1 h2
theorem Dn.up (u:Dn B xs lo m) (hm:lo+m<=xs.size):Up B (mirror xs (lo+0) (lo+m) ((lo+m-(lo+0)) / 2)) lo m:=fun i j h1 h2=>by
 rw [fU hm,fU hm,if_pos (by rfl'),if_pos (by rfl')]
 exact u _ _ (by rfl') (by rfl')
end
noncomputable def vZ (lo a n:Nat):StateT SortSt Sem AscSt:=
 forIn [a:n] ((none,a):AscSt) fun _ c=>do
  let x <- ltAt' (lo+c.2) (lo+c.2-1)
  match x with
  | some sm=>if sm=true then pure (.done (none,c.2)) else pure (.yield (none,c.2+1))
  | _=>pure (.done (some none,c.2))
noncomputable def jT (lo n r:Nat):StateT SortSt Sem (Option Nat):=do
 reverseSlice' lo (lo+n)
 let c <- vZ lo n r
 match c.1 with
 | some r=>pure r
 | none=>pure (some c.2)
noncomputable def uD (lo n r:Nat):StateT SortSt Sem DescSt:=
 forIn [n:r] ((none,n,0):DescSt) fun _ c=>do
  let x <- ltAt' (lo+c.2.1) (lo+c.2.1-1)
  match x with
  | some sm=>
   if sm=true then
    if c.2.2>0 then do
     reverseSlice' (lo+c.2.1-(c.2.2+1)) (lo+c.2.1)
     pure (.yield (none,c.2.1+1,0))
    else pure (.yield (none,c.2.1+1,0))
   else do
    let x <- ltAt' (lo+c.2.1-1) (lo+c.2.1)
    match x with
    | some lg=>
     if lg=true then pure (.done (none,c.2.1,c.2.2))
     else pure (.yield (none,c.2.1+1,c.2.2+1))
    | _=>pure (.done (some none,c.2.1,c.2.2))
  | _=>pure (.done (some none,c.2.1,c.2.2))
noncomputable def pM (lo n r:Nat):StateT SortSt Sem (Option Nat):=do
 liftM (rule "list.sort.descending-run")
 let c <- uD lo (n+1) r
 match c.1 with
 | some r=>pure r
 | none=>
  if c.2.2>0 then do
   reverseSlice' (lo+c.2.1-(c.2.2+1)) (lo+c.2.1)
   jT lo c.2.1 r
  else jT lo c.2.1 r
theorem Ew (lo r:Nat):countRun' lo r=(do
  let c <- vZ lo 1 r
  match c.1 with
  | some r=>pure r
  | none=>
   if (c.2==r)=true then pure (some c.2)
   else if c.2>1 then do
    let x <- ltAt' lo (lo+c.2-1)
    match x with
    | some rs=>if rs=true then pure (some c.2) else do
      reverseSlice' lo (lo+c.2)
      pM lo c.2 r
    | _=>pure none
   else pM lo c.2 r):=by
 have bnd: ∀ {α β:Type} (m:StateT SortSt Sem α) (f g:α->StateT SortSt Sem β),(∀x,f x=g x)->(m >>= f)=(m >>= g):=fun m f g h=>by rw [funext h]
 rw [countRun'_eq]
 refine bnd (vZ lo 1 r) _ _ fun c=> ?_
 obtain ⟨c1,n⟩:=c
 have tl: ∀ (n:Nat) (f:AscSt->StateT SortSt Sem (Option Nat)),(∀c,f c=match c.1 with | some r=>pure r | none=>pure (some c.2))->(do reverseSlice' lo (lo+n);let c <- vZ lo n r;f c)=jT lo n r:=
  fun n f hf=>bnd _ _ _ fun _=>bnd _ _ _ hf
 have pl: ∀ (n:Nat) (f:DescSt->StateT SortSt Sem (Option Nat)),(∀c,f c=match c.1 with | some r=>pure r | none=>if c.2.2>0 then (do reverseSlice' (lo+c.2.1-(c.2.2+1)) (lo+c.2.1);jT lo c.2.1 r) else jT lo c.2.1 r)->
   (do liftM (rule "list.sort.descending-run");let c <- uD lo (n+1) r;f c)=pM lo n r:=
  fun n f hf=>bnd _ _ _ fun _=>bnd _ _ _ hf
 cases c1 with
 | some c1=>rfl
 | none=>
  dsimp only
  split
  ·rfl
  ·split
   ·refine bnd _ _ _ fun x=> ?_
    cases x with
    | none=>rfl
    | some rs=>
     dsimp only
     split
     ·rfl
     ·refine bnd _ _ _ fun _=>pl n _ fun c=> ?_
      obtain ⟨r2,n2,q2⟩:=c
      cases r2 with
      | some r2=>rfl
      | none=>
       dsimp only
       split
       ·exact bnd _ _ _ fun _=>tl n2 _ fun c=>by obtain ⟨r3,n3⟩:=c;cases r3<;>rfl
       ·exact tl n2 _ fun c=>by obtain ⟨r3,n3⟩:=c;cases r3<;>rfl
   ·refine pl n _ fun c=> ?_
    obtain ⟨r2,n2,q2⟩:=c
    cases r2 with
    | some r2=>rfl
    | none=>
     dsimp only
     split
     ·exact bnd _ _ _ fun _=>tl n2 _ fun c=>by obtain ⟨r3,n3⟩:=c;cases r3<;>rfl
     ·exact tl n2 _ fun c=>by obtain ⟨r3,n3⟩:=c;cases r3<;>rfl
section
variable {prog:Program} {w:World} {A:Around} {E:Value->Shared->Prop} {s:Shared} {kd:SortKind} {a0 x0:Array Keyed} {lo:Nat} {pe:Array (Nat×Nat×Nat)} {B:Keyed->Keyed->Bool} {st:SortSt} {n k:Nat}
theorem JV {l:List Keyed} {i j:Nat} (hi:i<l.length) (hj:j<l.length) (h:i≠j): ∃r,(l[i]::l[j]::r).Perm l:=by
 have h1:(l[i]::l.eraseIdx i).Perm l:=by
  rw [List.eraseIdx_eq_take_drop_succ]
  refine List.perm_middle.symm.trans (List.Perm.of_eq ?_)
  rw [<- List.drop_eq_getElem_cons hi,Ws]
 have h2:l[j]∈l.eraseIdx i:=List.mem_eraseIdx_iff_getElem.mpr ⟨j,hj,fun e=>h e.symm,rfl⟩
 obtain ⟨a,b,e⟩:=List.append_of_mem h2
 rw [e] at h1
 exact ⟨a++b,(List.perm_middle.symm.cons _).trans h1⟩
theorem jU (hA:An (model prog w) A E s kd a0 B) (b:Bl kd a0 x0 lo pe st) {i j i' j':Nat} {Q:Option Bool->SortSt->Prop} (ei:i'=lo+i) (ej:j'=lo+j) (h:i≠j) (hi:lo+i<a0.size) (hj:lo+j<a0.size)
  (q:Q (some (B (gl (arrOf st) lo i) (gl (arrOf st) lo j))) st):wpS (model prog w) A E s (ltAt' i' j') Q st:=by
 subst ei;subst ej
 have hi':lo+i<(arrOf st).size:=by rw [b.sz];exact hi
 have hj':lo+j<(arrOf st).size:=by rw [b.sz];exact hj
 have gi:gl (arrOf st) lo i=(arrOf st)[lo+i]:=by unfold gl gt;rw [getElem?_pos (arrOf st) (lo+i) hi'];rfl
 have gj:gl (arrOf st) lo j=(arrOf st)[lo+j]:=by unfold gl gt;rw [getElem?_pos (arrOf st) (lo+j) hj'];rfl
 rw [gi,gj] at q
 rw [ltAt'_eq]
 refine Zo (wpS_get ?_)
 show wpS _ _ _ _ (do let x <- elem' (arrOf st) (lo+i);let y <- elem' (arrOf st) (lo+j);lt' x y) Q st
 rw [elem'_eq,elem'_eq,getElem?_pos (arrOf st) (lo+i) hi',getElem?_pos (arrOf st) (lo+j) hj']
 refine Zo (Zt (Zo (Zt (hA _ _ _ _ b.kn ?_ q))))
 obtain ⟨r,hr⟩:=JV (l:=(arrOf st).toList) (i:=lo+i) (j:=lo+j) (by simpa using hi') (by simpa using hj') (by rfl')
 exact ⟨r,by simpa using hr.trans (Wg.mp b.pm)⟩
theorem pN (o:Wk B) (hA:An (model prog w) A E s kd a0 B) {Q:AscSt->SortSt->Prop} (hn:lo+n<=a0.size) (hk:1<=k) (hkn:k<=n) (b:Bl kd a0 x0 lo pe st) (u:Up B (arrOf st) lo k)
  (h: ∀m,k<=m->m<=n->Up B (arrOf st) lo m->(m=n\/B (gl (arrOf st) lo m) (gl (arrOf st) lo (m-1))=true)->Q (none,m) st):wpS (model prog w) A E s (vZ lo k n) Q st:=by
 unfold vZ
 refine Xy (I:=fun m c t=>c=(none,m)/\t=st/\Up B (arrOf st) lo m) (fun m c t h1 h2 hi=> ?_) (fun c t hi=> ?_) ⟨rfl,rfl,u⟩
 ·obtain ⟨rfl,rfl,um⟩:=hi
  refine Zo (jU hA b (i:=m) (j:=m-1) rfl (by dsimp only;rfl') (by rfl') (by rfl') (by rfl') ?_)
  dsimp only
  cases e:B (gl (arrOf t) lo m) (gl (arrOf t) lo (m-1)) with
  | true=>rw [if_pos rfl];exact Zt (h m h1 (by rfl') um (.inr e))
  | false=>rw [if_neg Zl];exact Zt ⟨rfl,rfl,um.next o (by rfl') e⟩
 ·obtain ⟨rfl,rfl,um⟩:=hi
  rw [show max k n=n from Nat.max_eq_right hkn] at um ⊢
  exact h n hkn (Zh _) um (.inl rfl)
theorem m5 (o:Wk B) (hA:An (model prog w) A E s kd a0 B) {Q:Option Nat->SortSt->Prop} (hn:lo+n<=a0.size) (hk:1<=k) (hkn:k<=n) (b:Bl kd a0 x0 lo pe st) (u:Dn B (arrOf st) lo k)
  (h: ∀m t,Bl kd a0 x0 lo pe t->1<=m->m<=n->Up B (arrOf t) lo m->Q (some m) t):wpS (model prog w) A E s (jT lo k n) Q st:=by
 unfold jT
 refine Zo (wpS_reverse ?_)
 have b':=b.mir (l:=0) (m:=k) (by rfl')
 have u':=u.up (by rw [b.sz];rfl')
 rw [Nat.add_zero] at b' u'
 exact Zo (pN o hA hn hk hkn b' u' fun m h1 h2 um _=>Zt (h m _ b' (by rfl') h2 um))
theorem w5 (o:Wk B) (hA:An (model prog w) A E s kd a0 B) {Q:DescSt->SortSt->Prop} (hn:lo+n<=a0.size) (hk:1<=k) (hkn:k<=n) (b:Bl kd a0 x0 lo pe st) (u:Dn B (arrOf st) lo k)
  (h: ∀m e t,Bl kd a0 x0 lo pe t->k<=m->m<=n->Dn B (arrOf t) lo m->e+1<=m->Eb B (arrOf t) lo (m-(e+1)) m->Q (none,m,e) t):wpS (model prog w) A E s (uD lo k n) Q st:=by
 unfold uD
 refine Xy (I:=fun m c t=> ∃e,c=(none,m,e)/\Bl kd a0 x0 lo pe t/\Dn B (arrOf t) lo m/\e+1<=m/\Eb B (arrOf t) lo (m-(e+1)) m) (fun m c t h1 h2 hi=> ?_) (fun c t hi=> ?_) ⟨0,rfl,b,u,hk,Eb.one o⟩
 ·obtain ⟨e,rfl,bt,um,he,q⟩:=hi
  have hsz:lo+m<=(arrOf t).size:=by rw [bt.sz];rfl'
  refine Zo (jU hA bt (i:=m) (j:=m-1) rfl (by dsimp only;rfl') (by rfl') (by rfl') (by rfl') ?_)
  dsimp only
  cases e1:B (gl (arrOf t) lo m) (gl (arrOf t) lo (m-1)) with
  | true=>
   rw [if_pos rfl]
   have dn:Dn B (arrOf t) lo (m+1):=um.next o (by rfl') (o.an e1)
   by_cases h0:e>0
   ·rw [if_pos h0,show lo+m-(e+1)=lo+(m-(e+1)) by rfl']
    refine Zo (wpS_reverse (Zt ⟨0,rfl,bt.mir (by rfl'),fun i j g1 g2=> ?_,by rfl',Eb.one o⟩))
    by_cases hj:j<m
    ·exact (um.mir q hsz) i j g1 hj
    ·obtain rfl:j=m:=by rfl'
     show B (gl (mirror (arrOf t) _ _ _) lo i) (gl (mirror (arrOf t) _ _ _) lo j)=false
     rw [fU hsz,fU hsz,if_neg (show ¬ (_/\j<j) by rfl')]
     split
     ·exact dn _ _ (by rfl') (by rfl')
     ·exact dn _ _ g1 g2
   ·rw [if_neg h0]
    exact Zt ⟨0,rfl,bt,dn,by rfl',Eb.one o⟩
  | false=>
   rw [if_neg Zl]
   refine Zo (jU hA bt (i:=m-1) (j:=m) (by rfl') rfl (by rfl') (by rfl') (by rfl') ?_)
   dsimp only
   cases e2:B (gl (arrOf t) lo (m-1)) (gl (arrOf t) lo m) with
   | true=>rw [if_pos rfl];exact Zt (h m e t bt h1 (by rfl') um he q)
   | false=>
    rw [if_neg Zl]
    refine Zt ⟨e+1,rfl,bt,um.next o (by rfl') e2,by rfl',?_⟩
    rw [show m+1-(e+1+1)=m-(e+1) by rfl']
    exact q.next o (by rfl') e1 e2
 ·obtain ⟨e,rfl,bt,um,he,q⟩:=hi
  rw [show max k n=n from Nat.max_eq_right hkn] at um he q ⊢
  exact h n e t bt hkn (Zh _) um he q
theorem m6 (o:Wk B) (hA:An (model prog w) A E s kd a0 B) {Q:Option Nat->SortSt->Prop} (hn:lo+n<=a0.size) (hkn:k+1<=n) (b:Bl kd a0 x0 lo pe st) (u:Dn B (arrOf st) lo (k+1))
  (h: ∀m t,Bl kd a0 x0 lo pe t->1<=m->m<=n->Up B (arrOf t) lo m->Q (some m) t):wpS (model prog w) A E s (pM lo k n) Q st:=by
 unfold pM
 refine Zo (wpS_lift (Wb ⟨rfl,Zo (w5 o hA hn (by rfl') hkn b u fun m e t bt h1 h2 um he q=> ?_)⟩))
 dsimp only
 have hsz:lo+m<=(arrOf t).size:=by rw [bt.sz];rfl'
 by_cases h0:e>0
 ·rw [if_pos h0,show lo+m-(e+1)=lo+(m-(e+1)) by rfl']
  exact Zo (wpS_reverse (m5 o hA hn (by rfl') h2 (bt.mir (by rfl')) (um.mir q hsz) h))
 ·rw [if_neg h0]
  exact m5 o hA hn (by rfl') h2 bt um h
theorem yQ (o:Wk B) (hA:An (model prog w) A E s kd a0 B) {Q:Option Nat->SortSt->Prop} (hn:lo+n<=a0.size) (h1n:1<=n) (b:Bl kd a0 x0 lo pe st)
  (h: ∀m t,Bl kd a0 x0 lo pe t->1<=m->m<=n->Up B (arrOf t) lo m->Q (some m) t):wpS (model prog w) A E s (countRun' lo n) Q st:=by
 rw [Ew]
 refine Zo (pN o hA hn (Zh 1) h1n b (Up.one o) fun m h1 h2 um hor=> ?_)
 dsimp only
 by_cases hm:m=n
 ·rw [if_pos (by simpa using hm)]
  exact Zt (h m st b h1 h2 um)
 ·rw [if_neg (by simpa using hm)]
  have hlt:=hor.resolve_left hm
  have hsz:lo+m<=(arrOf st).size:=by rw [b.sz];rfl'
  by_cases g:m>1
  ·rw [if_pos g]
   refine Zo (jU hA b (i:=0) (j:=m-1) rfl (by rfl') (by rfl') (by rfl') (by rfl') ?_)
   dsimp only
   cases e:B (gl (arrOf st) lo 0) (gl (arrOf st) lo (m-1)) with
   | true=>rw [if_pos rfl];exact Zt (h m st b h1 h2 um)
   | false=>
    rw [if_neg Zl]
    have q:Eb B (arrOf st) lo 0 m:=fun i j _ hi _ hj=>o.tr (um j (m-1) (by rfl') (by rfl')) (o.tr e (um 0 i (by rfl') hi))
    have dn:Dn B (arrOf st) lo (m+1):=Dn.next o (fun i j _ hj=>q i j (by rfl') (by rfl') (by rfl') hj) h1 (o.an hlt)
    have b':=b.mir (l:=0) (m:=m) (by rfl')
    have d':Dn B (mirror (arrOf st) (lo+0) (lo+m) ((lo+m-(lo+0)) / 2)) lo (m+1):=fun i j g1 g2=>by
     rw [fU hsz,fU hsz]
     by_cases hj:j<m
     ·rw [if_pos (by rfl'),if_pos (by rfl')]
      exact q _ _ (by rfl') (by rfl') (by rfl') (by rfl')
     ·rw [if_neg (show ¬ (0<=j/\j<m) by rfl')]
      split
      ·exact dn _ _ (by rfl') g2
      ·exact dn _ _ g1 g2
    rw [Nat.add_zero] at b' d'
    exact Zo (wpS_reverse (m6 o hA hn (by rfl') b' d' h))
  ·rw [if_neg g]
   obtain rfl:m=1:=by rfl'
   exact m6 o hA hn (by rfl') b (Dn.next o (fun i j g1 g2=>by rw [show i=j by rfl'];exact o.rf _) (Zh 1) (o.an hlt)) h
theorem yR (o:Wk B) (hA:An (model prog w) A E s kd a0 B) {Q:Bool->SortSt->Prop} (hn:lo+n<=a0.size) (hkn:k<=n) (b:Bl kd a0 x0 lo pe st) (u:Up B (arrOf st) lo k)
  (h: ∀t,Bl kd a0 x0 lo pe t->Up B (arrOf t) lo n->Q true t):wpS (model prog w) A E s (binarySort' lo n k) Q st:=by
 rw [binarySort'_eq]
 refine Zo (wpS_mono (Xy (I:=fun m c t=>c=(none,())/\Bl kd a0 x0 lo pe t/\Up B (arrOf t) lo (min m n)) (Q:=fun c t=>c=(none,())/\Bl kd a0 x0 lo pe t/\Up B (arrOf t) lo n) (fun m c t h1 h2 hi=> ?_) (fun c t hi=> ?_) ⟨rfl,b,fun i j g1 g2=> ?_⟩) fun c t hc=> ?_)
 ·obtain ⟨rfl,bt,um⟩:=hi
  rw [Nat.min_eq_left (Xq h2)] at um
  have hm:lo+m<a0.size:=by rfl'
  refine Zo (wpS_mono (Xy (I:=fun x c t'=>t'=t/\ ∃l r,c=(none,l,r)/\l<=r/\r<=m/\r+x<=m+l/\(∀i,i<l->B (gl (arrOf t) lo m) (gl (arrOf t) lo i)=false)/\ ∀i,r<=i->i<m->B (gl (arrOf t) lo i) (gl (arrOf t) lo m)=false)
   (Q:=fun c t'=>t'=t/\ ∃l r,c=(none,l,r)/\l<=m/\(∀i,i<l->B (gl (arrOf t) lo m) (gl (arrOf t) lo i)=false)/\ ∀i,l<=i->i<m->B (gl (arrOf t) lo i) (gl (arrOf t) lo m)=false)
   (fun x c t' g1 g2 hi=> ?_) (fun c t' hi=> ?_) ⟨rfl,0,m,rfl,by rfl',by rfl',by rfl',fun i z=>by rfl',fun i z1 z2=>by rfl'⟩) fun c t' hc=> ?_)
  ·obtain ⟨rfl,l,r,rfl,hlr,hrm,hx,lo',hi'⟩:=hi
   dsimp only
   by_cases ge:l>=r
   ·rw [if_pos ge]
    obtain rfl:l=r:=by rfl'
    exact Zt ⟨rfl,l,l,rfl,hrm,lo',hi'⟩
   ·rw [if_neg ge]
    have h1:l<=(l+r) / 2:=by clear hx lo' hi' um hrm h1 h2 g1 g2 hm hn hkn;rfl'
    have h2:(l+r) / 2<r:=by clear hx lo' hi' um hrm h1 h2 g1 g2 hm hn hkn;rfl'
    generalize (l+r) / 2=c at h1 h2 ⊢
    have hcm:=Zz h2 hrm
    refine Zo (jU hA bt (i:=m) (j:=c) rfl rfl (by rfl') hm (by rfl') ?_)
    dsimp only
    cases e:B (gl (arrOf t') lo m) (gl (arrOf t') lo c) with
    | true=>
     simp only [if_true]
     exact Zt ⟨rfl,l,c,rfl,h1,Xq hcm,by clear h1 hcm hm;rfl',lo',fun i z1 z2=>o.tr (o.an e) (um _ _ z1 z2)⟩
    | false=>
     simp only [Ze,Xg]
     exact Zt ⟨rfl,c+1,r,rfl,h2,hrm,by clear hcm hm;rfl',fun i z=>o.tr (um i c (Nat.le_of_lt_succ z) hcm) e,hi'⟩
  ·obtain ⟨rfl,l,r,rfl,hlr,hrm,hx,lo',hi'⟩:=hi
   obtain rfl:l=r:=by rfl'
   exact ⟨rfl,l,l,rfl,hrm,lo',hi'⟩
  ·obtain ⟨rfl,l,r,rfl,hlm,lo',hi'⟩:=hc
   show wpS _ _ _ _ (do moveDown' (lo+m) (lo+l);pure (ForInStep.yield (none,()))) _ _
   rw [moveDown'_eq,show lo+m-(lo+l)=m-l by rfl']
   refine Zo (wpS_modify (Zt ⟨rfl,bt.bub hm (by rfl'),?_⟩))
   rw [show min (m+1) n=m+1 by rfl']
   have hsz:lo+m<(arrOf t').size:=by rw [bt.sz];exact hm
   intro i j g1 g2
   show B (gl (bubble (arrOf t') (lo+m) (m-l)) lo j) (gl (bubble (arrOf t') (lo+m) (m-l)) lo i)=false
   rw [yP hsz (by rfl'),yP hsz (by rfl'),Nat.sub_sub_self hlm]
   by_cases i1:i=l
   ·rw [if_pos i1]
    by_cases j1:j=l
    ·rw [if_pos j1];exact o.rf _
    ·rw [if_neg j1,if_pos (by rfl')]
     exact hi' (j-1) (by rfl') (by rfl')
   ·rw [if_neg i1]
    by_cases i2:l<i/\i<=m
    ·rw [if_pos i2,if_neg (by rfl'),if_pos (by rfl')]
     exact um _ _ (by rfl') (by rfl')
    ·rw [if_neg i2]
     by_cases j1:j=l
     ·rw [if_pos j1];exact lo' i (by rfl')
     ·rw [if_neg j1]
      by_cases j2:l<j/\j<=m
      ·rw [if_pos j2];exact um _ _ (by rfl') (by rfl')
      ·rw [if_neg j2];exact um _ _ g1 (by rfl')
 ·obtain ⟨hc,bt,um⟩:=hi
  refine ⟨hc,bt,?_⟩
  rwa [show min (max (max k 1) n) n=n by rfl'] at um
 ·by_cases h0:k=0
  ·rw [show i=j by rfl'];exact o.rf _
  ·exact u i j g1 (by rfl')
 ·obtain ⟨rfl,bt,um⟩:=hc
  exact Zt (h t bt um)
end
noncomputable def Rn (B:Keyed->Keyed->Bool):Nat->List (Nat×Nat×Nat)->List Keyed->Prop
 | _,[],T=>T=[]
 | a,r::t,T=>r.1=a/\1<=r.2.1/\ ∃L T',T=L++T'/\L.length=r.2.1/\Sd B L/\Rn B (a+r.2.1) t T'
section
variable {B:Keyed->Keyed->Bool}
theorem Rn.app: ∀ {p q:List (Nat×Nat×Nat)} {a:Nat} {T:List Keyed},Rn B a (p++q) T-> ∃T1 T2,T=T1++T2/\Rn B a p T1/\Rn B (a+T1.length) q T2
 | [],q,a,T,h=>⟨[],T,rfl,rfl,h⟩
 | r::p,q,a,T,h=>by
  obtain ⟨h1,h2,L,T',rfl,h3,h4,h5⟩:=h
  obtain ⟨T1,T2,rfl,h6,h7⟩:=Rn.app h5
  refine ⟨L++T1,T2,by simp,⟨h1,h2,L,T1,rfl,h3,h4,h6⟩,?_⟩
  rw [Zn,h3,<- Nat.add_assoc];exact h7
theorem Rn.cat: ∀ {p q:List (Nat×Nat×Nat)} {a:Nat} {T1 T2:List Keyed},Rn B a p T1->Rn B (a+T1.length) q T2->Rn B a (p++q) (T1++T2)
 | [],q,a,T1,T2,h,g=>by
  obtain rfl:T1=[]:=h
  exact g
 | r::p,q,a,T1,T2,h,g=>by
  obtain ⟨h1,h2,L,T',rfl,h3,h4,h5⟩:=h
  refine ⟨h1,h2,L,T'++T2,by simp,h3,h4,Rn.cat h5 ?_⟩
  rw [Zn,h3,<- Nat.add_assoc] at g;exact g
theorem Rn.len: ∀ {p:List (Nat×Nat×Nat)} {a:Nat} {T:List Keyed},Rn B a p T->p.length<=T.length
 | [],a,T,h=>Yp _
 | r::p,a,T,h=>by
  obtain ⟨h1,h2,L,T',rfl,h3,h4,h5⟩:=h
  have:=Rn.len h5
  rw [Zn,Yv];rfl'
theorem Rn.mod (f:Nat×Nat×Nat->Nat×Nat×Nat) (hf: ∀r,(f r).1=r.1/\(f r).2.1=r.2.1): ∀ {p:List (Nat×Nat×Nat)} {a i:Nat} {T:List Keyed},Rn B a p T->Rn B a (p.modify i f) T
 | [],a,i,T,h=>by rw [List.modify_nil];exact h
 | r::p,a,0,T,h=>by
  rw [List.modify_zero_cons]
  show (f r).1=a/\1<=(f r).2.1/\ ∃L T',T=L++T'/\L.length=(f r).2.1/\Sd B L/\Rn B (a+(f r).2.1) p T'
  rw [(hf r).1,(hf r).2];exact h
 | r::p,a,i+1,T,h=>by
  rw [List.modify_succ_cons]
  obtain ⟨h1,h2,L,T',rfl,h3,h4,h5⟩:=h
  exact ⟨h1,h2,L,T',rfl,h3,h4,Rn.mod f hf h5⟩
end
structure Jn (kd:SortKind) (a0:Array Keyed) (B:Keyed->Keyed->Bool) (st:SortSt) (T S:List Keyed):Prop where
 kn:kindOf st=kd
 fl:failedOf st=none
 pm:(arrOf st).Perm a0
 ar:arrOf st=(T++S).toArray
 rn:Rn B 0 (pendingOf st).toList T
section
variable {prog:Program} {w:World} {A:Around} {E:Value->Shared->Prop} {s:Shared} {kd:SortKind} {a0:Array Keyed} {B:Keyed->Keyed->Bool} {st:SortSt}
theorem yS (k:Wk B) (hA:An (model prog w) A E s kd a0 B) {T S:List Keyed} (j:Jn kd a0 B st T S) {i:Nat} (hi:i+1<(pendingOf st).size) {Q:Bool->SortSt->Prop}
  (q: ∀z T',Jn kd a0 B z T' S->T'.length=T.length->(pendingOf z).size+1=(pendingOf st).size->Q true z):wpS (model prog w) A E s (mergeAt' i) Q st:=by
 have hl:i+1<(pendingOf st).toList.length:=by simpa using hi
 obtain ⟨pre,e1,e2,post,ep,rfl⟩: ∃pre e1 e2 post,(pendingOf st).toList=pre++e1::e2::post/\pre.length=i:=by
  refine ⟨(pendingOf st).toList.take i,(pendingOf st).toList[i],(pendingOf st).toList[i+1],(pendingOf st).toList.drop (i+2),?_,by rw [Yf];rfl'⟩
  rw [<- List.drop_eq_getElem_cons hl,<- List.drop_eq_getElem_cons (Nat.lt_of_succ_lt hl),Ws]
 have rn:=j.rn
 rw [ep] at rn
 obtain ⟨P,T2,rfl,r1,r2⟩:=rn.app
 obtain ⟨h1,h2,L1,T3,rfl,h3,h4,h5⟩:=r2
 obtain ⟨g1,g2,L2,T4,rfl,g3,g4,g5⟩:=h5
 obtain ⟨s1,n1,w1⟩:=e1
 obtain ⟨s2,n2,w2⟩:=e2
 dsimp only at h1 h2 h3 g1 g2 g3 g5
 subst h3
 subst g3
 rw [Nat.zero_add] at h1 g1 g5
 subst h1
 subst g1
 refine Eu k hA j.kn j.fl (L1:=L1) (L2:=L2) (S:=T4++S) ep (by rw [j.ar];simp) j.pm h4 g4 h2 g2 fun z L a1 a2 a3 a4 a5 a6=> ?_
 refine q z (P++(L++T4)) ⟨a1,a2,?_,by rw [a6];simp,?_⟩ (by simp [a4.length_eq];rfl') ?_
 ·rw [a6]
  refine Array.Perm.trans ?_ j.pm
  rw [j.ar,Wg]
  have:(P++(L++(T4++S))).Perm (P++(L1++L2++(T4++S))):=(a4.append_right _).append_left P
  simpa using this
 ·rw [a3]
  refine Rn.cat r1 ⟨by simp,by dsimp only;rfl',L,T4,rfl,by rw [a4.length_eq,Zn],a5,?_⟩
  rw [Nat.zero_add,show P.length+(L1.length+L2.length)=P.length+L1.length+L2.length by rfl']
  exact g5
 ·have b1:=Xr List.length a3
  have b2:=Xr List.length ep
  simp at b1 b2
  rfl'
noncomputable def Ex (lo n:Nat):StateT SortSt Sem (ForInStep (Option Unit×Nat)):=do
 modify fun s=>setPending s ((pendingOf s).push (lo,n,0))
 pure (.yield (none,lo+n))
noncomputable def rM (sz lo n:Nat):StateT SortSt Sem (ForInStep (Option Unit×Nat)):=do
 let z <- get
 match (pendingOf z).back? with
 | some (s1,n1,_)=>do
  let c <- forIn [0:sz] ((none,()):Option Unit×Unit) fun _ _=>do
   let z <- get
   match if (pendingOf z).size>1 then (pendingOf z)[(pendingOf z).size-2]? else none with
   | some (_,_,ol)=>
    if ol<=power' sz (2*s1+n1) (2*s1+n1+n1+n) sz then pure (.done (none,()))
    else do
     let b <- mergeAt' ((pendingOf z).size-2)
     if (!b)=true then pure (.done (some (),())) else pure (.yield (none,()))
   | _=>pure (.done (none,()))
  match c.1 with
  | some r=>pure (.done (some r,lo))
  | none=>do
   let _ <- modify fun s=>setPending s ((pendingOf s).modify ((pendingOf s).size-1) fun r=>(r.1,r.2.1,power' sz (2*s1+n1) (2*s1+n1+n1+n) sz))
   Ex lo n
 | _=>Ex lo n
end
section
variable {prog:Program} {w:World} {A:Around} {E:Value->Shared->Prop} {s:Shared} {kd:SortKind} {a0:Array Keyed} {B:Keyed->Keyed->Bool} {st:SortSt}
noncomputable def Js (kd:SortKind) (a0:Array Keyed) (B:Keyed->Keyed->Bool) (n:Nat) (z:SortSt):ForInStep (Option Unit×Nat)->Prop
 | .done _=>False
 | .yield c=> ∃T S,c=(none,List.length T)/\Jn kd a0 B z T S/\T.length=n
theorem pO {T L S:List Keyed} {Q:ForInStep (Option Unit×Nat)->SortSt->Prop} (j:Jn kd a0 B st T (L++S)) (hL:1<=L.length) (sd:Sd B L) (q: ∀z r,Js kd a0 B (T.length+L.length) z r->Q r z):
  wpS (model prog w) A E s (Ex T.length L.length) Q st:=by
 unfold Ex
 refine Zo (wpS_modify (Zt (q _ _ ⟨T++L,S,by rw [Zn],⟨j.kn,j.fl,j.pm,by show arrOf st=_;rw [j.ar];simp,?_⟩,by rw [Zn]⟩)))
 show Rn B 0 ((pendingOf st).push (T.length,L.length,0)).toList (T++L)
 rw [Array.toList_push]
 exact Rn.cat j.rn ⟨by simp,hL,L,[],by simp,rfl,sd,rfl⟩
theorem yU (k:Wk B) (hA:An (model prog w) A E s kd a0 B) {sz:Nat} {T L S:List Keyed} {Q:ForInStep (Option Unit×Nat)->SortSt->Prop} (j:Jn kd a0 B st T (L++S)) (hL:1<=L.length) (sd:Sd B L) (q: ∀z r,Js kd a0 B (T.length+L.length) z r->Q r z):
  wpS (model prog w) A E s (rM sz T.length L.length) Q st:=by
 unfold rM
 refine Zo (wpS_get ?_)
 rcases (pendingOf st).back? with _ | ⟨s1,n1,w1⟩
 ·exact pO j hL sd q
 dsimp only
 refine Zo (wpS_mono (Xy (I:=fun _ c z=>c=(none,())/\ ∃T',Jn kd a0 B z T' (L++S)/\T'.length=T.length) (Q:=fun c z=>c=(none,())/\ ∃T',Jn kd a0 B z T' (L++S)/\T'.length=T.length)
  (fun x c z g1 g2 hI=> ?_) (fun _ _ h=>h) ⟨rfl,T,j,rfl⟩) fun c z hc=> ?_)
 ·obtain ⟨rfl,T',j',hT⟩:=hI
  refine Zo (wpS_get ?_)
  by_cases z1:(pendingOf z).size>1
  ·rw [if_pos z1,getElem?_pos (pendingOf z) ((pendingOf z).size-2) (by rfl')]
   obtain ⟨u1,u2,u3⟩:=(pendingOf z)[(pendingOf z).size-2]
   dsimp only
   by_cases z2:u3<=power' sz (2*s1+n1) (2*s1+n1+n1+L.length) sz
   ·rw [if_pos z2];exact Zt ⟨rfl,T',j',hT⟩
   ·rw [if_neg z2]
    refine Zo (yS k hA j' (by rfl') fun z' T2 j2 h2 _=> ?_)
    rw [if_neg (by decide)]
    exact Zt ⟨rfl,T2,j2,by rfl'⟩
  ·rw [if_neg z1]
   exact Zt ⟨rfl,T',j',hT⟩
 ·obtain ⟨rfl,T',j',hT⟩:=hc
  dsimp only
  refine Zo (wpS_modify ?_)
  rw [<- hT] at q ⊢
  refine pO (T:=T') (L:=L) (S:=S) ⟨j'.kn,j'.fl,j'.pm,j'.ar,?_⟩ hL sd q
  show Rn B 0 ((pendingOf z).modify _ _).toList T'
  rw [Array.toList_modify]
  exact Rn.mod (fun r=>(r.1,r.2.1,power' sz (2*s1+n1) (2*s1+n1+n1+L.length) sz)) (fun r=>⟨rfl,rfl⟩) j'.rn
theorem uE {T S:List Keyed} {i:Nat} (hi:i<S.length):gl (T++S).toArray T.length i=S[i]:=by
 unfold gl gt
 rw [Xt,Wv (Nat.le_add_right _ _),Nat.add_sub_cancel_left,Zc hi]
 rfl
theorem Ey {T S:List Keyed} {m:Nat} (hm:m<=S.length) (u:Up B (T++S).toArray T.length m):Sd B (S.take m):=by
 refine List.pairwise_iff_getElem.mpr fun i j hi hj hij=> ?_
 rw [Yf] at hi hj
 have:=u i j (Xq hij) (by rfl')
 rw [uE (by rfl'),uE (by rfl')] at this
 rw [List.getElem_take,List.getElem_take]
 exact this
theorem Ez {x0:Array Keyed} {pe:Array (Nat×Nat×Nat)} {T S:List Keyed} (hx:x0=(T++S).toArray) (b:Bl kd a0 x0 T.length pe st): ∃S',arrOf st=(T++S').toArray:=by
 refine ⟨(arrOf st).toList.drop T.length,?_⟩
 apply Array.toList_inj.mp
 rw [List.toList_toArray]
 have:(arrOf st).toList.take T.length=T:=by
  apply List.ext_getElem?
  intro i
  rw [List.getElem?_take]
  by_cases h:i<T.length
  ·rw [if_pos h,Yr,b.pf i h,hx,Xt,List.getElem?_append_left h]
  ·rw [if_neg h,Xi (by rfl')]
 conv=>lhs;rw [<- Ws T.length (arrOf st).toList,this]
theorem EY (k:Wk B) (hA:An (model prog w) A E s kd a0 B) {Q:Unit->SortSt->Prop} (kn:kindOf st=kd) (fl:failedOf st=none) (pe:pendingOf st= #[]) (pm:(arrOf st).Perm a0) (h2:1<=a0.size)
  (q: ∀t,(arrOf t).Perm a0->failedOf t=none->Sd B (arrOf t).toList->Q () t):wpS (model prog w) A E s sortRuns' Q st:=by
 rw [sortRuns'_eq]
 refine Zo (wpS_get ?_)
 dsimp only
 rw [pm.size_eq]
 have len: ∀ {z:SortSt} {T S:List Keyed},Jn kd a0 B z T S->T.length+S.length=a0.size:=fun {z T S} j=>by
  rw [<- j.pm.size_eq,j.ar];simp
 refine Zo (wpS_mono (Xy (I:=fun x c z=> ∃T S,c=(none,List.length T)/\Jn kd a0 B z T S/\(x<=T.length\/S=[])) (Q:=fun c z=> ∃T,c=(none,List.length T)/\Jn kd a0 B z T [])
  (fun x c z g1 g2 hI=> ?_) (fun c z hI=> ?_) ⟨[],(arrOf st).toList,rfl,⟨kn,fl,pm,by simp,by rw [pe];rfl⟩, .inl (Zh _)⟩) fun c z hc=> ?_)
 ·obtain ⟨T,S,rfl,j,hx⟩:=hI
  dsimp only
  have hl:=len j
  by_cases z1:T.length>=a0.size
  ·rw [if_pos z1]
   obtain rfl:S=[]:=Zv (by rfl')
   exact Zt ⟨T,rfl,j⟩
  rw [if_neg z1]
  have b0:Bl kd a0 (arrOf z) T.length (pendingOf z) z:=⟨j.pm,j.kn,j.fl,rfl,fun _ _=>rfl⟩
  have key: ∀ (m:Nat) (t:SortSt),Bl kd a0 (arrOf z) T.length (pendingOf z) t->1<=m->m<=a0.size-T.length->Up B (arrOf t) T.length m->
    wpS (model prog w) A E s (rM a0.size T.length m) (fun r st'=>match r with | .done c'=> ∃T,c'=(none,List.length T)/\Jn kd a0 B st' T [] | .yield c'=> ∃T S,c'=(none,List.length T)/\Jn kd a0 B st' T S/\(x+1<=T.length\/S=[])) t:=by
   intro m t b hm1 hm2 u
   obtain ⟨S',eS⟩:=Ez j.ar b
   have hl2:T.length+S'.length=a0.size:=by rw [<- b.pm.size_eq,eS];simp
   rw [eS] at u
   have sd:=Ey (by rfl') u
   have hm:(S'.take m).length=m:=by rw [Yf];rfl'
   have hr:=yU (prog:=prog) (w:=w) (A:=A) (E:=E) (s:=s) (st:=t) k hA (sz:=a0.size) (T:=T) (L:=S'.take m) (S:=S'.drop m)
    (Q:=fun r st'=>match r with | .done c'=> ∃T,c'=(none,List.length T)/\Jn kd a0 B st' T [] | .yield c'=> ∃T S,c'=(none,List.length T)/\Jn kd a0 B st' T S/\(x+1<=T.length\/S=[]))
    ⟨b.kn,b.fl,b.pm,by rw [Ws];exact eS,by rw [b.pe];exact j.rn⟩ (by rfl') sd (fun z' r hz=>by
     cases r with
     | done c'=>exact hz.elim
     | yield c'=>
      obtain ⟨T2,S2,rfl,j2,h9⟩:=hz
      refine ⟨T2,S2,rfl,j2,?_⟩
      rcases hx with hx | hx
      ·exact .inl (by rfl')
      ·rw [hx] at hl;simp at hl;rfl')
   rw [hm] at hr
   exact hr
  have tst: ∀t (f g:StateT SortSt Sem (ForInStep (Option Unit×Nat))) R,f=g->wpS (model prog w) A E s f R t->wpS (model prog w) A E s g R t:=fun t f g R e h=>e▸h
  have bnd: ∀ {α β:Type} (m:StateT SortSt Sem α) (f g:α->StateT SortSt Sem β),(∀x,f x=g x)->(m >>= f)=(m >>= g):=fun m f g h=>by rw [funext h]
  refine Zo (yQ k hA (n:=a0.size-T.length) (by rfl') (by rfl') b0 fun m t b hm1 hm2 u=> ?_)
  dsimp only
  by_cases z2:m<minRun' a0.size a0.size 0
  ·rw [if_pos z2]
   refine Zo (wpS_lift (Wb ⟨rfl,Zo (yR k hA (n:=min (a0.size-T.length) (minRun' a0.size a0.size 0)) (by rfl') (by rfl') b u fun t3 b3 u3=> ?_)⟩))
   rw [if_neg (by decide)]
   refine tst t3 (rM a0.size T.length _) _ _ ?_ (wpS_mono (key _ t3 b3 (by rfl') (by rfl') u3) fun r _ h=>by cases r<;>exact h)
   unfold rM
   refine bnd _ _ _ fun z=> ?_
   rcases (pendingOf z).back? with _ | ⟨s1,n1,w1⟩
   ·rfl
   ·refine bnd _ _ _ fun c=> ?_
    obtain ⟨c1,c2⟩:=c
    cases c1 with
    | some _=>rfl
    | none=>rfl
  ·rw [if_neg z2]
   refine tst t (rM a0.size T.length m) _ _ ?_ (wpS_mono (key m t b hm1 hm2 u) fun r _ h=>by cases r<;>exact h)
   unfold rM
   refine bnd _ _ _ fun z=> ?_
   rcases (pendingOf z).back? with _ | ⟨s1,n1,w1⟩
   ·rfl
   ·refine bnd _ _ _ fun c=> ?_
    obtain ⟨c1,c2⟩:=c
    cases c1 with
    | some _=>rfl
    | none=>rfl
 ·obtain ⟨T,S,rfl,j,hx⟩:=hI
  have hl:=len j
  rcases hx with hx | rfl
  ·obtain rfl:S=[]:=Zv (by rfl')
   exact ⟨T,rfl,j⟩
  ·exact ⟨T,rfl,j⟩
 ·obtain ⟨T,rfl,j⟩:=hc
  dsimp only
  refine Zo (wpS_mono (Xy (I:=fun x c z=>c=(none,())/\ ∃T,Jn kd a0 B z T []/\(pendingOf z).size+x<=a0.size+1) (Q:=fun c z=>c=(none,())/\ ∃T,Jn kd a0 B z T []/\(pendingOf z).size<=1)
   (fun x c z g1 g2 hI=> ?_) (fun c z hI=> ?_) ⟨rfl,T,j,?_⟩) fun c z hc=> ?_)
  ·obtain ⟨rfl,T,j,hx⟩:=hI
   refine Zo (wpS_get ?_)
   by_cases z1:(pendingOf z).size<=1
   ·rw [if_pos z1];exact Zt ⟨rfl,T,j,z1⟩
   rw [if_neg z1]
   have fin: ∀i,i+1<(pendingOf z).size->wpS (model prog w) A E s (do let b <- mergeAt' i;if (!b)=true then pure (ForInStep.done (some (),())) else pure (ForInStep.yield (none,()))) (fun r st'=>match r with | .done c'=>c'=(none,())/\ ∃T,Jn kd a0 B st' T []/\(pendingOf st').size<=1 | .yield c'=>c'=(none,())/\ ∃T,Jn kd a0 B st' T []/\(pendingOf st').size+(x+1)<=a0.size+1) z:=fun i hi=>by
    refine Zo (yS k hA j hi fun z' T2 j2 h2 h3=> ?_)
    rw [if_neg (by decide)]
    exact Zt ⟨rfl,T2,j2,by rfl'⟩
   refine wpS_mono (fin _ ?_) fun r _ h=>by cases r<;>exact h
   have le: ∀ (c:Prop) [Decidable c] (n:Nat),(if c then n-1 else n)<=n:=fun c _ n=>by split<;>rfl'
   exact Yg (Nat.succ_le_succ (le _ _)) (by rfl')
  ·obtain ⟨rfl,T,j,hx⟩:=hI
   rw [show max 0 a0.size=a0.size by rfl'] at hx
   exact ⟨rfl,T,j,by rfl'⟩
  ·have l1:=j.rn.len
   have l2:=len j
   rw [Yd] at l1
   simp at l2
   rfl'
  ·obtain ⟨rfl,T,j,hx⟩:=hc
   refine Zt (q z j.pm j.fl ?_)
   rw [j.ar,Yx]
   have rn:=j.rn
   have l2:=len j
   match hp:(pendingOf z).toList,rn,hx with
   | [],rn,_=>
    have:T=[]:=rn
    subst this
    simp at l2
    rfl'
   | [r],rn,_=>
    obtain ⟨h1,h2,L,T',rfl,h3,h4,h5⟩:=rn
    obtain rfl:T'=[]:=h5
    simpa using h4
   | a::b::c,_,hx=>
    have:=Xr List.length hp
    simp at this
    rfl'
end
end Sm
end
section
namespace Sx
open PySem PyProof.Rows
section
variable {prog:Program} {w:World} {A:Around} {E:Value->Shared->Prop} {s:Shared} {kd:SortKind} {a0:Array Keyed} {B:Keyed->Keyed->Bool} {st:SortSt} {n k:Nat}
theorem w6 (o:Wk B) {a:Addr} {vs:List Value} {n:Nat} {P:Fin->Shared->Prop} (ho:s.heap.get? a=some (seqObj "list" vs.toArray n)) (h64:vs.length<100000)
  (hK:2<=vs.length->wpAny (model prog w) A (keyKind' vs.toArray) (fun k s'=>s'={ s with heap:=mid s.heap a vs }/\k=kd) E { s with heap:=mid s.heap a vs })
  (hA:Sm.An (model prog w) A E { s with heap:=mid s.heap a vs } kd (pairsOf vs) B)
  (h: ∀out:Array Keyed,out.Perm (pairsOf vs)->Sm.Sd B out.toList->P (.done (.ret .none)) { s with heap:=sortedHeap s.heap a vs (out.map (·.2)) }):
  wpAny (model prog w) A (Builtin.«list.sort» ⟨[.ref a],[]⟩) P E s:=by
 rw [list_sort_plain]
 have ha:a<s.heap.objs.size:=Zk ho
 obtain ⟨e1,h1⟩: ∃e1,(s.heap.update a (Obj.mapSeq fun _=> #[])).get? a=some (seqObj "list" #[] e1):=⟨_,get?_update_seq ho (fun _=> #[])⟩
 have h6:(mid s.heap a vs).get? a=some (seqObj "list" #[] e1):=by
  unfold mid
  exact Zb _ (Zb _ h1)
 have hps:(pairsOf vs).size=vs.length:=pairsOf_size vs
 refine Qb (listItems_at ho rfl (Qb (listUpdate_at ho rfl (Qb (seqEpoch_at h1 rfl (Qb (wpAny_newTuple (Qb (wpAny_newList (Xp ?_))))))))))
 show wpAny (model prog w) A _ P E { s with heap:=mid s.heap a vs }
 dsimp only
 have hz:vs.toArray.size=vs.length:=by simp
 rw [hz]
 by_cases h2:vs.length<2
 ·rw [if_pos h2,if_pos h2]
  refine Qb (Za ?_)
  rw [StateT.run_pure]
  refine Qb (Za (Qb (seqEpoch_at h6 rfl (Qb (listUpdate_at h6 rfl ?_ (hsz2:= ?_))))))
  ·simp only [Xk,Ze,Xg]
   exact Za (h (pairsOf vs) (Array.Perm.refl _) (Sm.yH (by rw [Yd,hps];exact h2)))
  ·rw [Array.size_map]
   show (pairsOf vs).size<=_
   rw [hps,Wd];rfl'
 ·rw [if_neg h2,if_neg h2]
  refine Qb (Xz (hK (by rfl')) ?_ fun _ _ z=>z)
  rintro k s' ⟨rfl,rfl⟩
  refine Qb (Xz (Sm.EY o hA (st:=SortSt.mk' k (vs.toArray.zip vs.toArray) #[] 7 none) (Q:=fun _ t=>(arrOf t).Perm (pairsOf vs)/\failedOf t=none/\Sm.Sd B (arrOf t).toList)
   rfl rfl rfl (Array.Perm.refl _) (by rfl') fun t z1 z2 z3=>⟨z1,z2,z3⟩) ?_ fun _ _ z=>z)
  rintro ⟨⟨⟩,t⟩ s' ⟨rfl,z1,z2,z3⟩
  refine Qb (seqEpoch_at h6 rfl (Qb (listUpdate_at h6 rfl ?_ (hsz2:= ?_))))
  ·dsimp only
   rw [z2]
   simp only [Xk,Ze,Xg]
   exact Za (h _ z1 z3)
  ·rw [Array.size_map]
   show (arrOf t).size<=_
   rw [z1.size_eq,hps,Wd];rfl'
end
end Sx
namespace L2
open PySem PySem.Spec PyProof.Rows
noncomputable def Oh (td:TE):TE:=fun σ H Q=>td σ H fun x H1=> ∃ (a:Addr) (kvs:List (Str×V)),x= .ref a/\H1 a=some (.dK (kvs.map fun p=>(Sum.inr p.1,p.2)))/\kvs.length<100000/\ ∀r (zs:List (Addr×Str×V)) (H2:Hp),(zs.map (·.2)).Perm kvs->(zs.map (·.2.1)).Pairwise Jz->H1 r=none->Same H1 H2->H2 r=some (.lst (zs.map fun z=>V.ref z.1))->(∀z∈zs,H2 z.1=some (.tup [.str z.2.1,z.2.2]))->Q (.ref r) H2
end L2
end
section
namespace L2
open PySem PySem.Spec PyProof.Rows
noncomputable def uF (K:W.Frag):R2:=fun x y H Q=> ∃a b xs ys,x= .ref a/\y= .ref b/\SqT K H a xs/\SqT K H b ys/\xs.length+ys.length<=sizeLine/\
 (xs=[]->Q (.ref b) H)/\(xs≠[]->ys=[]->Q (.ref a) H)/\(xs≠[]->ys≠[]-> ∀p,H p=none->Q (.ref p) (upd H p (.tup (xs++ys))))
section
variable {X:Cx}
theorem Fb:gM X (binaryOp .Add) (uF X.K):=by
 intro pins s σ H x y v u Q I rx ry h
 obtain ⟨a,b,xs,ys,rfl,rfl,ha,hb,hz,q0,q1,q2⟩:=h
 by_cases e:xs=[]
 ·subst e
  cases rx
  cases ry
  obtain ⟨its,r1,p1,_⟩:=I.tuple ha
  obtain ⟨its2,r2,p2,_⟩:=I.tuple hb
  cases r1
  obtain ⟨⟨cls,dd,data,sl⟩,ho,hc,n,hd⟩:=id p1
  obtain ⟨⟨cls2,dd2,data2,sl2⟩,ho2,hc2,n2,hd2⟩:=id p2
  simp only at hc hd hc2 hd2
  subst hc hd hc2 hd2
  exact concat_meets ⟨_,ho,rfl⟩ ⟨_,ho2,rfl⟩ noFill_tuple_add seq_tuple_add PySem.F.slot_tuple_add PySem.F.entry_tuple_add (PySem.F.args_tuple_add_2 _ _)
   (tuple_addW0 a b #[] its2.toArray n n2 dd dd2 sl sl2 rfl) ⟨ho,ho2, .ref b,H,I,rfl,q0 rfl⟩
 ·exact Ds pins s σ H _ _ _ _ Q I rx ry ⟨a,b,xs,ys,rfl,rfl,ha,hb,e,hz,q1 e,q2 e⟩
theorem yV (K:W.Frag) (hK:X.K=K):gM X (binaryOp .Add) (uF K):=hK▸Fb
end
end L2
end
section
namespace L2
open PySem PySem.Spec PyProof.Rows
structure FunD (K:W.Frag) (x qual:Str) (st:Stmt) (f:Addr) (fd:FuncData) (T:Addr) (ds:List Value):Prop where
 ex: ∃ (oc:Value) (od:Option Addr) (kV doc pm:Value) (an:Option Addr) (cdv ct:Value) (osl:Array (Option Value)),
  fd=W.fnOf x qual (dM st) (cZ st) (aD st) (.ref T) kV doc pm an cdv ct/\K.lookup f=some ⟨oc,od, .func fd,osl⟩/\W.codeIn K cdv qual=true
 kp:W.keepIn K (.ref f)=true
 tp: ∃ (o:Obj) (n:Nat),K.lookup T=some o/\o.data= .seq ds.toArray n
structure CalD (P:Program) (w:World) (K:W.Frag) (mg:Str->Option Value) (base:Heap) (n:Nat) (x:Str) (ps:List Str) (dvs:List V) (sp:Sp):Prop where
 ex: ∃ (f:Addr) (fd:FuncData) (ds:List Value),FnOk P w K mg base gH n f fd ps sp/\Binds K fd ps ds/\Vals dvs ds/\W.keepIn K (.ref f)=true/\mg x=some (.ref f)
structure CalXD (P:Program) (w:World) (K:W.Frag) (mg:Str->Option Value) (base:Heap) (n:Nat) (x:Str) (ps:List Str) (dvs:List V) (sp:Sp):Prop where
 ex: ∃ (f:Addr) (fd:FuncData) (ds:List Value),FnOk P w K mg base (RZ P w) n f fd ps sp/\Binds K fd ps ds/\Vals dvs ds/\W.keepIn K (.ref f)=true/\mg x=some (.ref f)
noncomputable def Tu (K:W.Frag) (a:Addr) (xs:List V):Prop:= ∃ (o:Obj) (its:Array Value) (n:Nat),K.lookup a=some o/\o.cls= .type "tuple"/\o.data= .seq its n/\its.size<=sizeLine/\Vals xs its.toList
end L2
end
section
namespace L2
open PySem PySem.Spec PyProof.Rows
noncomputable def Oi (x:Str) (o:Nat):It:=
 ⟨fun i _=>i<x.cps.size,
  fun i H v H'=> ∃p c,H p=none/\v= .ref p/\H'=upd H p (.tup [.int ((i+o:Nat):Int), .str ⟨#[c]⟩])/\x.cps[i]? =some c,
  fun i _=>i=x.cps.size⟩
structure EnSs (e it:Addr) (x:Str) (u:Tok) (o i:Nat) (h:Heap):Prop where
 he: ∃old,IsEnum h e it ((i+o:Nat):Int) old
 h1:h.IsStrIter it (strIterType x) x u i
noncomputable def Rk (ta tk:TA):TI:=fun σ H R=>ta σ H fun vs H1=>tk σ H1 fun ks H2=> ∃x o,vs=[.str x]/\ks=[.int ((o:Nat):Int)]/\o<=1000000000/\R (Oi x o) H2
end L2
end
section
namespace L2
open PySem PySem.Spec PyProof.Rows
noncomputable def Oj (K:W.Frag) (a:Addr):It:=
 ⟨fun i H=> ∃xs x,SqT K H a xs/\xs[i]? =some x,
  fun i H v H'=> ∃p x,H p=none/\v= .ref p/\H'=upd H p (.tup [.int (i:Int),x])/\ ∀xs,SqT K H a xs->xs[i]? =some x,
  fun i H=> ∃xs,SqT K H a xs/\i=xs.length⟩
structure EnSt3 (e it a:Addr) (i:Nat) (h:Heap):Prop where
 he: ∃old,IsEnum h e it (i:Int) old
 h1:h.IsTupleIter it a i
noncomputable def Rm (K:W.Frag) (ta:TA):TI:=fun σ H R=>ta σ H fun vs H1=> ∃a xs,vs=[.ref a]/\SqT K H1 a xs/\R (Oj K a) H1
end L2
end
section
namespace L2
open PySem PySem.Spec PyProof.Rows PySem.W
noncomputable abbrev nJ:R2:=rI (fun _ j=>0<j/\j.natAbs.log2<9000) fun i j=> .int (i / j)
theorem yW {X:Cx}:gM X (binaryOp .FloorDiv) nJ:=Jc fun i j _ _ _ _ _ hc q=>by
 have h1:(0:Int)<j:=hc.1
 exact floordiv_int (by rfl') (by rw [Int.fdiv_eq_ediv_of_nonneg i (by rfl')];exact q) (.inl (PyProof.noPylong_of_log2 hc.2))
end L2
end
section
namespace L2
open PySem PySem.Spec PyProof.Rows
noncomputable def Ro (tk tv:TE):TE:=fun σ H Q=> ∀p,H p=none->tk σ (upd H p (.dT [])) fun x H1=>tv σ H1 fun v H2=>H2 p=some (.dT [])/\ ∃k b,x= .ref b/\H2 b=some (.tup (k.map kV))/\Q (.ref p) (upd H2 p (.dT [(k,v)]))
end L2
end
section
namespace L2
open PySem PySem.Spec PyProof.Rows
noncomputable def Ol (K:W.Frag) (a b:Addr):It:=
 ⟨fun i H=> ∃xs ys x y,SqL K H a xs/\SqT K H b ys/\xs[i]? =some x/\ys[i]? =some y,
  fun i H v H'=> ∃p x y,H p=none/\v= .ref p/\H'=upd H p (.tup [x,y])/\(∀xs,SqL K H a xs->xs[i]? =some x)/\ ∀ys,SqT K H b ys->ys[i]? =some y,
  fun i H=> ∃xs ys,SqL K H a xs/\SqT K H b ys/\(xs.length<=i\/ys.length<=i)⟩
structure ZipStL (z TI TO i1 i2 a b:Addr) (i:Nat) (h:Heap):Prop where
 hz:IsZip h z TI TO .none
 hTI:IsPair h TI (.ref i1) (.ref i2)
 hTO: ∃u v,IsPair h TO u v
 h1:h.IsListIter i1 a i
 h2:h.IsTupleIter i2 b i
 aTO:a≠TO
 bTO:b≠TO
noncomputable def SN (K:W.Frag) (ta:TA):TI:=fun σ H R=>ta σ H fun vs H1=> ∃a b xs ys,vs=[.ref a, .ref b]/\SqL K H1 a xs/\SqT K H1 b ys/\R (Ol K a b) H1
end L2
end
section
namespace Nk
open PySem PySem.Spec PyProof.Rows
noncomputable abbrev dZ:=Int×Int×List Int
section
variable {prog:Program} {w:World} {A:Around} {E:Value->Shared->Prop} {s:Shared}
noncomputable def IsSt (prog:Program) (w:World) (h:Heap) (k:dZ) (a:Addr):Prop:= ∃o n v1 v2 b,h.get? a=some o/\o.cls= .type "tuple"/\o.data= .seq #[v1,v2, .ref b] n/\(intKind prog w).is k.1 v1=true/\(intKind prog w).is k.2.1 v2=true/\IsTupleKey (intKind prog w) h k.2.2 b
theorem IsSt.typeIs {k:dZ} {a:Addr} (x:IsSt prog w s.heap k a):s.TypeIs (.ref a) "tuple":=let ⟨o,_,_,_,_,ho,hc,_⟩:=x;⟨o,ho,hc⟩
theorem IsSt.inj {h:Heap} {a:Addr} {x y:dZ} (hx:IsSt prog w h x a) (hy:IsSt prog w h y a):x=y:=by
 obtain ⟨o,n,v1,v2,b,ho,_,hd,a1,a2,a3⟩:=hx
 obtain ⟨o',n',u1,u2,b',ho',_,hd',c1,c2,c3⟩:=hy
 obtain rfl:o=o':=Yt (ho.symm.trans ho')
 rw [hd] at hd'
 injection hd' with e1 _
 have e2:=Xr Array.toList e1
 simp only [List.cons.injEq,and_true] at e2
 obtain ⟨rfl,rfl,e3⟩:=e2
 cases e3
 have z3:=a3.inj c3
 have z1:=(intKind prog w).inj _ _ _ a1 c1
 have z2:=(intKind prog w).inj _ _ _ a2 c2
 exact Prod.ext z1 (Prod.ext z2 z3)
theorem IsSt.keeps {h h':Heap} {k:dZ} {a d:Addr} {o:Obj} {es ep} (x:IsSt prog w h k a) (ho:h.get? d=some o) (hd:o.data= .dict es ep) (hs:Heap.SameBut d h h'):IsSt prog w h' k a:=by
 obtain ⟨o',n,v1,v2,b,ho',hc,hd',a1,a2,a3⟩:=x
 have hne:a≠d:=by
  rintro rfl
  obtain rfl:o'=o:=Yt (ho'.symm.trans ho)
  rw [hd] at hd';exact nomatch hd'
 exact ⟨o',n,v1,v2,b,(hs.2 a hne).trans ho',hc,hd',a1,a2,a3.keeps ho hd hs⟩
noncomputable def m7 (cs:List Int):Int:=reduceHash (Builtin.Tuple.tupleHashOf (cs.map hashInt))
noncomputable def fV (k:dZ):Int:=reduceHash (Builtin.Tuple.tupleHashOf [hashInt k.1,hashInt k.2.1,m7 k.2.2])
theorem uG {k:dZ} {a:Addr} {Q:Int->Shared->Prop} (hu:A.units+1<cLine) (hk:IsSt prog w s.heap k a) (h:Q (fV k) { s with toks:=s.toks+(k.2.2.length+4) }):wpAny (model prog w) A (pyHash (.ref a)) Q E s:=by
 have hT:=hk.typeIs
 obtain ⟨o,n,v1,v2,b,ho,_,hd,a1,a2,a3⟩:=hk
 unfold pyHash
 first | unfold pyHashByItsType | skip
 first | refine Qb (wpAny_cRoomFor_or (.inr (by rfl')) ?_) | skip
 refine Qb (Wn hT F.slot_tuple_hash.lookup ?_)
 show wpAny _ _ (if (some (Value.builtin "tuple.__hash__")==some Value.none)=true then _ else _) Q E s
 rw [if_neg (by rw [beq_builtin_none];exact Zl)]
 refine Qb (Wn hT F.slot_tuple_hash.lookup ?_)
 show wpAny _ _ (callSpecialIfBoundUnlessNone? (.ref a) "__hash__" _ >>= _) Q E s
 refine Qb (wpAny_callSpecialIfBoundUnlessNone?_slot hT F.slot_tuple_hash (Yy F.slot_tuple_hash hT F.entry_tuple_hash ?_ (F.args_tuple_hash_1 _)))
 show wpAny _ _ (Builtin.Tuple.tupleItemsOf (.ref a) >>= _) _ _ s
 refine Qb (wpAny_tupleItemsOf ho hd ?_)
 refine Qb ?_
 rw [<- Ww]
 show wpAny _ _ (forIn [v1,v2,Value.ref b] _ _) _ _ s
 have in1:A.in1.units<cLine:=by show A.units+1<cLine;exact hu
 rw [Yo]
 refine Qb (Qb ((intKind prog w).pyHash a1 (Za ?_)))
 show wpAny _ _ (forIn [v2,Value.ref b] _ _) _ _ _
 rw [Yo]
 refine Qb (Qb ((intKind prog w).pyHash a2 (Za ?_)))
 show wpAny _ _ (forIn [Value.ref b] _ _) _ _ _
 rw [Yo]
 refine Qb (Qb (wpAny_pyHash_tuple (knd:=intKind prog w) in1 a3 (Za ?_)))
 show wpAny _ _ (forIn [] _ _) _ _ _
 rw [List.forIn_nil]
 refine Za ?_
 show wpAny _ _ (retInt (Builtin.Tuple.tupleHashOf [hashInt k.1,hashInt k.2.1,m7 k.2.2])) _ _ _
 refine wpAny_ret_mkInt ?_
 show wpAny _ _ (if (decide (-(2:Int)^63<=Builtin.Tuple.tupleHashOf [hashInt k.1,hashInt k.2.1,m7 k.2.2])&&decide (Builtin.Tuple.tupleHashOf [hashInt k.1,hashInt k.2.1,m7 k.2.2]<2^63))=true then _ else _) Q E _
 have hh: ∀x:Nat,x=s.toks+(k.2.2.length+4)->Q (fV k) { s with toks:=x }:=fun x e=>by rw [e];exact h
 unfold fV at hh
 unfold reduceHash at hh
 by_cases hr:(decide (-(2:Int)^63<=Builtin.Tuple.tupleHashOf [hashInt k.1,hashInt k.2.1,m7 k.2.2])&&decide (Builtin.Tuple.tupleHashOf [hashInt k.1,hashInt k.2.1,m7 k.2.2]<2^63))=true
 ·rw [if_pos hr]
  rw [if_pos hr] at hh
  exact Za (hh _ (by dsimp only;rfl'))
 ·rw [if_neg hr]
  rw [if_neg hr] at hh
  exact Qb (Wb (Za (hh _ (by dsimp only;rfl'))))
theorem rN {x y:dZ} {a b:Addr} {P:PySem.Fin->Shared->Prop} (hu:A.units<cLine) (hx:IsSt prog w s.heap x a) (hy:IsSt prog w s.heap y b) (h:P (.done (.ret (.bool (decide (x=y))))) s):
  wpAny (model prog w) A (Builtin.«tuple.__eq__» ⟨[.ref a, .ref b],[]⟩) P E s:=by
 have hTb:=hy.typeIs
 obtain ⟨oa,na,v1,v2,c,hoa,_,hda,a1,a2,a3⟩:=hx
 obtain ⟨ob,nb,u1,u2,d,hob,_,hdb,b1,b2,b3⟩:=hy
 show wpAny _ _ (isInstance (.ref b) (.type "tuple") >>= _) _ _ s
 refine Qb (Xm hTb Wt ?_)
 simp only [Yl,Ze,Xg]
 refine Qb (wpAny_tupleItemsOf hoa hda ?_)
 refine Qb (wpAny_tupleItemsOf hob hdb ?_)
 refine Qb ?_
 show wpAny _ _ (forIn [(v1,u1),(v2,u2),(Value.ref c,Value.ref d)] _ _) _ _ s
 obtain ⟨x1,x2,x3⟩:=x
 obtain ⟨y1,y2,y3⟩:=y
 dsimp only at a1 a2 a3 b1 b2 b3
 have no: ∀ {q:Bool},q=false->P (.done (.ret (.bool q))) s->P (.done (.ret (.bool false))) s:=fun e h=>e▸h
 rw [Yo]
 refine Qb (Qb ((intKind prog w).eqBool (a:=x1) (b:=y1) a1 b1 ?_))
 by_cases e1:x1=y1
 ·subst e1
  rw [Ym rfl]
  simp only [Yl,Ze,Xg]
  refine Za ?_
  show wpAny _ _ (forIn [(v2,u2),(Value.ref c,Value.ref d)] _ _) _ _ s
  rw [Yo]
  refine Qb (Qb ((intKind prog w).eqBool (a:=x2) (b:=y2) a2 b2 ?_))
  by_cases e2:x2=y2
  ·subst e2
   rw [Ym rfl]
   simp only [Yl,Ze,Xg]
   refine Za ?_
   show wpAny _ _ (forIn [(Value.ref c,Value.ref d)] _ _) _ _ s
   rw [Yo]
   refine Qb (Qb (wpAny_eqBool_tuple (knd:=intKind prog w) hu a3 b3 ?_))
   by_cases e3:x3=y3
   ·subst e3
    rw [Ym rfl]
    simp only [Yl,Ze,Xg]
    refine Za ?_
    show wpAny _ _ (forIn [] _ _) _ _ s
    rw [List.forIn_nil]
    refine Za ?_
    rw [Ym rfl] at h
    exact Za h
   ·rw [Zp e3]
    simp only [Bool.not_false,if_true]
    exact Qb (Za (Za (Za (Za (no (Zp fun z=>e3 (by cases z;rfl)) h)))))
  ·rw [Zp e2]
   simp only [Bool.not_false,if_true]
   exact Qb (Za (Za (Za (Za (no (Zp fun z=>e2 (by cases z;rfl)) h)))))
 ·rw [Zp e1]
  simp only [Bool.not_false,if_true]
  exact Qb (Za (Za (Za (Za (no (Zp fun z=>e1 (by cases z;rfl)) h)))))
theorem yX {x y:dZ} {a b:Addr} {Q:Bool->Shared->Prop} (hu:A.units+1<cLine) (hx:IsSt prog w s.heap x a) (hy:IsSt prog w s.heap y b) (h:Q (decide (x=y)) s):wpAny (model prog w) A (eqBool (.ref a) (.ref b)) Q E s:=by
 unfold eqBool
 try with_reducible refine Xp ?_
 show wpAny _ _ (if (Value.ref a==Value.ref b)=true then _ else _) Q E s
 by_cases hab:(Value.ref a==Value.ref b)=true
 ·rw [if_pos hab]
  have e:a=b:=by have:=eq_of_beq hab;injection this
  subst e
  obtain rfl:=hx.inj hy
  exact Qb (Wb (Za (by simpa using h)))
 ·rw [if_neg hab]
  exact Qb (wpAny_richCompare_same_room (op:= .Eq) hx.typeIs hy.typeIs F.slot_tuple_eq
   (Yy F.slot_tuple_eq hx.typeIs F.entry_tuple_eq (rN (by show A.units+1<cLine;exact hu) hx hy ⟨_,rfl,(fun e=>nomatch e),wpAny_truthy_bool h⟩) (F.args_tuple_eq_2 _ _)) (by rfl'))
theorem rO {ks:List Int} {a:Addr} {Q:Bool->Shared->Prop} (hk:IsTupleKey (intKind prog w) s.heap ks a) (h:Q true s):wpAny (model prog w) A (eqIsQuiet 7 (.ref a)) Q E s:=by
 have hT:=hk.typeIs
 obtain ⟨o,its,n,ho,_,hd,hi⟩:=hk
 unfold eqIsQuiet
 refine Qb (Wn hT F.slot_tuple_eq.lookup ?_)
 show wpAny _ _ (isInstance (.ref a) (.type "tuple") >>= _) _ _ s
 refine Qb (Xm hT Wt ?_)
 simp only [Yl,Ze,Xg]
 refine Qb (Xu ho hd ?_)
 refine Qb ?_
 show wpAny _ _ (forIn its _ _) _ _ s
 rw [<- Ww]
 refine wpAny_forIn_list _ (fun rest r s1=>r.1=none/\s1=s/\ ∀v∈rest,carriedByValue v=true) _ ?_ ?_ _ _ ⟨rfl,rfl,hi.byValue⟩
 ·rintro v rest r s1 ⟨hr,rfl,hall⟩
  rw [eqIsQuiet_byValue _ (hall v Zq)]
  refine Qb (Za ?_)
  simp only [Yl,Ze,Xg]
  exact Za ⟨rfl,rfl,fun u m=>hall u (Zs _ m)⟩
 ·rintro ⟨r1,r2⟩ s1 ⟨hr,rfl,_⟩
  simp only at hr
  subst hr
  exact Za h
theorem yZ {k:dZ} {a:Addr} {Q:Bool->Shared->Prop} (hk:IsSt prog w s.heap k a) (h:Q true s):wpAny (model prog w) A (eqIsQuiet 8 (.ref a)) Q E s:=by
 have hT:=hk.typeIs
 obtain ⟨o,n,v1,v2,b,ho,_,hd,a1,a2,a3⟩:=hk
 unfold eqIsQuiet
 refine Qb (Wn hT F.slot_tuple_eq.lookup ?_)
 show wpAny _ _ (isInstance (.ref a) (.type "tuple") >>= _) _ _ s
 refine Qb (Xm hT Wt ?_)
 simp only [Yl,Ze,Xg]
 refine Qb (Xu ho hd ?_)
 refine Qb ?_
 show wpAny _ _ (forIn #[v1,v2,Value.ref b] _ _) _ _ s
 rw [<- Ww]
 show wpAny _ _ (forIn [v1,v2,Value.ref b] _ _) _ _ s
 rw [Yo,eqIsQuiet_byValue _ ((intKind prog w).byValue _ _ a1)]
 refine Qb (Qb (Za ?_))
 simp only [Yl,Ze,Xg]
 refine Za ?_
 show wpAny _ _ (forIn [v2,Value.ref b] _ _) _ _ s
 rw [Yo,eqIsQuiet_byValue _ ((intKind prog w).byValue _ _ a2)]
 refine Qb (Qb (Za ?_))
 simp only [Yl,Ze,Xg]
 refine Za ?_
 show wpAny _ _ (forIn [Value.ref b] _ _) _ _ s
 rw [Yo]
 refine Qb (Qb (rO a3 ?_))
 simp only [Yl,Ze,Xg]
 refine Za ?_
 show wpAny _ _ (forIn [] _ _) _ _ s
 rw [List.forIn_nil]
 exact Za (Za h)
end
noncomputable def JW (prog:Program) (w:World):HeapKind prog w dZ where
 is:=IsSt prog w
 hash:=fV
 draws:=fun k=>k.2.2.length+4
 room:=fun A=>A.units+1<cLine
 inj:=fun hx hy=>hx.inj hy
 keeps:=fun x ho hd hs=>x.keeps ho hd hs
 pyHash:=fun hu hk h=>uG hu hk h
 eqBool:=fun hu hx hy h=>yX hu hx hy h
 quiet:=fun hk h=>yZ hk h
end Nk
namespace L2
open PySem PySem.Spec PyProof.Rows Nk
noncomputable abbrev Sk:=Int×Int×List Int
noncomputable def Rp (x:Sk×Addr×Value):DictEntry:=⟨fV x.1, .ref x.2.1,x.2.2⟩
noncomputable def Tv (a:Addr) (kvs:List (Addr×Sk×V)) (h:Heap):Prop:=kvs.length<=sizeLine/\(a==sysModules)=false/\ ∃xs:List (Sk×Addr×Value),Paired (fun (p:Addr×Sk×V) (q:Sk×Addr×Value)=>p.2.1=q.1/\p.1=q.2.1/\RelV p.2.2 q.2.2) kvs xs/\
 ∃o es ep,h.get? a=some o/\o.ExactDict/\o.data= .dict es ep/\es.toList=xs.map Rp/\(xs.map (·.1)).Nodup
noncomputable abbrev QV (a:Addr) (kvs:List (Addr×Sk×V)):HO:= .ext (Tv a kvs)
noncomputable def JX (H:Hp) (b:Addr) (k:Sk):Prop:= ∃c,H b=some (.tup [.int k.1, .int k.2.1, .ref c])/\H c=some (.tup (k.2.2.map V.int))
noncomputable def Om (kvs:List (Addr×Sk×V)) (k:Sk):Option V:=(kvs.find? fun p=>decide (p.2.1=k)).map (·.2.2)
noncomputable def Rq (kvs:List (Addr×Sk×V)) (b:Addr) (k:Sk) (v:V):List (Addr×Sk×V):=if (Om kvs k).isSome then kvs.map fun p=>if p.2.1=k then (p.1,p.2.1,v) else p else kvs++[(b,k,v)]
noncomputable def JZ (H:Hp) (a:Addr) (y:V) (r:Option V):Prop:= ∃kvs k b,H a=some (QV a kvs)/\(∀p∈kvs,JX H p.1 p.2.1)/\y= .ref b/\JX H b k/\r=Om kvs k
noncomputable def Rr (H:Hp) (a:Addr) (y v:V) (H':Hp):Prop:= ∃kvs k b,H a=some (QV a kvs)/\(∀p∈kvs,JX H p.1 p.2.1)/\y= .ref b/\JX H b k/\kvs.length<sizeLine/\H'=upd H a (QV a (Rq kvs b k v))
section
variable {P:Program} {w:World} {H:Hp} {h:Heap} {a b:Addr}
theorem pP {P:Program} {w:World}: ∀ {ks:List Int} {us:List Value},Vals (ks.map V.int) us->ItemsAre (intKind P w) ks us
 | [],_,r=>by rw [List.map_nil] at r;cases r;exact .nil
 | k::ks,_,r=>by
  rw [Zr] at r
  cases r with
  | cons h t=>
   obtain ⟨t',rfl⟩:=(show ∃t,_=Value.int k t from h)
   exact .cons (intKind_is _ _ _ _) (pP t)
theorem Oo {k:Sk} (ok:HOk P w H h) (e:JX H a k):(JW P w).is h k a:=by
 obtain ⟨c,e1,e2⟩:=e
 obtain ⟨_,its,r,o,g1,g2,n,g3⟩:=(show ObjOk P w H h a (.tup [.int k.1, .int k.2.1, .ref c]) from ok a _ e1)
 obtain ⟨_,its2,r2,o2,f1,f2,n2,f3⟩:=(show ObjOk P w H h c (.tup (k.2.2.map V.int)) from ok c _ e2)
 cases r with
 | cons h1 t1=>
  cases t1 with
  | cons h2 t2=>
   cases t2 with
   | cons h3 t3=>
    cases t3
    obtain ⟨u1,rfl⟩:=(show ∃t,_=Value.int k.1 t from h1)
    obtain ⟨u2,rfl⟩:=(show ∃t,_=Value.int k.2.1 t from h2)
    cases (show _=Value.ref c from h3)
    exact ⟨o,n,_,_,c,g1,g2,g3,intKind_is _ _ _ _,intKind_is _ _ _ _,⟨o2,its2.toArray,n2,f1,f2,f3,by simpa using pP r2⟩⟩
noncomputable abbrev KS:List (Addr×Sk×V)->List (Sk×Addr×Value)->Prop:=Paired fun p q=>p.2.1=q.1/\p.1=q.2.1/\RelV p.2.2 q.2.2
end
end L2
end
section
namespace Nk
open PySem PySem.Spec PyProof.Rows Sx
noncomputable def fu (a b:dZ):Bool:=if a.1=b.1 then (if a.2.1=b.2.1 then HT.lexLt a.2.2 b.2.2 else decide (a.2.1<b.2.1)) else decide (a.1<b.1)
noncomputable def Fn (h:Heap) (f:Value->dZ) (v:Value):Prop:= ∃b ob its n t1 t2 c oc ics nc,v= .ref b/\h.get? b=some ob/\ob.cls= .type "tuple"/\ob.data= .seq its n/\its.toList=[.int (f v).1 t1, .int (f v).2.1 t2, .ref c]/\h.get? c=some oc/\oc.cls= .type "tuple"/\oc.data= .seq ics nc/\IntsAre ics.toList (f v).2.2
section
variable {prog:Program} {w:World} {A:Around} {E:Value->Shared->Prop} {s:Shared} {f:Value->dZ}
theorem nM: ∀a:List Int,HT.lexLt a a=false
 | []=>rfl
 | x::a=>by rw [HT.dg,if_pos rfl];exact nM a
theorem pQ: ∀ {a b:List Int},HT.lexLt a b=true->HT.lexLt b a=false
 | [],[],h=>by cases h
 | [],_::_,_=>rfl
 | _::_,[],h=>by cases h
 | x::a,y::b,h=>by
  rw [HT.dg] at h ⊢
  by_cases e:x=y
  ·rw [if_pos e] at h;rw [if_pos e.symm];exact pQ h
  ·rw [if_neg e] at h
   rw [if_neg (Ne.symm e)]
   have:=Wa h
   exact Zp (by rfl')
theorem uH: ∀ {a b:List Int},HT.lexLt a b=false->HT.lexLt b a=false->a=b
 | [],[],_,_=>rfl
 | [],_::_,h,_=>by cases h
 | _::_,[],_,h=>by cases h
 | x::a,y::b,h1,h2=>by
  rw [HT.dg] at h1 h2
  by_cases e:x=y
  ·rw [if_pos e] at h1;rw [if_pos e.symm] at h2
   rw [e,uH h1 h2]
  ·rw [if_neg e] at h1
   rw [if_neg (Ne.symm e)] at h2
   have:=Yw h1
   have:=Yw h2
   rfl'
theorem z6: ∀ {a b c:List Int},HT.lexLt b a=false->HT.lexLt c b=false->HT.lexLt c a=false
 | [],[],c,_,h=>h
 | [],_::_,[],_,_=>rfl
 | [],_::_,_::_,_,_=>rfl
 | _::_,[],c,h,_=>by cases h
 | _::_,_::_,[],_,h=>by cases h
 | x::a,y::b,z::c,h1,h2=>by
  rw [HT.dg] at h1 h2 ⊢
  by_cases e1:y=x
  ·rw [if_pos e1] at h1
   by_cases e2:z=y
   ·rw [if_pos e2] at h2
    rw [if_pos (e2.trans e1)];exact z6 h1 h2
   ·rw [if_neg e2] at h2
    have:=Yw h2
    rw [if_neg (by rfl')]
    exact Zp (by rfl')
  ·rw [if_neg e1] at h1
   have:=Yw h1
   by_cases e2:z=y
   ·rw [if_neg (by rfl')]
    exact Zp (by rfl')
   ·rw [if_neg e2] at h2
    have:=Yw h2
    rw [if_neg (by rfl')]
    exact Zp (by rfl')
theorem z7 (a:dZ):fu a a=false:=by unfold fu;rw [if_pos rfl,if_pos rfl];exact nM _
theorem Fd {a b:dZ} (h:fu a b=true):fu b a=false:=by
 unfold fu at h ⊢
 by_cases e:a.1=b.1
 ·rw [if_pos e] at h;rw [if_pos e.symm]
  by_cases e2:a.2.1=b.2.1
  ·rw [if_pos e2] at h;rw [if_pos e2.symm];exact pQ h
  ·rw [if_neg e2] at h;rw [if_neg (Ne.symm e2)]
   have:=Wa h
   exact Zp (by rfl')
 ·rw [if_neg e] at h;rw [if_neg (Ne.symm e)]
  have:=Wa h
  exact Zp (by rfl')
theorem K1 {a b:dZ} (h1:fu a b=false) (h2:fu b a=false):a=b:=by
 unfold fu at h1 h2
 by_cases e:a.1=b.1
 ·rw [if_pos e] at h1;rw [if_pos e.symm] at h2
  by_cases e2:a.2.1=b.2.1
  ·rw [if_pos e2] at h1;rw [if_pos e2.symm] at h2
   exact Prod.ext e (Prod.ext e2 (uH h1 h2))
  ·rw [if_neg e2] at h1;rw [if_neg (Ne.symm e2)] at h2
   have:=Yw h1
   have:=Yw h2
   rfl'
 ·rw [if_neg e] at h1;rw [if_neg (Ne.symm e)] at h2
  have:=Yw h1
  have:=Yw h2
  rfl'
theorem Oq {a b c:dZ} (h1:fu b a=false) (h2:fu c b=false):fu c a=false:=by
 unfold fu at h1 h2 ⊢
 by_cases e1:b.1=a.1
 ·rw [if_pos e1] at h1
  by_cases e2:c.1=b.1
  ·rw [if_pos e2] at h2
   rw [if_pos (e2.trans e1)]
   by_cases g1:b.2.1=a.2.1
   ·rw [if_pos g1] at h1
    by_cases g2:c.2.1=b.2.1
    ·rw [if_pos g2] at h2;rw [if_pos (g2.trans g1)];exact z6 h1 h2
    ·rw [if_neg g2] at h2
     have:=Yw h2
     rw [if_neg (by rfl')];exact Zp (by rfl')
   ·rw [if_neg g1] at h1
    have:=Yw h1
    by_cases g2:c.2.1=b.2.1
    ·rw [if_neg (by rfl')];exact Zp (by rfl')
    ·rw [if_neg g2] at h2
     have:=Yw h2
     rw [if_neg (by rfl')];exact Zp (by rfl')
  ·rw [if_neg e2] at h2
   have:=Yw h2
   rw [if_neg (by rfl')];exact Zp (by rfl')
 ·rw [if_neg e1] at h1
  have:=Yw h1
  by_cases e2:c.1=b.1
  ·rw [if_neg (by rfl')];exact Zp (by rfl')
  ·rw [if_neg e2] at h2
   have:=Yw h2
   rw [if_neg (by rfl')];exact Zp (by rfl')
end
end Nk
namespace L2
open PySem PySem.Spec PyProof.Rows Sx Nk
section
variable {prog:Program} {w:World} {A:Around} {E:Value->Shared->Prop} {s:Shared} {d:Addr} {od:Obj} {es:Array DictEntry} {ep:Nat}
theorem Fe (lo:(d==sysModules)=false) (hex:od.ExactDict) (hdd:od.data= .dict es ep):PySem.W.KdlSrc prog w "dict" d d es.size (fun i v=> ∃e,es[i]? =some e/\v=e.key) (fun h=>h.get? d=some od) where
 type:=fun s h=>⟨od,h,hex.1⟩
 there:=fun h e=>⟨Heap.lt_size e,Zk e⟩
 keep:=fun h h' e k=>k d (.inl rfl) od e
 notList:=by decide
 notTuple:=by decide
 hint:=fun A E s Q h hq=>PySem.W.kdl_hint_dict ⟨od,h,hex.1⟩ hq
 iter:=fun A s hh h=>⟨{ cls:= .type "dict_keyiterator",data:= .fields #[.ref d, .int 0 0, .int es.size 0, .int ep 0] },fun i h=>h.IsKeyIter s.heap.objs.size d i es.size ep/\h.get? d=some od,fun E Q hq=>jH lo ⟨od,h,hex.1⟩ h hdd hq,{
   sub:=fun b hb=>by simp only [Zu,Xb,or_false] at hb ⊢;exact .inl hb
   frame:=fun i h h' st k=>⟨st.1.at fun o e=>k _ (by simp) o e,k d (by simp) od st.2⟩
   item:=fun i s' Q E hi st hQ=>by
    have nd:d≠s.heap.objs.size:=Yh (Zk h)
    exact pB st.1 st.2 hdd hi fun h' a1 a2=>hQ _ h' s'.toks ⟨es[i],Zi hi,rfl⟩ ⟨a1,(a2.2 d nd).trans st.2⟩ fun b o hb e=>(a2.2 b (fun z=>hb (by rw [z];simp))).trans e
   done:=fun s' Q E st hQ=>uv hh st.1 st.2 hdd (Zh _) fun h' eb=>hQ h' s'.toks fun b o hb e=>eb b o (fun z=>hb (by rw [z];simp)) e
   self:=fun i s' Q E st hq=>wpAny_pyIter_keyiter st.1 hq },⟨⟨_,Zm _ rfl,rfl,rfl⟩,Zb _ h⟩⟩
theorem pR {R:List Value->Shared->Prop} (hh:A.handled=none) (lo:(d==sysModules)=false) (hex:od.ExactDict) (hdd:od.data= .dict es ep) (ho:s.heap.get? d=some od) (hn:es.size<=sizeLine)
  (h: ∀ (h':Heap) (tk:Nat),(∀b o,s.heap.get? b=some o->h'.get? b=some o)->s.heap.objs.size<=h'.objs.size->R (es.toList.map (·.key)) { s with heap:=h',toks:=tk }):
  wpAny (model prog w) A (collect (.ref d)) R E s:=by
 have hd:d<s.heap.objs.size:=Zk ho
 have KS:=Fe (prog:=prog) (w:=w) lo hex hdd
 unfold collect
 refine Qb (wpAny_runValue (Wo entry_proto_collect' ?_))
 rw [Xw PySem.F.plain_proto_collect _]
 show wpAny _ A.in1 (newList [] >>= fun l=>again (.builtin "list.__iadd__" ⟨[l, .ref d],[]⟩)) _ _ s
 refine Qb (Xc ?_)
 refine Za ⟨plainId_quiet PySem.F.plain_list_iadd _,Wo entry_list_iadd' ?_⟩
 rw [Xw PySem.F.plain_list_iadd _]
 have hS₁:(s.heap.push { cls:= .type "list",data:= .seq ([]:List Value).toArray }).get? s.heap.objs.size=some { cls:= .type "list",data:= .seq #[] }:=Zm _ rfl
 show wpAny _ A.in1 (Builtin.List.listExtendWith (.ref s.heap.objs.size) (.ref d) (.ref s.heap.objs.size)) _ _ _
 have key:=PySem.W.kdl_extend (A:=A) (s:={ s with heap:=s.heap.push { cls:= .type "list",data:= .seq ([]:List Value).toArray } }) KS
  (R:=fun (q:Result) (s':Shared)=> ∃ (h':Heap) (tk:Nat) (acc':Array Value) (c':Nat),q= .ok (.ret (.ref s.heap.objs.size))/\s'={ s with heap:=h',toks:=tk }/\
   (∀b o,s.heap.get? b=some o->h'.get? b=some o)/\h'.get? s.heap.objs.size=some { cls:= .type "list",dict:=none,data:= .seq acc' c',slots:= #[] }/\ItemsOf (fun i v=> ∃e,es[i]? =some e/\v=e.key) acc' es.size)
  hh (Zb _ ho) s.heap.objs.size (Nat.ne_of_gt hd) (Nat.ne_of_gt hd) (.ref s.heap.objs.size) 0 hS₁
  (fun h' tk acc' c' hk hS' hacc=>⟨h',tk,acc',c',rfl,rfl,fun b o e=>hk b o (Yh (Zk e)) (Zb _ e),hS',hacc⟩) hn
 have fin: ∀ {h':Heap} {tk:Nat} {acc':Array Value} {c':Nat},(∀b o,s.heap.get? b=some o->h'.get? b=some o)->h'.get? s.heap.objs.size=some { cls:= .type "list",dict:=none,data:= .seq acc' c',slots:= #[] }->ItemsOf (fun i v=> ∃e,es[i]? =some e/\v=e.key) acc' es.size->R acc'.toList { s with heap:=h',toks:=tk }:=by
  intro h' tk acc' c' hk hS' hacc
  have e:acc'.toList=es.toList.map (·.key):=by
   apply List.ext_getElem?
   intro j
   rw [Zd,Yr,Yr]
   by_cases c:j<es.size
   ·have cj:j<acc'.size:=by rw [hacc.1];exact c
    obtain ⟨e,e1,e2⟩:=hacc.2 j acc'[j] (Zi cj)
    rw [Zi cj,e1,e2];rfl
   ·rw [Xv (by rw [hacc.1];rfl'),Xv (by rfl')];rfl
  rw [e]
  exact h h' tk hk (Xq (Zk hS'))
 refine Xz key (fun f s' x=> ?_) fun e s' x=> ?_
 ·cases f with
  | done f=>
   obtain ⟨h',tk,acc',c',e,rfl,hk,hS',hacc⟩:=x
   cases e
   show wpAny _ A (load s.heap.objs.size >>= _) _ _ _
   exact Qb (wpAny_load hS' (Za (fin hk hS' hacc)))
  | again c₁=>
   refine ⟨x.1,codeAny_mono x.2 fun q s₂ y=> ?_⟩
   obtain ⟨h',tk,acc',c',rfl,rfl,hk,hS',hacc⟩:=y
   show wpAny _ A (load s.heap.objs.size >>= _) _ _ _
   exact Qb (wpAny_load hS' (Za (fin hk hS' hacc)))
 ·obtain ⟨_,_,_,_,e',_⟩:=x
  cases e'
theorem jb {v:Value} {Q:Value->Shared->Prop} {C:List Value->Shared->Prop} {Z:List Value->Shared->Array Value->Prop}
  (hc: ∀ (E':Value->Shared->Prop) (R:List Value->Shared->Prop),(∀vs s1,C vs s1->R vs s1)->wpAny (model prog w) A.in1 (collect v) R E' s)
  (hz: ∀vs s1,C vs s1->vs.length<100000/\(∀ (A':Around) (E':Value->Shared->Prop) (P:PySem.Fin->Shared->Prop),A'.units<=A.units+2->(∀out,Z vs s1 out->P (.done (.ret .none)) { s1 with heap:=sortedHeap (s1.heap.push (seqObj "list" vs.toArray 0)) s1.heap.objs.size vs out })->
    wpAny (model prog w) A' (Builtin.«list.sort» ⟨[.ref s1.heap.objs.size],[]⟩) P E' { s1 with heap:=s1.heap.push (seqObj "list" vs.toArray 0) })/\
   ∀out,Z vs s1 out->Q (.ref s1.heap.objs.size) { s1 with heap:=sortedHeap (s1.heap.push (seqObj "list" vs.toArray 0)) s1.heap.objs.size vs out }):
  wpAny (model prog w) A (call (.builtin "sorted") [v]) Q E s:=by
 refine Calls.call_function_entry kind_sorted plain_sorted entry_sorted (args_sorted1 _) ?_
 unfold Builtin.«sorted»
 refine Qb (m:=checkCount "sorted" 1 1 _) (Za (Qb (hc _ _ fun vs s1 hC=> ?_)))
 obtain ⟨h64,hS,h⟩:=hz vs s1 hC
 refine Qb (wpAny_newList ?_ (by rw [Wd];rfl'))
 have g:(s1.heap.push (seqObj "list" vs.toArray 0)).get? s1.heap.objs.size=some (seqObj "list" vs.toArray 0):=Zm _ rfl
 show wpAny _ _ _ _ _ { s1 with heap:=s1.heap.push (seqObj "list" vs.toArray 0) }
 refine Qb (Xp (Yy slot_list_sort ⟨_,g,rfl⟩ entry_list_sort (hS _ _ _ (Zh _) fun out z=>⟨_,rfl,?_⟩) (args_list_sort _)))
 exact Za ⟨_,rfl,h out z⟩
noncomputable def stOf (h:Heap) (v:Value):dZ:=open Classical in if e: ∃k,Fn h (fun _=>k) v then e.choose else (0,0,[])
end
end L2
namespace L2
open PySem PySem.Spec PyProof.Rows Nk
noncomputable def SQ:TE:=fun _ H Q=> ∀p,H p=none->Q (.ref p) (upd H p (QV p []))
noncomputable def SX (td ty:TE):TE:=fun σ H Q=>td σ H fun x H1=>ty σ H1 fun y H2=> ∃a v,x= .ref a/\JZ H2 a y (some v)/\Q v H2
noncomputable def Tz (ty td:TE):TE:=fun σ H Q=>ty σ H fun y H1=>td σ H1 fun x H2=> ∃a o,x= .ref a/\JZ H2 a y o/\Q (.bl o.isSome) H2
noncomputable def QW (ty td:TE):TE:=fun σ H Q=>ty σ H fun y H1=>td σ H1 fun x H2=> ∃a o,x= .ref a/\JZ H2 a y o/\Q (.bl (!o.isSome)) H2
noncomputable def T6 (td ty tv:TE):TS:=fun D σ H=>tv σ H fun v H1=>td σ H1 fun x H2=>ty σ H2 fun y H3=> ∃a H4,x= .ref a/\Rr H3 a y v H4/\D.nx σ H4
section
variable {X:Cx} {o i e value:Expr} {pos pos' tpos:Pos} {td ty tv:TE}
theorem K3 {A:Around} {k:Nat} (hr:Room k A):A.units+3<cLine:=Yg (Nat.add_le_add_left (by decide:3<=64) _) hr.units
end
end L2
end
section
namespace Nk
open PySem PySem.Spec PyProof.Rows
section
variable {prog:Program} {w:World} {A:Around} {E:Value->Shared->Prop} {s:Shared}
theorem eF: ∀ {ns:List Int} {vs:List Value},ItemsAre (intKind prog w) ns vs->IntsAre vs ns
 | _,_, .nil=> .nil
 | _,_, .cons h t=>by
  obtain ⟨u,rfl⟩:=Value.isInt_shape h
  exact .cons _ _ (eF t)
theorem rP {x y:dZ} {a b:Addr} {P:PySem.Fin->Shared->Prop} (hu:A.units<cLine) (hx:IsSt prog w s.heap x a) (hy:IsSt prog w s.heap y b) (h:P (.done (.ret (.bool (fu x y)))) s):
  wpAny (model prog w) A (Builtin.«tuple.__lt__» ⟨[.ref a, .ref b],[]⟩) P E s:=by
 have hTb:=hy.typeIs
 obtain ⟨oa,na,v1,v2,c,hoa,_,hda,a1,a2,a3⟩:=hx
 obtain ⟨ob,nb,u1,u2,d,hob,_,hdb,b1,b2,b3⟩:=hy
 show wpAny _ _ (isInstance (.ref b) (.type "tuple") >>= _) _ _ s
 refine Qb (Xm hTb Wt ?_)
 simp only [Yl,Ze,Xg]
 refine Qb (wpAny_tupleItemsOf hoa hda ?_)
 refine Qb (wpAny_tupleItemsOf hob hdb ?_)
 refine Qb ?_
 show wpAny _ _ (forIn [(v1,u1),(v2,u2),(Value.ref c,Value.ref d)] _ _) _ _ s
 obtain ⟨x1,x2,x3⟩:=x
 obtain ⟨y1,y2,y3⟩:=y
 unfold fu at h
 dsimp only at a1 a2 a3 b1 b2 b3 h
 rw [Yo]
 refine Qb (Qb ((intKind prog w).eqBool (a:=x1) (b:=y1) a1 b1 ?_))
 by_cases e1:x1=y1
 ·rw [Ym e1]
  rw [if_pos e1] at h
  simp only [Yl,Ze,Xg]
  refine Za ?_
  show wpAny _ _ (forIn [(v2,u2),(Value.ref c,Value.ref d)] _ _) _ _ s
  rw [Yo]
  refine Qb (Qb ((intKind prog w).eqBool (a:=x2) (b:=y2) a2 b2 ?_))
  by_cases e2:x2=y2
  ·rw [Ym e2]
   rw [if_pos e2] at h
   simp only [Yl,Ze,Xg]
   refine Za ?_
   show wpAny _ _ (forIn [(Value.ref c,Value.ref d)] _ _) _ _ s
   rw [Yo]
   refine Qb (Qb (wpAny_eqBool_tuple (knd:=intKind prog w) hu a3 b3 ?_))
   by_cases e3:x3=y3
   ·subst e3
    rw [Ym rfl]
    simp only [Yl,Ze,Xg]
    refine Za ?_
    show wpAny _ _ (forIn [] _ _) _ _ s
    rw [List.forIn_nil]
    refine Za ?_
    rw [nM] at h
    exact Za h
   ·rw [Zp e3]
    simp only [Bool.not_false,if_true]
    obtain ⟨oc,ic,nc,k1,l1,m1,i1⟩:=a3
    obtain ⟨od,id',nd,k2,l2,m2,i2⟩:=b3
    refine Qb (Wb (Qb ?_))
    exact HT.qR (A:=A) (Q:=_) ⟨oc,k1,l1,nc,m1⟩ ⟨od,k2,l2,nd,m2⟩ (eF i1) (eF i2) hu (Qb (Za (Za (Za (Za h)))))
  ·rw [Zp e2]
   rw [if_neg e2] at h
   simp only [Bool.not_false,if_true]
   obtain ⟨t1,rfl⟩:=Value.isInt_shape a2
   obtain ⟨t2,rfl⟩:=Value.isInt_shape b2
   refine Qb (Wb (Qb ?_))
   exact wpAny_lt_int (A:=A) (Q:=_) (Qb (Za (Za (Za (Za h)))))
 ·rw [Zp e1]
  rw [if_neg e1] at h
  simp only [Bool.not_false,if_true]
  obtain ⟨t1,rfl⟩:=Value.isInt_shape a1
  obtain ⟨t2,rfl⟩:=Value.isInt_shape b1
  refine Qb (Wb (Qb ?_))
  exact wpAny_lt_int (A:=A) (Q:=_) (Qb (Za (Za (Za (Za h)))))
theorem Ot {x y:dZ} {a b:Addr} {Q:Value->Shared->Prop} (hu:A.units+1<cLine) (hx:IsSt prog w s.heap x a) (hy:IsSt prog w s.heap y b) (h:Q (.bool (fu x y)) s):wpAny (model prog w) A (compareOp .Lt (.ref a) (.ref b)) Q E s:=by
 show wpAny _ _ (richCompare .Lt (.ref a) (.ref b)) _ _ _
 exact wpAny_richCompare_same_room (op:= .Lt) hx.typeIs hy.typeIs PySem.F.slot_tuple_lt
   (Yy PySem.F.slot_tuple_lt hx.typeIs PySem.F.entry_tuple_lt (rP (by show A.units+1<cLine;exact hu) hx hy ⟨_,rfl,(fun e=>nomatch e),h⟩) (PySem.F.args_tuple_lt_2 _ _)) (by rfl')
end
end Nk
end
section
namespace L2
open PySem PySem.Spec PyProof.Rows Nk
theorem K4 {A:Around} {k:Nat} (hr:Room k A):A.units+4<cLine:=Yg (Nat.add_le_add_left (by decide:4<=64) _) hr.units
end L2
end
section
namespace St
open PySem PySem.Spec PyProof.Rows
theorem slot_next:Slot "set_iterator" "__next__" "set_iterator.__next__":=
 .of (owner:="set_iterator") (n:="__next__") (by rw [typeLookup_type,builtinLookup_eq_fast];kernel_rfl) (by decide+kernel) (by decide+kernel) (by decide+kernel)
  (by first | exact .inl (by decide+kernel) | exact .inr (by decide+kernel)) (by rw [isSubtype_type];kernel_rfl)
theorem slot_self:Slot "set_iterator" "__iter__" "set_iterator.__iter__":=
 .of (owner:="set_iterator") (n:="__iter__") (by rw [typeLookup_type,builtinLookup_eq_fast];kernel_rfl) (by decide+kernel) (by decide+kernel) (by decide+kernel)
  (by first | exact .inl (by decide+kernel) | exact .inr (by decide+kernel)) (by rw [isSubtype_type];kernel_rfl)
theorem entry_next:entryFor table "set_iterator.__next__"=some Builtin.«set_iterator.__next__»:=entryFor_of_tree (by kernel_rfl)
theorem pU:Manifest.owners.lookup (String.ofList ['r','o','t','a','r','e','t','i','_','t','e','s'].reverse)=some Manifest.sig_set_iterator:=by kernel_rfl
theorem args_next (a:Value):argsOk "set_iterator.__next__" ⟨[a],[]⟩:=by
 unfold argsOk;rw [signature?_of (id:="set_iterator.__next__") (n:=['_','_','t','x','e','n','_','_']) (o:=['r','o','t','a','r','e','t','i','_','t','e','s']) (by kernel_rfl) pU];kernel_rfl
theorem jV:entryFor table "set.__iter__"=some Builtin.«frozenset.__iter__»:=entryFor_alias (id':="frozenset.__iter__") (by kernel_rfl) rfl (by decide+kernel) (by kernel_rfl)
theorem Ff:typeLookup (.type "set") "__len__"=pure (some (.builtin "set.__len__")):=by rw [typeLookup_type,builtinLookup_eq_fast];kernel_rfl
theorem Rt (v:Value):checkBuiltinCall "set.__new__" ⟨[.type "set",v],[]⟩=pure ():=by kernel_rfl
theorem Ou (v:Value):checkTypeCall "set" ⟨[v],[]⟩=pure ():=by kernel_rfl
noncomputable def SetAt (h:Heap) (a:Addr) (es:Array (Int×Value)) (ep:Nat) (t:SetTable):Prop:= ∃o,h.get? a=some o/\o.ExactSet/\o.data= .set es ep t/\t.fits es.size=true
noncomputable def ItAt (h:Heap) (I:Addr) (f0:Value) (i:Nat) (a:Addr) (n ep:Nat):Prop:= ∃o,h.get? I=some o/\o.cls= .type "set_iterator"/\o.data= .fields #[f0, .int i 0, .ref a, .int n 0, .int ep 0]
theorem SetAt.typeIs {s:Shared} {a:Addr} {es:Array (Int×Value)} {ep:Nat} {t:SetTable} (x:SetAt s.heap a es ep t):s.TypeIs (.ref a) "set":=let ⟨o,ho,hc,_⟩:=x;⟨o,ho,hc.1⟩
theorem ItAt.typeIs {s:Shared} {I a:Addr} {f0:Value} {i n ep:Nat} (x:ItAt s.heap I f0 i a n ep):s.TypeIs (.ref I) "set_iterator":=let ⟨o,ho,hc,_⟩:=x;⟨o,ho,hc⟩
section
variable {prog:Program} {w:World} {A:Around} {E:Value->Shared->Prop} {s:Shared}
theorem gW {α:Type}: ∀ {l:List α} {i:Nat} (h:i<l.length),(l[i]::l.eraseIdx i).Perm l
 | x::r,0,_=>List.Perm.refl _
 | x::r,i+1,h=>by
  rw [List.getElem_cons_succ,List.eraseIdx_cons_succ]
  exact (List.Perm.swap _ _ _).trans (List.Perm.cons _ (gW (Nat.lt_of_succ_lt_succ h)))
theorem Ov {M:Model} {src:Source} {n:Nat} {Q:Nat->Shared->Prop} (hn:n≠0) (h: ∀i d,i<n->Q i { s with drawn:=d }):wpAny M A (choose src n) Q E s:=fun Γ p _=>by
 unfold choose
 rw [Sem.wp_choose]
 exact ⟨hn,h _ _ (Nat.mod_lt _ (Wm hn))⟩
theorem z8 {M:Model} {α:Type}: ∀ {n:Nat} {xs:List α} {s:Shared} {Q:List α->Shared->Prop},xs.length=n->(∀ys d,ys.Perm xs->Q ys { s with drawn:=d })->wpAny M A (drawOrder n xs) Q E s:=by
 intro n
 induction n with
 | zero=>
  intro xs s Q e h
  rw [Zv e] at h ⊢
  unfold drawOrder
  exact Za (h [] s.drawn (List.Perm.refl _))
 | succ n ih=>
  intro xs s Q e h
  obtain ⟨x,r,rfl⟩:=Yq (show 0<xs.length by rw [e];exact Nat.succ_pos n)
  unfold drawOrder
  refine Qb (Ov (by rw [e];exact Nat.succ_ne_zero n) fun i d hi=> ?_)
  rw [Zc hi]
  refine Qb (ih (by rw [List.length_eraseIdx,if_pos hi,e];rfl) fun ys d' p=> ?_)
  refine Za (h _ d' ?_)
  exact (List.Perm.cons _ p).trans (gW hi)
theorem Fg {α:Type} (next:Nat->Nat): ∀ (m k:Nat) (l:List α) (out:Array α),l.length=m->(pickOrder.go next m k l out).toList.Perm (out.toList++l):=by
 intro m
 induction m with
 | zero=>intro k l out e;rw [Zv e];unfold pickOrder.go;rw [Yx]
 | succ m ih=>
  intro k l out e
  have hl:0<l.length:=by rw [e];exact Nat.succ_pos m
  have hi:next k%l.length<l.length:=Nat.mod_lt _ hl
  unfold pickOrder.go
  rw [Zc hi]
  refine (ih _ _ _ (by rw [List.length_eraseIdx,if_pos hi,e];rfl)).trans ?_
  rw [Array.toList_push,Ye]
  exact List.Perm.append_left _ (gW hi)
theorem gF {α:Type} (next:Nat->Nat) (xs:Array α):(pickOrder next xs).toList.Perm xs.toList:=by
 have:=Fg next xs.size 0 xs.toList #[] (Yd)
 simpa [pickOrder] using this
theorem jc {a:Addr} {es:Array (Int×Value)} {ep:Nat} {t:SetTable} {Q:Bool->Shared->Prop} (hS:SetAt s.heap a es ep t)
  (h:Q (!w.params.followText "set-order"&&(!t.plain&&decide (es.size>1))) s):wpAny (model prog w) A (setDrawn a) Q E s:=by
 obtain ⟨o,ho,hc,hd,hf⟩:=hS
 unfold setDrawn setsByText
 refine Qb (Wi ho hd hf ?_)
 exact Qb (Qb (wpAny_askSetting (Za (Za h))))
theorem fW {a:Addr} {es:Array (Int×Value)} {ep:Nat} {t:SetTable} {Q:Value->Shared->Prop} (hS:SetAt s.heap a es ep t) (hn:(!w.params.followText "set-order"&&(!t.plain&&decide (es.size>1)))=false)
  (h:Q (.ref s.heap.objs.size) { s with heap:=s.heap.push { cls:= .type "set_iterator",data:= .fields #[.int 0 0, .int 0 0, .ref a, .int es.size 0, .int ep 0] } }):wpAny (model prog w) A (pyIter (.ref a)) Q E s:=by
 obtain ⟨o,ho,hc,hd,hf⟩:=id hS
 refine wpAny_pyIter_slot hS.typeIs F.slot_set_iter (Yy F.slot_set_iter hS.typeIs jV ?_ (F.args_set_iter_1 _))
 unfold Builtin.«frozenset.__iter__» Builtin.Frozenset.slot0 slotArgs
 simp only [List.isEmpty_nil,Yl,Ze,↓reduceIte,bind_assoc,List.length_nil,Xk]
 unfold Builtin.Frozenset.addrOf Builtin.Frozenset.sizeOf
 refine Qb (Za ?_)
 try dsimp only
 refine Qb (Za ?_)
 refine Qb (Qb (wpAny_setEntries_of ho hd hf (Za ?_)))
 refine Qb (jc hS ?_)
 rw [hn]
 simp only [Ze,↓reduceIte]
 refine Qb (Za ?_)
 refine Qb (wpAny_setEpoch_of ho hd hf ?_)
 refine Qb (Xc (Za ⟨_,rfl,"set_iterator",_,⟨_,Zm _ rfl,rfl⟩,slot_next.lookup,?_⟩))
 simpa [rawInt] using h
theorem rQ {a:Addr} {es:Array (Int×Value)} {ep:Nat} {t:SetTable} {Q:Value->Shared->Prop} (hS:SetAt s.heap a es ep t) (hn:(!w.params.followText "set-order"&&(!t.plain&&decide (es.size>1)))=true) (hz:es.size<=sizeLine)
  (h: ∀ (ys:List Nat) d,ys.Perm (List.range es.size)->Q (.ref (s.heap.objs.size+1)) { s with heap:=(s.heap.push { cls:= .type "tuple",data:= .seq (ys.map fun i:Nat=>Value.int i 0).toArray }).push { cls:= .type "set_iterator",data:= .fields #[.ref s.heap.objs.size, .int 0 0, .ref a, .int es.size 0, .int ep 0] },drawn:=d }):
  wpAny (model prog w) A (pyIter (.ref a)) Q E s:=by
 obtain ⟨o,ho,hc,hd,hf⟩:=id hS
 refine wpAny_pyIter_slot hS.typeIs F.slot_set_iter (Yy F.slot_set_iter hS.typeIs jV ?_ (F.args_set_iter_1 _))
 unfold Builtin.«frozenset.__iter__» Builtin.Frozenset.slot0 slotArgs
 simp only [List.isEmpty_nil,Yl,Ze,↓reduceIte,bind_assoc,List.length_nil,Xk]
 unfold Builtin.Frozenset.addrOf Builtin.Frozenset.sizeOf
 refine Qb (Za ?_)
 try dsimp only
 refine Qb (Za ?_)
 refine Qb (Qb (wpAny_setEntries_of ho hd hf (Za ?_)))
 refine Qb (jc hS ?_)
 rw [hn]
 simp only [↓reduceIte]
 refine Qb (z8 (Ys) fun ys d p=> ?_)
 refine Qb (wpAny_newTuple ?_ (by rw [Qr,p.length_eq,Ys];exact hz))
 refine Qb (wpAny_setEpoch_of (Zb _ ho) hd hf ?_)
 refine Qb (Xc (Za ⟨_,rfl,"set_iterator",_,⟨_,Zm _ rfl,rfl⟩,slot_next.lookup,?_⟩))
 have:=h ys d p
 rw [<- size_push' (h:=s.heap) (o:={ cls:= .type "tuple",data:= .seq (ys.map fun i:Nat=>Value.int i 0).toArray })] at this
 exact this
theorem m8 {a:Addr} {es:Array (Int×Value)} {ep slot given:Nat} {t:SetTable} {Q:Option (Value×Nat)->Shared->Prop} (hS:SetAt s.heap a es ep t) (hb:w.params.followText "set-order"=true)
  (h:Q (((pickOrder (w.params.setOrder a ep) es)[given]?).map fun e=>(e.2,slot)) s):wpAny (model prog w) A (setNext a slot given ep) Q E s:=by
 obtain ⟨o,ho,hc,hd,hf⟩:=hS
 unfold setNext setsByText
 refine Qb (Wi ho hd hf ?_)
 refine Qb (Qb (wpAny_askSetting (Za ?_)))
 show wpAny _ _ (if w.params.followText "set-order"=true then _ else _) _ _ _
 rw [if_pos hb]
 simp only [Xk,Ze,↓reduceIte]
 refine Qb ?_
 unfold setWalk setsByText
 refine Qb (Wi ho hd hf ?_)
 refine Qb (Qb (wpAny_askSetting (Za ?_)))
 show wpAny _ _ (if w.params.followText "set-order"=true then _ else _) _ _ _
 rw [if_pos hb]
 exact Qb (wpAny_askSetting (Za (Za h)))
theorem fX {a:Addr} {es:Array (Int×Value)} {ep slot given:Nat} {t:SetTable} {Q:Option (Value×Nat)->Shared->Prop} (hS:SetAt s.heap a es ep t) (hb:w.params.followText "set-order"=false)
  (hn:(!t.plain&&decide (es.size>1))=false) (hl:(!t.led&& !es.isEmpty)=false)
  (h:Q (match es[SetTable.below t.place slot]?,t.place[SetTable.below t.place slot]? with | some (_,x),some j=>some (x,j+1) | _,_=>none) s):wpAny (model prog w) A (setNext a slot given ep) Q E s:=by
 obtain ⟨o,ho,hc,hd,hf⟩:=hS
 unfold setNext setsByText
 refine Qb (Wi ho hd hf ?_)
 refine Qb (Qb (wpAny_askSetting (Za ?_)))
 show wpAny _ _ (if w.params.followText "set-order"=true then _ else _) _ _ _
 rw [if_neg (by rw [hb];exact Zl)]
 show wpAny _ _ (if (!t.plain&&decide (es.size>1))=true then _ else _) _ _ _
 rw [if_neg (by rw [hn];exact Zl)]
 show wpAny _ _ ((if (!t.led&& !es.isEmpty)=true then unsupported "set:maker-not-led" else pure ()) >>= _) _ _ _
 rw [if_neg (by rw [hl];exact Zl)]
 exact Qb (Za (Za h))
theorem rR {a:Addr} {es:Array (Int×Value)} {ep place:Nat} {t:SetTable} {x:Int×Value} {Q:Value->Shared->Prop} (hS:SetAt s.heap a es ep t) (hx:es[place]? =some x)
  (h:Q x.2 s):wpAny (model prog w) A (setNextDrawn a place ep) Q E s:=by
 obtain ⟨o,ho,hc,hd,hf⟩:=hS
 unfold setNextDrawn
 refine Qb (Wi ho hd hf ?_)
 simp only [Xk,Ze,↓reduceIte]
 rw [hx]
 exact Za h
theorem jW {I a:Addr} {es:Array (Int×Value)} {k i ep nx:Nat} {t:SetTable} {x:Value} {Q:Option Value->Shared->Prop} (hit:ItAt s.heap I (.int k 0) i a es.size ep) (hS:SetAt s.heap a es ep t)
  (hx: ∀ (A:Around) (E:Value->Shared->Prop) (Q:Option (Value×Nat)->Shared->Prop),Q (some (x,nx)) s->wpAny (model prog w) A (setNext a k i ep) Q E s)
  (hQ: ∀h',ItAt h' I (.int nx 0) (i+1) a es.size ep->Heap.SameBut I s.heap h'->Q (some x) { s with heap:=h' }):wpAny (model prog w) A (pyNext (.ref I)) Q E s:=by
 obtain ⟨o,ho,hc,hd⟩:=id hit
 obtain ⟨oS,hoS,hcS,hdS,hfS⟩:=id hS
 unfold pyNext
 refine Qb (wpAny_attempt (wpAny_callSpecial?_slot (name:=Str.ofString "__next__") hit.typeIs slot_next
  (Yy slot_next hit.typeIs entry_next ?_ (args_next _))))
 unfold Builtin.«set_iterator.__next__» slotArgs
 simp only [List.isEmpty_nil,Yl,Ze,↓reduceIte,bind_assoc,List.length_nil,Xk]
 refine Qb (Za ?_)
 refine Qb (wpAny_fieldsOf ho hd ?_)
 dsimp only
 refine Qb (wpAny_setEntries_of hoS hdS hfS ?_)
 simp only [Xk,Ze,↓reduceIte,Yb]
 refine Qb (hx _ _ _ ?_)
 dsimp only
 refine Qb (wpAny_setField ho hd (by simp) ?_)
 have ho2:=Xx (Obj.mapFields (·.setIfInBounds 0 (rawInt (nx:Int)))) ho (Obj.isFreed_of_fields (Xl hd _))
 refine Qb (wpAny_setField ho2 (Xl hd _) (by simp) ?_)
 refine Za ⟨_,rfl,Za (hQ _ ⟨_,Xx _ ho2 (Obj.isFreed_of_fields (Xl (Xl hd _) _)),(Obj.cls_mapFields ..).trans ((Obj.cls_mapFields ..).trans hc),?_⟩ ((Xo ..).trans (Xo ..)))⟩
 rw [Xl (Xl hd _)]
 simp [rawInt]
theorem end_int {I a:Addr} {es:Array (Int×Value)} {k i ep:Nat} {t:SetTable} {Q:Option Value->Shared->Prop} (hh:A.handled=none) (hit:ItAt s.heap I (.int k 0) i a es.size ep) (hS:SetAt s.heap a es ep t)
  (hx: ∀ (A:Around) (E:Value->Shared->Prop) (Q:Option (Value×Nat)->Shared->Prop),Q none s->wpAny (model prog w) A (setNext a k i ep) Q E s)
  (hQ: ∀h',Heap.ExtBut I s.heap h'->Q none { s with heap:=h' }):wpAny (model prog w) A (pyNext (.ref I)) Q E s:=by
 obtain ⟨o,ho,hc,hd⟩:=id hit
 obtain ⟨oS,hoS,hcS,hdS,hfS⟩:=id hS
 unfold pyNext
 refine Qb (wpAny_attempt (wpAny_callSpecial?_slot (name:=Str.ofString "__next__") hit.typeIs slot_next
  (Yy slot_next hit.typeIs entry_next ?_ (args_next _))))
 unfold Builtin.«set_iterator.__next__» slotArgs
 simp only [List.isEmpty_nil,Yl,Ze,↓reduceIte,bind_assoc,List.length_nil,Xk]
 refine Qb (Za ?_)
 refine Qb (wpAny_fieldsOf ho hd ?_)
 dsimp only
 refine Qb (wpAny_setEntries_of hoS hdS hfS ?_)
 simp only [Xk,Ze,↓reduceIte,Yb]
 refine Qb (hx _ _ _ ?_)
 dsimp only
 refine Qb (wpAny_setField ho hd (by simp) ?_)
 show wpAny _ _ (newExc (.type "StopIteration") [] >>= _) _ _ _
 refine Qb ?_
 simp only [newExc,newTuple]
 refine Qb (Xc ?_ (by size_fits))
 refine Qb (m:=firstArgMember _ _) (wpAny_of_eq (a:=Value.none) (by first | rfl | (simp only [firstArgMember];rfl)) ?_)
 refine Xc ?_ (by size_fits)
 simp only [raiseNew]
 refine Qb (wpAny_handled ?_)
 rw [show A.in1.handled=none from hh]
 refine Qb (Za (wpAny_throw ?_))
 refine Qb (Xm (T:="StopIteration") (b:=true) ⟨_,Zm _ rfl,rfl⟩ isSubtype_stop ?_)
 exact Za (hQ _ (((Xo ..).extBut.push _).push _))
theorem z9 {I a T:Addr} {es:Array (Int×Value)} {ys:List Nat} {i j ep:Nat} {t:SetTable} {x:Int×Value} {Q:Option Value->Shared->Prop} (hit:ItAt s.heap I (.ref T) i a es.size ep) (hS:SetAt s.heap a es ep t)
  (hT:s.heap.IsTuple T (ys.map fun i:Nat=>Value.int i 0).toArray) (hj:ys[i]? =some j) (hx:es[j]? =some x)
  (hQ: ∀h',ItAt h' I (.ref T) (i+1) a es.size ep->Heap.SameBut I s.heap h'->Q (some x.2) { s with heap:=h' }):wpAny (model prog w) A (pyNext (.ref I)) Q E s:=by
 obtain ⟨o,ho,hc,hd⟩:=id hit
 obtain ⟨oS,hoS,hcS,hdS,hfS⟩:=id hS
 unfold pyNext
 refine Qb (wpAny_attempt (wpAny_callSpecial?_slot (name:=Str.ofString "__next__") hit.typeIs slot_next
  (Yy slot_next hit.typeIs entry_next ?_ (args_next _))))
 unfold Builtin.«set_iterator.__next__» slotArgs
 simp only [List.isEmpty_nil,Yl,Ze,↓reduceIte,bind_assoc,List.length_nil,Xk]
 refine Qb (Za ?_)
 refine Qb (wpAny_fieldsOf ho hd ?_)
 dsimp only
 refine Qb (wpAny_setEntries_of hoS hdS hfS ?_)
 simp only [Xk,Ze,↓reduceIte,Yb]
 obtain ⟨oT,hoT,hcT,nT,hdT⟩:=hT
 refine Qb (Xu hoT hdT ?_)
 dsimp only
 rw [show (ys.map fun i:Nat=>Value.int i 0).toArray[i]? =some (.int j 0) by rw [Xt,Zd,hj];rfl]
 dsimp only
 rw [Yb]
 refine Qb (rR hS hx ?_)
 refine Qb (wpAny_setField ho hd (by simp) ?_)
 refine Za ⟨_,rfl,Za (hQ _ ⟨_,Xx _ ho (Obj.isFreed_of_fields (Xl hd _)),(Obj.cls_mapFields ..).trans hc,?_⟩ (Xo ..))⟩
 rw [Xl hd]
 simp [rawInt]
theorem Fi {I a T:Addr} {es:Array (Int×Value)} {ys:List Nat} {i ep:Nat} {t:SetTable} {Q:Option Value->Shared->Prop} (hh:A.handled=none) (hit:ItAt s.heap I (.ref T) i a es.size ep) (hS:SetAt s.heap a es ep t)
  (hT:s.heap.IsTuple T (ys.map fun i:Nat=>Value.int i 0).toArray) (hj:ys[i]? =none)
  (hQ: ∀h',Heap.ExtBut I s.heap h'->Q none { s with heap:=h' }):wpAny (model prog w) A (pyNext (.ref I)) Q E s:=by
 obtain ⟨o,ho,hc,hd⟩:=id hit
 obtain ⟨oS,hoS,hcS,hdS,hfS⟩:=id hS
 unfold pyNext
 refine Qb (wpAny_attempt (wpAny_callSpecial?_slot (name:=Str.ofString "__next__") hit.typeIs slot_next
  (Yy slot_next hit.typeIs entry_next ?_ (args_next _))))
 unfold Builtin.«set_iterator.__next__» slotArgs
 simp only [List.isEmpty_nil,Yl,Ze,↓reduceIte,bind_assoc,List.length_nil,Xk]
 refine Qb (Za ?_)
 refine Qb (wpAny_fieldsOf ho hd ?_)
 dsimp only
 refine Qb (wpAny_setEntries_of hoS hdS hfS ?_)
 simp only [Xk,Ze,↓reduceIte,Yb]
 obtain ⟨oT,hoT,hcT,nT,hdT⟩:=hT
 refine Qb (Xu hoT hdT ?_)
 dsimp only
 rw [show (ys.map fun i:Nat=>Value.int i 0).toArray[i]? =none by rw [Xt,Zd,hj];rfl]
 dsimp only
 refine Qb (wpAny_setField ho hd (by simp) ?_)
 have ho2:=Xx (Obj.mapFields (·.setIfInBounds 0 (rawInt 0))) ho (Obj.isFreed_of_fields (Xl hd _))
 refine Qb (wpAny_setField ho2 (Xl hd _) (by simp) ?_)
 show wpAny _ _ (newExc (.type "StopIteration") [] >>= _) _ _ _
 refine Qb ?_
 simp only [newExc,newTuple]
 refine Qb (Xc ?_ (by size_fits))
 refine Qb (m:=firstArgMember _ _) (wpAny_of_eq (a:=Value.none) (by first | rfl | (simp only [firstArgMember];rfl)) ?_)
 refine Xc ?_ (by size_fits)
 simp only [raiseNew]
 refine Qb (wpAny_handled ?_)
 rw [show A.in1.handled=none from hh]
 refine Qb (Za (wpAny_throw ?_))
 refine Qb (Xm (T:="StopIteration") (b:=true) ⟨_,Zm _ rfl,rfl⟩ isSubtype_stop ?_)
 exact Za (hQ _ ((((Xo ..).trans (Xo ..)).extBut.push _).push _))
theorem entry_self:entryFor table "set_iterator.__iter__"=some Builtin.«dict_keyiterator.__iter__»:=entryFor_alias (id':="dict_keyiterator.__iter__") (by kernel_rfl) rfl (by decide+kernel) (by kernel_rfl)
theorem args_self (a:Value):argsOk "set_iterator.__iter__" ⟨[a],[]⟩:=by
 unfold argsOk;rw [signature?_of (id:="set_iterator.__iter__") (n:=['_','_','r','e','t','i','_','_']) (o:=['r','o','t','a','r','e','t','i','_','t','e','s']) (by kernel_rfl) pU];kernel_rfl
theorem iy {I a:Addr} {f0:Value} {i n ep:Nat} {Q:Value->Shared->Prop} (hit:ItAt s.heap I f0 i a n ep) (h:Q (.ref I) s):wpAny (model prog w) A (pyIter (.ref I)) Q E s:=by
 refine wpAny_pyIter_slot hit.typeIs slot_self (Yy slot_self hit.typeIs entry_self ?_ (args_self _))
 show wpAny _ _ (ret (.ref I)) _ _ s
 exact Za ⟨_,rfl,"set_iterator",_,hit.typeIs,slot_next.lookup,h⟩
theorem SetAt.at' {h h':Heap} {a:Addr} {es:Array (Int×Value)} {ep:Nat} {t:SetTable} (x:SetAt h a es ep t) (e: ∀o,h.get? a=some o->h'.get? a=some o):SetAt h' a es ep t:=let ⟨o,ho,r⟩:=x;⟨o,e _ ho,r⟩
theorem ItAt.at' {h h':Heap} {I a:Addr} {f0:Value} {i n ep:Nat} (x:ItAt h I f0 i a n ep) (e: ∀o,h.get? I=some o->h'.get? I=some o):ItAt h' I f0 i a n ep:=let ⟨o,ho,r⟩:=x;⟨o,e _ ho,r⟩
theorem IsTuple.at' {h h':Heap} {a:Addr} {vs:Array Value} (x:h.IsTuple a vs) (e: ∀o,h.get? a=some o->h'.get? a=some o):h'.IsTuple a vs:=let ⟨o,ho,r⟩:=x;⟨o,e _ ho,r⟩
theorem jX (hh:A.handled=none) {I a:Addr} (hne:a≠I) {es:Array (Int×Value)} {ep:Nat} {t:SetTable} (hb:w.params.followText "set-order"=true):
  Walks prog w A I [I,a] [I] es.size (fun i v=> ∃h,(pickOrder (w.params.setOrder a ep) es)[i]? =some (h,v)) (fun i h=>ItAt h I (.int 0 0) i a es.size ep/\SetAt h a es ep t) where
 sub:=fun b hb=>by simp at hb;simp [hb]
 frame:=fun _ _ _ st hk=>⟨st.1.at' fun o e=>hk I (by simp) o e,st.2.at' fun o e=>hk a (by simp) o e⟩
 item:=fun i s Q E hi st hQ=>by
  have hz:(pickOrder (w.params.setOrder a ep) es).size=es.size:=by rw [<- Yd,(gF _ _).length_eq,Yd]
  have hi':i<(pickOrder (w.params.setOrder a ep) es).size:=by rw [hz];exact hi
  refine jW (k:=0) (nx:=0) (x:=(pickOrder (w.params.setOrder a ep) es)[i].2) st.1 st.2 (fun A E Q q=>m8 st.2 hb ?_) fun h' hit' hs'=> ?_
  ·rw [Zi hi'];exact q
  ·exact hQ _ h' s.toks ⟨_,Zi hi'⟩ ⟨hit',st.2.at' fun o e=>hs'.extBut a o hne e⟩ fun b o hb e=>hs'.extBut b o (fun h=>hb (by simp [h])) e
 done:=fun s Q E st hQ=>by
  have hz:(pickOrder (w.params.setOrder a ep) es).size=es.size:=by rw [<- Yd,(gF _ _).length_eq,Yd]
  refine end_int (k:=0) hh st.1 st.2 (fun A E Q q=>m8 st.2 hb ?_) fun h' he'=>hQ h' s.toks fun b o hb e=>he' b o (fun h=>hb (by simp [h])) e
  rw [Xv (by rw [hz];exact Zh _)];exact q
 self:=fun _ _ _ _ st hQ=>iy st.1 hQ
theorem pW (hh:A.handled=none) {I a T:Addr} (hne:a≠I) (hT:T≠I) {es:Array (Int×Value)} {ys:List Nat} {ep:Nat} {t:SetTable} (hp:ys.Perm (List.range es.size)):
  Walks prog w A I [I,a,T] [I] es.size (fun i v=> ∃ (j:Nat) (h:Int),ys[i]? =some j/\es[j]? =some (h,v)) (fun i h=>ItAt h I (.ref T) i a es.size ep/\SetAt h a es ep t/\h.IsTuple T (ys.map fun i:Nat=>Value.int i 0).toArray) where
 sub:=fun b hb=>by simp at hb;simp [hb]
 frame:=fun _ _ _ st hk=>⟨st.1.at' fun o e=>hk I (by simp) o e,st.2.1.at' fun o e=>hk a (by simp) o e,IsTuple.at' st.2.2 fun o e=>hk T (by simp) o e⟩
 item:=fun i s Q E hi st hQ=>by
  have hl:ys.length=es.size:=by rw [hp.length_eq,Ys]
  have hj:ys[i]? =some (ys[i]'(by rw [hl];exact hi)):=Zc _
  have hj2:ys[i]'(by rw [hl];exact hi)<es.size:=Xe.mp (hp.mem_iff.mp (Xh _))
  refine z9 st.1 st.2.1 st.2.2 hj (Zi hj2) fun h' hit' hs'=> ?_
  exact hQ _ h' s.toks ⟨_,_,hj,Zi hj2⟩ ⟨hit',st.2.1.at' fun o e=>hs'.extBut a o hne e,IsTuple.at' st.2.2 fun o e=>hs'.extBut T o hT e⟩ fun b o hb e=>hs'.extBut b o (fun h=>hb (by simp [h])) e
 done:=fun s Q E st hQ=>Fi hh st.1 st.2.1 st.2.2 (Xi (by rw [hp.length_eq,Ys];exact Zh _)) fun h' he'=>hQ h' s.toks fun b o hb e=>he' b o (fun h=>hb (by simp [h])) e
 self:=fun _ _ _ _ st hQ=>iy st.1 hQ
theorem K5 (xs:Array Nat) (h:xs.size<=1):SetTable.below xs 0=0:=by
 obtain ⟨l⟩:=xs
 match l,h with
 | [],_=>rfl
 | [j],_=>simp [SetTable.below,SetTable.below.go]
theorem K6 (j:Nat):SetTable.below #[j] (j+1)=1:=by simp [SetTable.below,SetTable.below.go]
theorem rT (hh:A.handled=none) {I a:Addr} (hne:a≠I) {ep:Nat} {t:SetTable} (hb:w.params.followText "set-order"=false):
  Walks prog w A I [I,a] [I] 0 (fun _ _=>False) (fun i h=>ItAt h I (.int 0 0) i a (#[]:Array (Int×Value)).size ep/\SetAt h a #[] ep t) where
 sub:=fun b hb=>by simp at hb;simp [hb]
 frame:=fun _ _ _ st hk=>⟨st.1.at' fun o e=>hk I (by simp) o e,st.2.at' fun o e=>hk a (by simp) o e⟩
 item:=fun i s Q E hi st hQ=>absurd hi (Nat.not_lt_zero _)
 done:=fun s Q E st hQ=>by
  refine end_int (k:=0) hh st.1 st.2 (fun A E Q q=>fX st.2 hb (by simp) (by simp) ?_) fun h' he'=>hQ h' s.toks fun b o hb e=>he' b o (fun h=>hb (by simp [h])) e
  rw [show ∀i:Nat,(#[]:Array (Int×Value))[i]? =none from fun i=>Xv (Yp _)]
  exact q
 self:=fun _ _ _ _ st hQ=>iy st.1 hQ
theorem wg (hh:A.handled=none) {I a:Addr} (hne:a≠I) {x:Int×Value} {ep j:Nat} {t:SetTable} (hb:w.params.followText "set-order"=false) (hl:t.led=true) (hj:t.place= #[j]):
  Walks prog w A I [I,a] [I] 1 (fun _ v=>v=x.2) (fun i h=>ItAt h I (.int ((if i=0 then 0 else j+1:Nat):Int) 0) i a (#[x]:Array (Int×Value)).size ep/\SetAt h a #[x] ep t) where
 sub:=fun b hb=>by simp at hb;simp [hb]
 frame:=fun _ _ _ st hk=>⟨st.1.at' fun o e=>hk I (by simp) o e,st.2.at' fun o e=>hk a (by simp) o e⟩
 item:=fun i s Q E hi st hQ=>by
  obtain rfl:i=0:=Nat.lt_one_iff.mp hi
  refine jW (k:=0) (nx:=j+1) (x:=x.2) st.1 st.2 (fun A E Q q=>fX st.2 hb (by simp) (by simp [hl]) ?_) fun h' hit' hs'=> ?_
  ·rw [hj,K5 _ (Zh _)];exact q
  ·exact hQ _ h' s.toks rfl ⟨hit',st.2.at' fun o e=>hs'.extBut a o hne e⟩ fun b o hb e=>hs'.extBut b o (fun h=>hb (by simp [h])) e
 done:=fun s Q E st hQ=>by
  refine end_int (k:=j+1) hh st.1 st.2 (fun A E Q q=>fX st.2 hb (by simp) (by simp [hl]) ?_) fun h' he'=>hQ h' s.toks fun b o hb e=>he' b o (fun h=>hb (by simp [h])) e
  rw [hj,K6];exact q
 self:=fun _ _ _ _ st hQ=>iy st.1 hQ
structure Go (prog:Program) (w:World) (A:Around) (s:Shared) (a:Addr) (vs:List Value) (n:Nat) (I:Addr) (s1:Shared):Prop where
 ex: ∃ (fp:List Addr) (P:Nat->Value->Prop) (St:Nat->Heap->Prop),Walks prog w A I fp [I] n P St/\St 0 s1.heap/\(∀b∈fp,b=a\/s.heap.objs.size<=b)/\ ∀acc:Array Value,ItemsOf P acc n->acc.toList.Perm vs
 keep: ∀b o,s.heap.get? b=some o->s1.heap.get? b=some o
 fresh:s.heap.objs.size<=I
 rest: ∃d,s1={ s with heap:=s1.heap,drawn:=d }
theorem wj {α:Type} {l m:List α} (h:(l.map some).Perm (m.map some)):l.Perm m:=by
 have:=h.filterMap id
 simpa [List.filterMap_map] using this
theorem wk {es:Array (Int×Value)} {ys:List Nat} (hp:ys.Perm (List.range es.size)) {acc:Array Value} (h:ItemsOf (fun i v=> ∃ (j:Nat) (h:Int),ys[i]? =some j/\es[j]? =some (h,v)) acc es.size):acc.toList.Perm (es.toList.map (·.2)):=by
 have hl:ys.length=es.size:=by rw [hp.length_eq,Ys]
 apply wj
 have e1:acc.toList.map some=ys.map fun j=>es[j]?.map (·.2):=by
  apply List.ext_getElem?
  intro i
  rw [Zd,Zd]
  by_cases hi:i<es.size
  ·have hi':i<acc.size:=by rw [h.1];exact hi
   obtain ⟨j,hv,e1,e2⟩:=h.2 i acc[i] (Zi hi')
   rw [e1,Yr,Zi hi']
   simp [e2]
  ·rw [Yr,Xv (by rw [h.1];rfl'),Xi (by rfl')];rfl
 rw [e1]
 refine (hp.map _).trans (List.Perm.of_eq ?_)
 rw [Zy]
 apply List.ext_getElem
 ·rw [Qr,Qr,Ys,Yd]
 ·intro i h1 h2
  rw [Qr,Ys] at h1
  simp [h1]
theorem jY {es:Array (Int×Value)} {ps:Array (Int×Value)} (hp:ps.toList.Perm es.toList) {acc:Array Value} (h:ItemsOf (fun i v=> ∃h,ps[i]? =some (h,v)) acc es.size):acc.toList.Perm (es.toList.map (·.2)):=by
 have hz:ps.size=es.size:=by rw [<- Yd,hp.length_eq,Yd]
 refine List.Perm.trans (List.Perm.of_eq ?_) (hp.map _)
 apply List.ext_getElem?
 intro i
 rw [Zd,Yr,Yr]
 by_cases hi:i<es.size
 ·have hi':i<acc.size:=by rw [h.1];exact hi
  obtain ⟨hv,e⟩:=h.2 i acc[i] (Zi hi')
  rw [e,Zi hi'];rfl
 ·rw [Xv (by rw [h.1];rfl'),Xv (by rfl')];rfl
theorem zb {a:Addr} {es:Array (Int×Value)} {ep:Nat} {t:SetTable} (hh:A.handled=none) (hS:SetAt s.heap a es ep t) (hz:es.size<=sizeLine)
  (hl:w.params.followText "set-order"=false->t.led=true) (hp:1<=es.size->t.plain=false) {Q:Value->Shared->Prop} (h: ∀I s1,Go prog w A s a (es.toList.map (·.2)) es.size I s1->Q (.ref I) s1):wpAny (model prog w) A (pyIter (.ref a)) Q E s:=by
 have hlt:a<s.heap.objs.size:=let ⟨_,ho,_⟩:=hS;Zk ho
 cases hb:w.params.followText "set-order" with
 | true=>
  refine fW hS (by rw [hb];rfl) (h _ _ ⟨⟨_,_,_,jX (es:=es) (ep:=ep) (t:=t) hh (Yh hlt) hb,⟨⟨_,Zm _ rfl,rfl,rfl⟩,hS.at' fun o e=>Zb _ e⟩,?_,fun acc ha=>jY (gF _ _) ha⟩,fun b o e=>Zb _ e,Zh _,s.drawn,rfl⟩)
  intro b hb
  simp at hb
  rcases hb with rfl | rfl
  ·exact .inr (Zh _)
  ·exact .inl rfl
 | false=>
  by_cases h1:es.size>1
  ·have hdr:(!w.params.followText "set-order"&&(!t.plain&&decide (es.size>1)))=true:=by rw [hb,hp (by rfl'),Ym h1];rfl
   refine rQ hS hdr hz fun ys d p=>h _ _ ⟨⟨_,_,_,pW (T:=s.heap.objs.size) (es:=es) (ys:=ys) (ep:=ep) (t:=t) hh (Yh (Nat.lt_succ_of_lt hlt)) (Yh (Nat.lt_succ_self _)) p,⟨⟨{ cls:= .type "set_iterator",data:= .fields #[.ref s.heap.objs.size, .int 0 0, .ref a, .int es.size 0, .int ep 0] },?_,rfl,rfl⟩,hS.at' fun o e=>Zb _ (Zb _ e),?_⟩,?_,fun acc ha=>wk p ha⟩,fun b o e=>Zb _ (Zb _ e),Nat.le_succ _,d,rfl⟩
   ·have:=Zm (s.heap.push { cls:= .type "tuple",data:= .seq (ys.map fun i:Nat=>Value.int i 0).toArray }) (o:={ cls:= .type "set_iterator",data:= .fields #[.ref s.heap.objs.size, .int 0 0, .ref a, .int es.size 0, .int ep 0] }) rfl
    rw [size_push'] at this
    exact this
   ·exact ⟨_,Zb _ (Zm _ rfl),rfl,_,rfl⟩
   ·intro b hb
    simp at hb
    rcases hb with rfl | rfl | rfl
    ·exact .inr (Nat.le_succ _)
    ·exact .inl rfl
    ·exact .inr (Zh _)
  ·have hdr:(!w.params.followText "set-order"&&(!t.plain&&decide (es.size>1)))=false:=by rw [Zp h1];simp
   have fp: ∀b∈[s.heap.objs.size,a],b=a\/s.heap.objs.size<=b:=by
    intro b hb
    simp at hb
    rcases hb with rfl | rfl
    ·exact .inr (Zh _)
    ·exact .inl rfl
   obtain ⟨l⟩:=es
   cases l with
   | nil=>
    refine fW hS hdr (h _ _ ⟨⟨_,_,_,rT (ep:=ep) (t:=t) hh (Yh hlt) hb,⟨⟨_,Zm _ rfl,rfl,rfl⟩,hS.at' fun o e=>Zb _ e⟩,fp,fun acc ha=> ?_⟩,fun b o e=>Zb _ e,Zh _,s.drawn,rfl⟩)
    have:=ha.1
    rw [Array.size_eq_zero_iff.mp this]
    exact List.Perm.refl _
   | cons x l=>
    cases l with
    | cons y l=>simp at h1
    | nil=>
     obtain ⟨o,ho,hc,hd,hf⟩:=id hS
     have hpl:t.place.size=1:=by
      simp only [SetTable.fits,Bool.and_eq_true,beq_iff_eq] at hf;exact hf.1
     obtain ⟨j,hj⟩: ∃j,t.place= #[j]:=Array.size_eq_one_iff.mp hpl
     refine fW hS hdr (h _ _ ⟨⟨_,_,_,wg (x:=x) (ep:=ep) (t:=t) (j:=j) hh (Yh hlt) hb (hl hb) hj,⟨⟨_,Zm _ rfl,rfl,rfl⟩,hS.at' fun o e=>Zb _ e⟩,fp,fun acc ha=> ?_⟩,fun b o e=>Zb _ e,Zh _,s.drawn,rfl⟩)
     obtain ⟨v,rfl⟩: ∃v,acc= #[v]:=Array.size_eq_one_iff.mp ha.1
     rw [ha.2 0 v rfl]
     exact List.Perm.refl _
noncomputable def oV (prog:Program) (w:World) (a:Addr) (es:Array (Int×Value)) (ep:Nat) (t:SetTable):Prop:= ∀ {A:Around} {E:Value->Shared->Prop} {s:Shared} {Q:Value->Shared->Prop},A.handled=none->SetAt s.heap a es ep t->(∀I s1,Go prog w A s a (es.toList.map (·.2)) es.size I s1->Q (.ref I) s1)->wpAny (model prog w) A (pyIter (.ref a)) Q E s
theorem zc {r:Addr} {Q:Bool->Shared->Prop} (hT:s.TypeIs (.ref r) "set") (h:Q false s):wpAny (model prog w) A (Builtin.List.listLengthHint (.ref r)) Q E s:=by
 unfold Builtin.List.listLengthHint
 refine Qb (Wn hT Ff ?_)
 generalize hid:("set.__len__":String)=id0
 wp_delta
 rw [show splitId id0=some ("set","__len__") from by subst hid;decide+kernel]
 subst hid
 refine Qb (Xm (T:="set") (b:=true) hT (by rw [isSubtype_type];kernel_rfl) ?_)
 refine wpAny_ite_split (fun hab=>absurd hab (by decide)) (fun _=> ?_)
 refine wpAny_ite_split (fun _=> ?_) (fun hab=>absurd (by decide+kernel) hab)
 refine Qb (wpAny_typeOf hT ?_)
 exact Za h
theorem rY {R:Result->Shared->Prop} {a:Addr} {es:Array (Int×Value)} {ep:Nat} {t:SetTable} (hh:A.handled=none) (hA:SetAt s.heap a es ep t) (hz:es.size<=sizeLine) (hi:oV prog w a es ep t) (S:Addr) (hSa:S≠a) (res:Value) (c₀:Nat) (hS:s.heap.get? S=some { cls:= .type "list",data:= .seq #[] c₀ })
  (hR: ∀h' tk d acc' c',(∀b o,b≠S->s.heap.get? b=some o->h'.get? b=some o)->h'.get? S=some { cls:= .type "list",dict:=none,data:= .seq acc' c',slots:= #[] }->acc'.toList.Perm (es.toList.map (·.2))->R (.ok (.ret res)) { s with heap:=h',toks:=tk,drawn:=d }):
  wpAny (model prog w) A.in1 (Builtin.List.listExtendWith (.ref S) (.ref a) res)
   (fun fin s'=>match fin with | .done f=>R (.ok f) s' | .again c'=>c'.quiet=true/\codeAny (model prog w) A c' R s') (fun e s'=>R (.error e) s') s:=by
 unfold Builtin.List.listExtendWith
 refine Qb (wpAny_typeOf (T:="set") hA.typeIs ?_)
 have h1:Builtin.List.listSameRef (.ref S) (.ref a)=false:=by simp [Builtin.List.listSameRef,hSa]
 simp only [h1,show (Value.type "set"==Value.type "list")=false by decide,show (Value.type "set"==Value.type "tuple")=false by decide,Bool.or_false,Ze,Xg]
 refine Qb (hi (A:=A.in1) hh hA fun I s1 G=> ?_)
 obtain ⟨fp,P,St,W,st,hfp,hacc⟩:=G.ex
 obtain ⟨d,e1⟩:=G.rest
 have hlS:S<s.heap.objs.size:=Zk hS
 have hSI:S≠I:=Yh (Zz hlS G.fresh)
 have hSf:S∉fp:=fun hm=>by
  rcases hfp S hm with e | e
  ·exact hSa e
  ·exact absurd hlS (Nat.not_lt.mpr e)
 have key: ∀ (h:Heap) (c₁ tk:Nat),St 0 h->(∀b o,b≠S->s.heap.get? b=some o->h.get? b=some o)->
   h.get? S=some { cls:= .type "list",data:= .seq #[] c₁ }->codeAny (model prog w) A (.builtin "list.extend.loop" ⟨[.ref S, .ref I,res],[]⟩) R { s1 with heap:=h,toks:=tk }:=by
  intro h c₁ tk hst hk hS₁
  refine codeAny_extend_loopS W.toS hz S hSf res es.size 0 _ #[] c₁ rfl (Yp _) hst hS₁ (ItemsOf.nil _) fun s' acc' c' hm hS' hac=> ?_
  rw [Moved.eq_with hm]
  rw [e1]
  refine hR s'.heap s'.toks d acc' c' (fun b o hb e=>hm.heap b o (fun hmem=> ?_) (hk b o hb e)) hS' (hacc _ hac)
  rcases Zu.mp hmem with e' | hmem
  ·exact hb e'
  ·exact absurd (Zk e) (by rw [Zf.mp hmem];exact Nat.not_lt.mpr G.fresh)
 have hS₁:=G.keep _ _ hS
 refine Qb (Xp (zc ⟨_,G.keep _ _ (Classical.choose_spec hA.typeIs).1,(Classical.choose_spec hA.typeIs).2⟩ ?_))
 refine wpAny_ite_split (fun _=> ?_) (fun _=>Za ⟨plainId_quiet PySem.F.plain_extend_loop _,key _ c₀ _ st (fun b o _ e=>G.keep _ _ e) hS₁⟩)
 refine Qb (Wb ?_)
 refine Qb ?_
 show wpAny _ _ (updateSeq S (·.push .none) >>= fun _=>updateSeq S (·.pop)) _ _ _
 refine Qb (wpAny_updateSeq hS₁ rfl ?_)
 have hS₂:=Xx (Obj.mapSeq (·.push Value.none)) hS₁ rfl
 refine wpAny_updateSeq (hz:=by seq_fits) hS₂ rfl ?_
 have hS₃:=Xx (Obj.mapSeq (·.pop)) hS₂ rfl
 refine Za ⟨plainId_quiet PySem.F.plain_extend_loop _,key _ _ _ ?_ (fun b o hb e=> ?_) hS₃⟩
 ·refine W.frame 0 _ _ st fun b hb o e=> ?_
  have hbS:b≠S:=fun h=>hSf (h▸hb)
  exact (Heap.get?_update_other _ _ (Ne.symm hbS)).trans ((Heap.get?_update_other _ _ (Ne.symm hbS)).trans e)
 ·exact (Heap.get?_update_other _ _ (Ne.symm hb)).trans ((Heap.get?_update_other _ _ (Ne.symm hb)).trans (G.keep _ _ e))
theorem pX {a:Addr} {es:Array (Int×Value)} {ep:Nat} {t:SetTable} {R:List Value->Shared->Prop} (hh:A.handled=none) (hA:SetAt s.heap a es ep t) (hz:es.size<=sizeLine) (hi:oV prog w a es ep t)
  (h: ∀ (h':Heap) (tk:Nat) (d:Drawn) (vs:List Value),(∀b o,s.heap.get? b=some o->h'.get? b=some o)->s.heap.objs.size<=h'.objs.size->vs.Perm (es.toList.map (·.2))->R vs { s with heap:=h',toks:=tk,drawn:=d }):
  wpAny (model prog w) A (collect (.ref a)) R E s:=by
 have hd:a<s.heap.objs.size:=let ⟨_,ho,_⟩:=hA;Zk ho
 unfold collect
 refine Qb (wpAny_runValue (Wo entry_proto_collect' ?_))
 rw [Xw PySem.F.plain_proto_collect _]
 show wpAny _ A.in1 (newList [] >>= fun l=>again (.builtin "list.__iadd__" ⟨[l, .ref a],[]⟩)) _ _ s
 refine Qb (Xc ?_)
 refine Za ⟨plainId_quiet PySem.F.plain_list_iadd _,Wo entry_list_iadd' ?_⟩
 rw [Xw PySem.F.plain_list_iadd _]
 have hS₁:(s.heap.push { cls:= .type "list",data:= .seq ([]:List Value).toArray }).get? s.heap.objs.size=some { cls:= .type "list",data:= .seq #[] }:=Zm _ rfl
 show wpAny _ A.in1 (Builtin.List.listExtendWith (.ref s.heap.objs.size) (.ref a) (.ref s.heap.objs.size)) _ _ _
 have key:=rY (prog:=prog) (w:=w) (A:=A) (s:={ s with heap:=s.heap.push { cls:= .type "list",data:= .seq ([]:List Value).toArray } })
  (R:=fun (q:Result) (s':Shared)=> ∃ (h':Heap) (tk:Nat) (d:Drawn) (acc':Array Value) (c':Nat),q= .ok (.ret (.ref s.heap.objs.size))/\s'={ s with heap:=h',toks:=tk,drawn:=d }/\
   (∀b o,s.heap.get? b=some o->h'.get? b=some o)/\h'.get? s.heap.objs.size=some { cls:= .type "list",dict:=none,data:= .seq acc' c',slots:= #[] }/\acc'.toList.Perm (es.toList.map (·.2)))
  hh (hA.at' fun o e=>Zb _ e) hz hi s.heap.objs.size (Nat.ne_of_gt hd) (.ref s.heap.objs.size) 0 hS₁
  (fun h' tk d acc' c' hk hS' hacc=>⟨h',tk,d,acc',c',rfl,rfl,fun b o e=>hk b o (Yh (Zk e)) (Zb _ e),hS',hacc⟩)
 have fin: ∀ {h':Heap} {tk:Nat} {d:Drawn} {acc':Array Value} {c':Nat},(∀b o,s.heap.get? b=some o->h'.get? b=some o)->h'.get? s.heap.objs.size=some { cls:= .type "list",dict:=none,data:= .seq acc' c',slots:= #[] }->acc'.toList.Perm (es.toList.map (·.2))->R acc'.toList { s with heap:=h',toks:=tk,drawn:=d }:=by
  intro h' tk d acc' c' hk hS' hacc
  exact h h' tk d acc'.toList hk (Xq (Zk hS')) hacc
 refine Xz key (fun f s' x=> ?_) fun e s' x=> ?_
 ·cases f with
  | done f=>
   obtain ⟨h',tk,d,acc',c',e,rfl,hk,hS',hacc⟩:=x
   cases e
   show wpAny _ A (load s.heap.objs.size >>= _) _ _ _
   exact Qb (wpAny_load hS' (Za (fin hk hS' hacc)))
  | again c₁=>
   refine ⟨x.1,codeAny_mono x.2 fun q s₂ y=> ?_⟩
   obtain ⟨h',tk,d,acc',c',rfl,rfl,hk,hS',hacc⟩:=y
   show wpAny _ A (load s.heap.objs.size >>= _) _ _ _
   exact Qb (wpAny_load hS' (Za (fin hk hS' hacc)))
 ·obtain ⟨_,_,_,_,_,e',_⟩:=x
  cases e'
noncomputable def tx:Value->Str
 | .str x _=>x
 | _=>⟨#[]⟩
structure SetS (prog:Program) (w:World) (h:Heap) (a:Addr) (ls:List Str) (es:Array (Int×Value)) (ep:Nat) (t:SetTable):Prop where
 at_:SetAt h a es ep t
 el:ElemsOf (PySem.strKind prog w) es.toList
 pm:(es.toList.map fun e=>tx e.2).Perm ls
 nd:ls.Nodup
 sz:es.size<4096
 led:w.params.followText "set-order"=false->t.led=true
 pl:1<=es.size->t.plain=false
theorem pY {a:Addr} {h:Heap} {es es':Array (Int×Value)} {ep:Nat} {t t':SetTable} (hS:SetAt h a es ep t) (hf:t'.fits es'.size=true):SetAt (h.update a (Obj.putSet es' t')) a es' (ep+1) t':=by
 obtain ⟨o,ho,hc,hd,_⟩:=hS
 have:=Xx (Obj.putSet es' t') ho (by rw [putSet_of es' t' hd];rfl)
 rw [putSet_of es' t' hd] at this
 exact ⟨_,this,hc,rfl,hf⟩
theorem jZ:entryFor table "set.update.loop"=some Builtin.«set.update.loop»:=entryFor_of_tree (by kernel_rfl)
theorem gY:plainId "set.update.loop"=true:=by decide+kernel
theorem wu {v:Value} {Q₁:Value->Shared->Prop}
  (h:Q₁ (.ref s.heap.objs.size) { s with heap:=s.heap.push { cls:= .type "set",dict:=none,data:= .set #[] 0 (.fresh 0 0 (!w.params.followText "set-order")) } }):
  codeAny (model prog w) A (.call (.builtin "set.__new__") ⟨[.type "set",v],[]⟩) (wants Q₁ E) s:=by
 refine codeAny_of_tree ?_
 show wpAny _ A.in1 (do checkBuiltinCall "set.__new__" ⟨[.type "set",v],[]⟩;again (.builtin "set.__new__" ⟨[.type "set",v],[]⟩)) _ _ s
 refine Qb (wpAny_of_eq (Rt v) (Za ⟨plainId_quiet PySem.F.plain_set_new _,Wo PySem.F.entry_set_new ?_⟩))
 rw [Xw PySem.F.plain_set_new _]
 unfold Builtin.«set.__new__» Builtin.Frozenset.newClass
 have hsub:=sub_set_self
 obtain ⟨hp,g,d,tk,os⟩:=s
 dsimp only
 wp_walk
 refine wpAny_askSetting (Za ?_)
 dsimp only
 simp only [newObj]
 refine Qb (wpAny_alloc (Za ?_))
 exact Za h
theorem pZ {M:Model} {self v:Value} {Q:Unit->Shared->Prop} (hT:s.TypeIs self "set") (hQ:Q () s):
  wpAny M A (checkBuiltinCall "set.__init__" ⟨[self,v],[]⟩) Q E s:=by
 simp only [checkBuiltinCall,kind_set_init,split_set_init,sig_set_init]
 refine Qb (Xm hT sub_set_self ?_)
 simp only [Yl,Ze,Xg]
 unfold Bind.checkArgs
 dsimp only
 refine Qb (m:=Bind.printed "set" true _ _) (PyProof.Rows.printed_name (by decide) ?_)
 refine Qb (m:=Bind.printed "*" false _ _) (PyProof.Rows.printed_star (self:=self) rfl hT fun short=> ?_)
 have hrn:(Manifest.Receiver.self==Manifest.Receiver.none)=false:=by decide
 have hn:(if (Manifest.Receiver.self==Manifest.Receiver.none)=true then [self,v].length else [self,v].length-1)=1:=by simp [hrn]
 rw [hn]
 simp only [List.map_nil]
 have hc:Bind.check ⟨.positional,"set","*", .self,[⟨"iterable", .posOnly,false⟩]⟩ "set" short 1 []=pure ():=by
  simp [Bind.check,Bind.checkCount,Bind.isPositional]
  exact fun h=>absurd h (by decide)
 rw [hc]
 exact Za hQ
end
end St
namespace L2
open PySem PySem.Spec PyProof.Rows
theorem m9 {α:Type} [DecidableEq α]: ∀ {l m:List α},l.Nodup->(∀x∈l,x∈m)->l.length<=m.length
 | [],_,_,_=>Yp _
 | x::l,m,hn,h=>by
  have hx:=h x Zq
  have:=m9 (l:=l) (m:=m.erase x) (Xn.mp hn).2 fun y hy=>(List.mem_erase_of_ne (fun (e:y=x)=>(Xn.mp hn).1 (by rw [<- e];exact hy))).mpr (h y (Zs _ hy))
  rw [List.length_erase_of_mem hx] at this
  have:=List.length_pos_of_mem hx
  rw [Yv]
  rfl'
theorem Inv.drew {X:Cx} {pins:List (Addr×Obj)} {σ:List (Option V)} {H:Hp} {s:Shared} (I:Inv X pins σ H s) (d:Drawn):Inv X pins σ H { s with drawn:=d }:=
 ⟨I.ok,I.os,I.bare,I.base,I.loc,I.cell,I.free,I.freeC,I.pin,I.hok,I.len⟩
end L2
end
section
namespace Tb
open PySem
noncomputable def g5:Nat->Nat
 | 0=>0
 | n+1=>5*g5 n+1
theorem rZ (m:Nat): ∀n,g5 (n+m)=5^n*g5 m+g5 n
 | 0=>by simp [g5]
 | n+1=>by
  rw [Nat.succ_add]
  show 5*g5 (n+m)+1=_
  rw [rZ m n,Nat.pow_succ]
  show _=_+(5*g5 n+1)
  rw [Nat.mul_add,Nat.mul_comm (5^n) 5,Nat.mul_assoc];rfl'
theorem nO: ∀n,5^n=4*g5 n+1
 | 0=>rfl
 | n+1=>by
  rw [Nat.pow_succ,nO n]
  show _=4*(5*g5 n+1)+1
  rfl'
theorem K7 (m:Nat):g5 (m+m)=g5 m*(4*g5 m+2):=by
 rw [rZ,nO,Nat.add_mul,Nat.one_mul,Nat.mul_add (g5 m),Nat.mul_comm (4*g5 m)]
 rfl'
theorem zf: ∀n,g5 n%2=n%2
 | 0=>rfl
 | n+1=>by
  show (5*g5 n+1)%2=_
  have:=zf n
  rfl'
theorem nP {k a b:Nat} (hb:b%2=1) (h:2^k∣a*b):2^k∣a:=by
 have:Nat.Coprime (2^k) b:=Nat.Coprime.pow_left k (by
  rw [Nat.coprime_iff_gcd_eq_one,Nat.gcd_rec,hb];rfl)
 exact this.dvd_of_dvd_mul_right h
theorem zg: ∀k n,2^k∣g5 n->2^k∣n
 | 0,n,_=>by rw [Nat.pow_zero];exact Nat.one_dvd _
 | k+1,n,h=>by
  have e:g5 n%2=0:=Nat.mod_eq_zero_of_dvd (Nat.dvd_trans ⟨2^k,by rw [Nat.pow_succ,Nat.mul_comm]⟩ h)
  rw [zf] at e
  obtain ⟨m,rfl⟩: ∃m,n=m+m:=⟨n / 2,by rfl'⟩
  rw [K7,show g5 m*(4*g5 m+2)=(g5 m*(2*g5 m+1))*2 by rw [Nat.mul_assoc];congr 1;rfl',Nat.pow_succ] at h
  have h2:=Nat.dvd_of_mul_dvd_mul_right (by decide) h
  have:=zg k m (nP (by rfl') h2)
  obtain ⟨c,hc⟩:=this
  exact ⟨c,by rw [Nat.pow_succ,hc];rw [Nat.mul_assoc,Nat.mul_comm 2 c,<- Nat.mul_assoc,Nat.mul_two]⟩
noncomputable def f5 (M:Nat):Nat->Nat->Nat
 | 0,x=>x%M
 | n+1,x=>(5*f5 M n x+1)%M
theorem zj (M:Nat) (x:Nat): ∀n,f5 M n x=(5^n*x+g5 n)%M
 | 0=>by simp [f5,g5]
 | n+1=>by
  show (5*f5 M n x+1)%M=_
  rw [zj M x n,Nat.add_mod,Nat.mul_mod,Nat.mod_mod,<- Nat.mul_mod,<- Nat.add_mod]
  show _=(5^(n+1)*x+(5*g5 n+1))%M
  congr 1
  rw [Nat.mul_add,Nat.pow_succ,Nat.mul_comm (5^n) 5,Nat.mul_assoc];rfl'
theorem K8 {k x:Nat} {i j:Nat} (hij:i<j) (hj:j<2^k) (e:f5 (2^k) i x=f5 (2^k) j x):False:=by
 obtain ⟨d,rfl⟩: ∃d,j=i+(d+1):=⟨j-i-1,by rfl'⟩
 rw [zj,zj] at e
 have hM:0<2^k:=Nat.pow_pos (by decide)
 have e2:5^(i+(d+1))*x+g5 (i+(d+1))=(5^i*x+g5 i)+5^i*(g5 (d+1)*(4*x+1)):=by
  rw [rZ,Nat.pow_add,nO (d+1)]
  generalize 5^i=p
  generalize g5 (d+1)=q
  generalize g5 i=r
  rw [Nat.mul_add p,Nat.mul_one,Nat.add_mul,Nat.mul_add q,Nat.mul_one,Nat.mul_add p,show p*(4*q)*x=p*(q*(4*x)) by rw [Nat.mul_assoc,Nat.mul_comm 4 q,Nat.mul_assoc q,]]
  rfl'
 rw [e2] at e
 have h0:2^k∣5^i*(g5 (d+1)*(4*x+1)):=by
  have:=Nat.sub_mod_eq_zero_of_mod_eq e.symm
  rw [Nat.add_sub_cancel_left] at this
  exact Nat.dvd_of_mod_eq_zero this
 rw [Nat.mul_comm] at h0
 have h1:=nP (by rw [nO];rfl') h0
 have h2:=zg k _ (nP (by rfl') h1)
 have:=Nat.le_of_dvd (Nat.succ_pos d) h2
 rfl'
theorem jd {α:Type} [DecidableEq α]: ∀ {l m:List α},l.Nodup->(∀x∈l,x∈m)->l.length<=m.length
 | [],m,_,_=>Yp _
 | x::l,m,hn,hs=>by
  have hx:=hs x Zq
  obtain ⟨n1,n2⟩:=Xn.mp hn
  have:=jd (l:=l) (m:=m.erase x) n2 fun y my=>(List.mem_erase_of_ne (fun (e:y=x)=>n1 (by rw [<- e];exact my))).mpr (hs y (Zs _ my))
  rw [List.length_erase_of_mem hx] at this
  have:=List.length_pos_of_mem hx
  rw [Yv];rfl'
theorem K9 {k x y:Nat} (hy:y<2^k): ∃n,n<2^k/\f5 (2^k) n x=y:=by
 have hM:0<2^k:=Nat.pow_pos (by decide)
 by_cases c:y∈(List.range (2^k)).map fun n=>f5 (2^k) n x
 ·obtain ⟨n,mn,e⟩:=Zg.mp c
  exact ⟨n,Xe.mp mn,e⟩
 ·exfalso
  have lt: ∀n,f5 (2^k) n x<2^k:=fun n=>by cases n<;>exact Nat.mod_lt _ hM
  have:=jd (l:=y::(List.range (2^k)).map fun n=>f5 (2^k) n x) (m:=List.range (2^k)) (Xn.mpr ⟨c,List.pairwise_map.mpr (List.pairwise_lt_range.imp_of_mem fun {i j} _ mj h e=>K8 h (Xe.mp mj) e)⟩) fun z mz=>by
   rcases Zu.mp mz with rfl | mz
   ·exact Xe.mpr hy
   ·obtain ⟨n,_,rfl⟩:=Zg.mp mz
    exact Xe.mpr (lt n)
  rw [Yv,Qr,Ys] at this
  rfl'
noncomputable def ww (xs:Array Nat):Prop:= ∀i k,i<k->k<xs.size->xs.getD i 0<xs.getD k 0
theorem zm {xs:Array Nat} {i a b:Nat} (h:i<xs.size):xs.getD i a=xs.getD i b:=by
 rw [Yu,Yu,Zi h];rfl
theorem kj {xs:Array Nat} {j:Nat} (as:ww xs): ∀fuel lo hi,hi<=lo+fuel->lo<=hi->hi<=xs.size->(∀i,i<lo->xs.getD i 0<j)->(∀i,hi<=i->i<xs.size->j<=xs.getD i 0)->
  SetTable.below.go xs j fuel lo hi<=xs.size/\(∀i,i<SetTable.below.go xs j fuel lo hi->xs.getD i 0<j)/\ ∀i,SetTable.below.go xs j fuel lo hi<=i->i<xs.size->j<=xs.getD i 0
 | 0,lo,hi,h1,h2,h3,h4,h5=>by
  have e:hi=lo:=by rfl'
  subst e
  exact ⟨h3,h4,h5⟩
 | fuel+1,lo,hi,h1,h2,h3,h4,h5=>by
  unfold SetTable.below.go
  by_cases c:lo<hi
  ·rw [if_pos c]
   have hm:(lo+hi) / 2<xs.size:=by rfl'
   dsimp only
   rw [zm (b:=0) hm]
   by_cases c2:xs.getD ((lo+hi) / 2) 0<j
   ·rw [if_pos c2]
    refine kj as fuel _ _ (by rfl') (by rfl') h3 (fun i hi'=> ?_) h5
    by_cases e:i=(lo+hi) / 2
    ·rw [e];exact c2
    ·exact Nat.lt_trans (as i _ (by rfl') hm) c2
   ·rw [if_neg c2]
    refine kj as fuel _ _ (by rfl') (by rfl') (by rfl') h4 (fun i hi' hs=> ?_)
    by_cases e:i=(lo+hi) / 2
    ·rw [e];rfl'
    ·have:=as ((lo+hi) / 2) i (by rfl') hs;rfl'
  ·rw [if_neg c]
   have e:hi=lo:=by rfl'
   subst e
   exact ⟨h3,h4,h5⟩
theorem fY {xs:Array Nat} (as:ww xs) (j:Nat):SetTable.below xs j<=xs.size/\(∀i,i<SetTable.below xs j->xs.getD i 0<j)/\ ∀i,SetTable.below xs j<=i->i<xs.size->j<=xs.getD i 0:=
 kj as xs.size 0 xs.size (by rfl') (Yp _) (Zh _) (fun i h=>absurd h (Nat.not_lt_zero _)) (fun i h1 h2=>absurd h2 (by rfl'))
theorem Fj {xs:Array Nat} (as:ww xs) {i k j:Nat} (hi:xs[i]? =some j) (hk:xs[k]? =some j):i=k:=by
 obtain ⟨h1,e1⟩:=Wx.mp hi
 obtain ⟨h2,e2⟩:=Wx.mp hk
 have g: ∀ {x:Nat} (h:x<xs.size),xs.getD x 0=xs[x]:=fun h=>by rw [Yu,Zi h];rfl
 rcases Nat.lt_trichotomy i k with h | h | h
 ·have:=as i k h h2;rw [g h1,g h2,e1,e2] at this;rfl'
 ·exact h
 ·have:=as k i h h1;rw [g h1,g h2,e1,e2] at this;rfl'
theorem below_at {xs:Array Nat} (as:ww xs) {i j:Nat} (h:xs[i]? =some j):SetTable.below xs j=i:=by
 obtain ⟨hi,e⟩:=Wx.mp h
 have g:xs.getD i 0=j:=by rw [Yu,h];rfl
 obtain ⟨b1,b2,b3⟩:=fY as j
 rcases Nat.lt_trichotomy (SetTable.below xs j) i with c | c | c
 ·have h1:=b3 _ (Zh _) (by rfl')
  have:=as _ i c hi
  rfl'
 ·exact c
 ·have:=b2 i c;rfl'
theorem iV {t:SetTable} (as:ww t.place) {i j:Nat} (h:t.place[i]? =some j):t.slot j= .live i:=by
 unfold SetTable.slot
 rw [below_at as h]
 dsimp only
 rw [h]
 simp
theorem sr {t:SetTable} (hd:t.dummies= #[]) {j:Nat} (h: ∀i:Nat,t.place[i]? ≠some j):t.slot j= .empty:=by
 unfold SetTable.slot
 dsimp only
 rw [if_neg (by simpa using h _),hd]
 rfl
noncomputable def lp (mask:Nat) (h:Int):Nat->Nat×Nat
 | 0=>(SetTable.bits h%(mask+1),SetTable.bits h)
 | n+1=>SetTable.leap mask (lp mask h n).1 (lp mask h n).2
noncomputable def rn (mask:Nat) (h:Int) (n:Nat):Nat:=SetTable.runEnd mask (lp mask h n).1-(lp mask h n).1
theorem mC (mask:Nat) (h:Int) (n:Nat):rn mask h n=0\/(rn mask h n=9/\(lp mask h n).1+9<=mask):=by
 unfold rn SetTable.runEnd
 split
 ·right;rfl'
 ·left;rfl'
noncomputable def po (mask:Nat) (h:Int) (n r:Nat):Nat:=(lp mask h n).1+r
theorem Hr (mask:Nat) (h:Int) (n:Nat):(lp mask h n).1<mask+1:=by
 cases n with
 | zero=>exact Nat.mod_lt _ (Nat.succ_pos _)
 | succ n=>exact Nat.mod_lt _ (Nat.succ_pos _)
theorem zp {mask:Nat} {h:Int} {n r:Nat} (hr:r<=rn mask h n):po mask h n r<=mask:=by
 have:=Hr mask h n
 rcases mC mask h n with e | ⟨e,e2⟩
 ·unfold po;rfl'
 ·unfold po;rfl'
theorem uI (mask:Nat) (h:Int): ∀n,(lp mask h n).2=SetTable.bits h / 32^n
 | 0=>by rw [Nat.pow_zero,Nat.div_one];rfl
 | n+1=>by
  show (lp mask h n).2 / 32=_
  rw [uI mask h n,Nat.div_div_eq_div_mul,Nat.pow_succ]
theorem Fl (h:Int):SetTable.bits h<2^64:=by
 unfold SetTable.bits
 have h1:=Int.emod_nonneg h (show ((2:Int)^64)≠0 by decide)
 have h2:=Wy h (show (0:Int)<2^64 by decide)
 rfl'
theorem uJ {mask:Nat} (h:Int): ∀n,(lp mask h (13+n)).1=f5 (mask+1) n (lp mask h 13).1
 | 0=>(Nat.mod_eq_of_lt (Hr mask h 13)).symm
 | n+1=>by
  show ((lp mask h (13+n)).1*5+1+(lp mask h (13+n)).2 / 32)%(mask+1)=(5*f5 (mask+1) n (lp mask h 13).1+1)%(mask+1)
  have:(lp mask h (13+n)).2=0:=by
   rw [uI]
   refine Nat.div_eq_of_lt (Zz (Fl h) ?_)
   rw [Nat.pow_add]
   exact Yk (by decide) (Nat.le_mul_of_pos_right _ (Nat.pow_pos (by decide)))
  rw [this,uJ h n,Nat.mul_comm]
theorem zq {mask k:Nat} (hk:mask+1=2^k) (h:Int) {y:Nat} (hy:y<=mask): ∃n,n<=13+mask/\(lp mask h n).1=y:=by
 obtain ⟨n,hn,e⟩:=K9 (k:=k) (x:=(lp mask h 13).1) (y:=y) (by rfl')
 rw [<- hk] at e
 exact ⟨13+n,by rfl',by rw [uJ];exact e⟩
noncomputable def pr (mask:Nat) (h:Int) (n r:Nat):SetTable.Probe:={ j:=po mask h n r,more:=rn mask h n-r,i:=(lp mask h n).1,perturb:=(lp mask h n).2,dummy:=none }
theorem zr (t:SetTable) (h:Int):t.probeStart h=pr t.mask h 0 0:=rfl
theorem Ht {t:SetTable} {h:Int} {n r:Nat} (hr:r<rn t.mask h n):t.advance (pr t.mask h n r)=pr t.mask h n (r+1):=by
 unfold SetTable.advance
 rw [if_pos (show (pr t.mask h n r).more>0 from Nat.sub_pos_of_lt hr)]
 rfl
theorem uK {t:SetTable} {h:Int} {n r:Nat} (hr:r=rn t.mask h n):t.advance (pr t.mask h n r)=pr t.mask h (n+1) 0:=by
 unfold SetTable.advance
 rw [if_neg (show ¬ (pr t.mask h n r).more>0 by show ¬ (rn t.mask h n-r>0);rfl')]
 rfl
noncomputable def nQ (t:SetTable) (j:Nat):Prop:= ∃i:Nat,t.place[i]? =some j
noncomputable def jk (n r n' r':Nat):Prop:=n<n'\/(n=n'/\r<r')
noncomputable def Pass (t:SetTable) (ha:Nat->Int) (h:Int) (n0 r0 n r:Nat):Prop:= ∀n' r',r'<=rn t.mask h n'-> ¬jk n' r' n0 r0->jk n' r' n r-> ∃i:Nat,t.place[i]? =some (po t.mask h n' r')/\ha i≠h
inductive Meets (t:SetTable) (ha:Nat->Int) (h:Int) (n0 r0:Nat):SetTable.Met->Prop
 | empty {n r:Nat} (hr:r<=rn t.mask h n) (ps:Pass t ha h n0 r0 n r) (no: ¬nQ t (po t.mask h n r)):Meets t ha h n0 r0 (.empty (po t.mask h n r) none)
 | cand {n r i:Nat} (hr:r<=rn t.mask h n) (ge: ¬jk n r n0 r0) (ps:Pass t ha h n0 r0 n r) (hi:t.place[i]? =some (po t.mask h n r)) (he:ha i=h):Meets t ha h n0 r0 (.candidate (po t.mask h n r) i (t.advance (pr t.mask h n r)))
theorem kE {t : SetTable} {ha : Nat -> Int} {h : Int} (as : ww t.place) (hd : t.dummies = #[]) {n0 r0 N : Nat} (hN : ¬ nQ t (po t.mask h N 0)) : ∀ (fuel n r : Nat), r <= rn t.mask h n -> n <= N -> (n = N -> r = 0) -> 10 * (N - n) + 1 <= fuel + r -> ¬ jk n r n0 r0 -> Pass t ha h n0 r0 n r ->
  ∃m,SetTable.probe.go t ha h fuel (pr t.mask h n r)=some m/\Meets t ha h n0 r0 m
 | 0,n,r,hr,h1,h2,h3,ge,ps=>by
  exfalso
  rcases mC t.mask h n with e | ⟨e,_⟩
  ·rfl'
  ·by_cases c:n=N
   ·have:=h2 c;rfl'
   ·rfl'
 | fuel + 1, n, r, hr, h1, h2, h3, ge, ps => by
  unfold SetTable.probe.go
  by_cases oc:nQ t (po t.mask h n r)
  ·obtain ⟨i,hi⟩:=oc
   rw [show t.slot (pr t.mask h n r).j= .live i from iV as hi]
   dsimp only
   by_cases e:ha i=h
   ·rw [if_pos (by rw [e];exact beq_self_eq_true h)]
    exact ⟨_,rfl, .cand hr ge ps hi e⟩
   ·rw [if_neg (by simpa using e)]
    have hnN:n≠N:=fun c=>hN (by rw [<- c,<- h2 c];exact ⟨i,hi⟩)
    by_cases c:r<rn t.mask h n
    ·rw [Ht c]
     refine kE as hd hN fuel n (r+1) c h1 (fun z=>absurd z hnN) (by rfl') (fun z=>ge ?_) (fun n' r' a1 a2 a3=> ?_)
     ·rcases z with z | ⟨z1,z2⟩
      ·exact .inl z
      ·exact .inr ⟨z1,by rfl'⟩
     ·by_cases q:n'=n/\r'=r
      ·rw [q.1,q.2];exact ⟨i,hi,e⟩
      ·refine ps n' r' a1 a2 ?_
       rcases a3 with z | ⟨z1,z2⟩
       ·exact .inl z
       ·exact .inr ⟨z1,by rfl'⟩
    ·have er:r=rn t.mask h n:=by rfl'
     rw [uK er]
     refine kE as hd hN fuel (n+1) 0 (Yp _) (by rfl') (fun _=>rfl) ?_ (fun z=>ge ?_) (fun n' r' a1 a2 a3=> ?_)
     ·rcases mC t.mask h n with e' | ⟨e',_⟩
      ·rfl'
      ·rfl'
     ·rcases z with z | ⟨z1,z2⟩
      ·exact .inl (by rfl')
      ·exact .inl (by rfl')
     ·by_cases q:n'=n/\r'=r
      ·rw [q.1,q.2];exact ⟨i,hi,e⟩
      ·refine ps n' r' a1 a2 ?_
       rcases a3 with z | ⟨z1,z2⟩
       ·by_cases q2:n'=n
        ·subst q2
         exact .inr ⟨rfl,by rfl'⟩
        ·exact .inl (by rfl')
       ·rfl'
  ·rw [show t.slot (pr t.mask h n r).j= .empty from sr hd fun i hi=>oc ⟨i,hi⟩]
   exact ⟨_,rfl, .empty hr ps oc⟩
theorem Fp {t:SetTable} (as:ww t.place) (le: ∀i j:Nat,t.place[i]? =some j->j<=t.mask) (hs:t.place.size<=t.mask): ∃y,y<=t.mask/\ ¬nQ t y:=by
 by_cases c: ∃y,y<=t.mask/\ ¬nQ t y
 ·exact c
 ·exfalso
  have:=jd (l:=List.range (t.mask+1)) (m:=t.place.toList) List.nodup_range fun y my=>by
   by_cases o:nQ t y
   ·obtain ⟨i,hi⟩:=o
    exact Array.mem_toList_iff.mpr (Array.mem_of_getElem? hi)
   ·exact absurd ⟨y,by have:=Xe.mp my;rfl',o⟩ c
  rw [Ys,Yd] at this
  rfl'
theorem zu {t:SetTable} {ha:Nat->Int} {h:Int} (as:ww t.place) (hd:t.dummies= #[]) {N n r:Nat} (hN: ¬nQ t (po t.mask h N 0)) (hNm:N<=13+t.mask) (hr:r<=rn t.mask h n) (h1:n<=N) (h2:n=N->r=0): ∃m,t.probe ha h (pr t.mask h n r)=some m/\Meets t ha h n r m:=by
 unfold SetTable.probe
 refine kE as hd hN _ n r hr h1 h2 ?_ (fun z=> ?_) (fun n' r' _ a2 a3=>absurd a3 a2)
 ·unfold SetTable.turns;rfl'
 ·rcases z with z | ⟨_,z⟩
  ·rfl'
  ·rfl'
theorem gZ {α:Type} (xs:Array α) (p:Nat) (hp:p<=xs.size) (x:α) (i:Nat):(SetTable.insertAt xs p x)[i]? =if i<p then xs[i]? else if i=p then some x else xs[i-1]? :=by
 unfold SetTable.insertAt
 have hl:((xs.extract 0 p).push x).size=p+1:=by simp;rfl'
 by_cases c:i<p
 ·rw [if_pos c,Array.getElem?_append_left (by rfl'),Array.getElem?_push_lt (by simp;rfl')]
  simp
 ·rw [if_neg c]
  by_cases c2:i=p
  ·rw [if_pos c2,Array.getElem?_append_left (by rfl'),c2]
   have:(xs.extract 0 p).size=p:=by simp;rfl'
   rw [Array.getElem?_push,if_pos this.symm]
  ·rw [if_neg c2,Array.getElem?_append_right (by rfl'),hl,Array.getElem?_extract]
   by_cases c3:i-(p+1)<min xs.size xs.size-p
   ·rw [if_pos c3];congr 1;rfl'
   ·rw [if_neg c3,Xv (by rfl')]
theorem iz {α:Type} (xs:Array α) (p:Nat) (hp:p<=xs.size) (x:α):(SetTable.insertAt xs p x).size=xs.size+1:=by
 unfold SetTable.insertAt
 simp
 rfl'
section
variable {β:Type}
structure Ok (t:SetTable) (es:Array (Int×β)):Prop where
 pw: ∃k,t.mask+1=2^k
 dm:t.dummies= #[]
 as:ww t.place
 le: ∀i j:Nat,t.place[i]? =some j->j<=t.mask
 sz:t.place.size=es.size
 rm:es.size<=t.mask
 pt: ∀ (i j:Nat) e,t.place[i]? =some j->es[i]? =some e-> ∃n r,r<=rn t.mask e.1 n/\po t.mask e.1 n r=j/\ ∀n' r',r'<=rn t.mask e.1 n'->jk n' r' n r->nQ t (po t.mask e.1 n' r')
theorem Fq {t:SetTable} (as:ww t.place) {j y:Nat}:nQ (t.put j).1 y↔nQ t y\/y=j:=by
 have hp:=(fY as j).1
 show (∃i:Nat,(SetTable.insertAt t.place (SetTable.below t.place j) j)[i]? =some y)↔_
 constructor
 ·rintro ⟨i,hi⟩
  rw [gZ _ _ hp] at hi
  split at hi
  ·exact .inl ⟨i,hi⟩
  ·split at hi
   ·exact .inr (Yt hi).symm
   ·exact .inl ⟨_,hi⟩
 ·rintro (⟨i,hi⟩ | rfl)
  ·by_cases c:i<SetTable.below t.place j
   ·exact ⟨i,by rw [gZ _ _ hp,if_pos c];exact hi⟩
   ·exact ⟨i+1,by rw [gZ _ _ hp,if_neg (by rfl'),if_neg (by rfl')];exact hi⟩
  ·exact ⟨SetTable.below t.place y,by rw [gZ _ _ hp,if_neg (Nat.lt_irrefl _),if_pos rfl]⟩
theorem Ok.put {t:SetTable} {es:Array (Int×β)} (o:Ok t es) {h:Int} {x:β} {n r:Nat} (hr:r<=rn t.mask h n) (no: ¬nQ t (po t.mask h n r)) (ps: ∀n' r',r'<=rn t.mask h n'->jk n' r' n r->nQ t (po t.mask h n' r')) (rm:es.size+1<=t.mask):
  Ok (t.put (po t.mask h n r)).1 (SetTable.insertAt es (t.put (po t.mask h n r)).2 (h,x)):=by
 obtain ⟨b1,b2,b3⟩:=fY o.as (po t.mask h n r)
 have hoc:=fun {y:Nat}=>Fq (y:=y) o.as (j:=po t.mask h n r)
 have hle:=zp hr
 generalize ej:po t.mask h n r=j at*
 have hne: ∀i:Nat,t.place[i]? ≠some j:=fun i hi=>no ⟨i,hi⟩
 have hp2:SetTable.below t.place j<=es.size:=by rw [<- o.sz];exact b1
 have gt: ∀i,SetTable.below t.place j<=i->i<t.place.size->j<t.place.getD i 0:=fun i h1 h2=>by
  have:=b3 i h1 h2
  have hn:t.place.getD i 0≠j:=fun e=>hne i (by rw [Zi h2,<- e,Yu,Zi h2];rfl)
  rfl'
 have gp: ∀i,i<t.place.size+1->(t.put j).1.place.getD i 0=if i<SetTable.below t.place j then t.place.getD i 0 else if i=SetTable.below t.place j then j else t.place.getD (i-1) 0:=fun i hi=>by
  show (SetTable.insertAt t.place (SetTable.below t.place j) j).getD i 0=_
  rw [Yu,gZ _ _ b1]
  split
  ·rw [Yu]
  ·split
   ·rfl
   ·rw [Yu]
 have hs':(t.put j).1.place.size=t.place.size+1:=iz _ _ b1 _
 refine ⟨o.pw,?_,fun i k hik hk=> ?_,fun i y hi=> ?_,?_,?_,fun i y e hi he=> ?_⟩
 ·show (if SetTable.has t.dummies j=true then _ else t.dummies)= #[]
  rw [o.dm];rfl
 ·rw [hs'] at hk
  rw [gp i (by rfl'),gp k hk]
  by_cases c1:k<SetTable.below t.place j
  ·rw [if_pos c1,if_pos (by rfl')];exact o.as i k hik (by rfl')
  ·rw [if_neg c1]
   by_cases c2:k=SetTable.below t.place j
   ·rw [if_pos c2,if_pos (by rfl')];exact b2 i (by rfl')
   ·rw [if_neg c2]
    by_cases c3:i<SetTable.below t.place j
    ·rw [if_pos c3];exact Nat.lt_trans (b2 i c3) (gt _ (by rfl') (by rfl'))
    ·rw [if_neg c3]
     by_cases c4:i=SetTable.below t.place j
     ·rw [if_pos c4];exact gt _ (by rfl') (by rfl')
     ·rw [if_neg c4];exact o.as _ _ (by rfl') (by rfl')
 ·show y<=t.mask
  rcases hoc.mp ⟨i,hi⟩ with ⟨k,hk⟩ | rfl
  ·exact o.le k y hk
  ·exact hle
 ·rw [hs',show (SetTable.insertAt es (t.put j).2 (h,x)).size=es.size+1 from iz _ _ hp2 _,o.sz]
 ·rw [show (SetTable.insertAt es (t.put j).2 (h,x)).size=es.size+1 from iz _ _ hp2 _];exact rm
 ·have key:(e=(h,x)/\y=j)\/ ∃k:Nat,t.place[k]? =some y/\es[k]? =some e:=by
   have hi:(SetTable.insertAt t.place (SetTable.below t.place j) j)[i]? =some y:=hi
   have he:(SetTable.insertAt es (SetTable.below t.place j) (h,x))[i]? =some e:=he
   rw [gZ _ _ b1] at hi
   rw [gZ _ _ hp2] at he
   by_cases c:i<SetTable.below t.place j
   ·rw [if_pos c] at hi he;exact .inr ⟨i,hi,he⟩
   ·rw [if_neg c] at hi he
    by_cases c2:i=SetTable.below t.place j
    ·rw [if_pos c2] at hi he
     exact .inl ⟨(Yt he).symm,(Yt hi).symm⟩
    ·rw [if_neg c2] at hi he
     exact .inr ⟨_,hi,he⟩
  rcases key with ⟨rfl,rfl⟩ | ⟨k,hk,hek⟩
  ·exact ⟨n,r,hr,ej,fun n' r' a1 a2=>hoc.mpr (.inl (ps n' r' a1 a2))⟩
  ·obtain ⟨n1,r1,q1,q2,q3⟩:=o.pt k y e hk hek
   exact ⟨n1,r1,q1,q2,fun n' r' a1 a2=>hoc.mpr (.inl (q3 n' r' a1 a2))⟩
theorem Ok.like {t t':SetTable} {es:Array (Int×β)} (o:Ok t es) (e1:t'.mask=t.mask) (e2:t'.place=t.place) (e3:t'.dummies=t.dummies):Ok t' es:=by
 obtain ⟨a1,a2,a3,a4,a5,a6,a7⟩:=o
 unfold nQ at a7
 exact ⟨by rw [e1];exact a1,by rw [e3];exact a2,by rw [e2];exact a3,by rw [e1,e2];exact a4,by rw [e2];exact a5,by rw [e1];exact a6,by unfold nQ;rw [e1,e2];exact a7⟩
theorem zz (f m:Nat) (l:Bool):Ok (SetTable.fresh f m l) (#[]:Array (Int×β)):=
 ⟨⟨3,rfl⟩,rfl,fun i k _ h=>absurd h (Nat.not_lt_zero _),fun i j h=>(by cases (show (#[]:Array Nat)[i]? =some j from h)),rfl,Yp _,fun i j e h=>(by cases (show (#[]:Array Nat)[i]? =some j from h))⟩
theorem Ok.absent {t:SetTable} {es:Array (Int×β)} (o:Ok t es) {h:Int} {n r:Nat} (no: ¬nQ t (po t.mask h n r)) (hr:r<=rn t.mask h n) {C:Nat->Prop} (ps: ∀n' r',r'<=rn t.mask h n'->jk n' r' n r-> ∃i:Nat,t.place[i]? =some (po t.mask h n' r')/\(C i\/ ∀e,es[i]? =some e->e.1≠h)) {i:Nat} {e:Int×β} (hi:es[i]? =some e) (he:e.1=h):C i:=by
 have hil:i<t.place.size:=by rw [o.sz];exact (Wx.mp hi).1
 obtain ⟨n1,r1,q1,q2,q3⟩:=o.pt i _ e (Zi hil) hi
 rw [he] at q1 q2 q3
 have tri:jk n1 r1 n r\/(n1=n/\r1=r)\/jk n r n1 r1:=by
  unfold jk
  rfl'
 rcases tri with c | ⟨rfl,rfl⟩ | c
 ·obtain ⟨k,hk,hc⟩:=ps n1 r1 q1 c
  rw [q2] at hk
  obtain rfl:=Fj o.as hk (Zi hil)
  rcases hc with hc | hc
  ·exact hc
  ·exact absurd he (hc e hi)
 ·exact absurd ⟨i,by rw [q2];exact Zi hil⟩ no
 ·exact absurd (q3 n r hr c) no
end
noncomputable def stp (mask:Nat) (acc:Option (Array (Option Nat)×Nat)) (h:Int):Option (Array (Option Nat)×Nat):=do
 let (owner,k) <- acc
 let j <- SetTable.layClean.free mask owner (SetTable.turns mask) (SetTable.bits h%(mask+1)) (SetTable.bits h)
 pure (owner.setIfInBounds j (some k),k+1)
theorem Ka (mask:Nat) (hs:Array Int):SetTable.layClean mask hs=(hs.toList.foldl (stp mask) (some (Array.replicate (mask+1) none,0))).map (·.1):=by
 unfold SetTable.layClean
 rw [<- Array.foldl_toList]
 rfl
theorem uL {mask:Nat} {owner:Array (Option Nat)} (hs:owner.size=mask+1) {h:Int} {N:Nat} (hN:owner[po mask h N 0]? =some none): ∀fuel n,n<=N->N+1<=fuel+n->
  ∃n' r',n<=n'/\r'<=rn mask h n'/\SetTable.layClean.free mask owner fuel (lp mask h n).1 (lp mask h n).2=some (po mask h n' r')/\owner[po mask h n' r']? =some none/\ ∀n'' r'',r''<=rn mask h n''->n<=n''->jk n'' r'' n' r'-> ∃k,owner[po mask h n'' r'']? =some (some k)
 | 0,n,h1,h2=>by rfl'
 | fuel+1,n,h1,h2=>by
  have inb: ∀ {n r},r<=rn mask h n->po mask h n r<owner.size:=fun hr=>by rw [hs];have:=zp hr;rfl'
  have gd: ∀ {n r} (hr:r<=rn mask h n),owner.getD (po mask h n r) (some 0)=owner[po mask h n r]'(inb hr):=fun hr=>by
   rw [Yu,Zi (inb hr)];rfl
  have len:SetTable.runEnd mask (lp mask h n).1+1-(lp mask h n).1=rn mask h n+1:=by
   unfold rn SetTable.runEnd
   split<;>rfl'
  unfold SetTable.layClean.free
  rw [len]
  cases ef:(List.range (rn mask h n+1)).find? fun k=>(owner.getD ((lp mask h n).1+k) (some 0)).isNone with
  | some k=>
   have hk:=Xe.mp (List.mem_of_find?_eq_some ef)
   have hkr:k<=rn mask h n:=by rfl'
   have hv:=List.find?_some ef
   have hv2:owner.getD (po mask h n k) (some 0)=none:=Option.isNone_iff_eq_none.mp hv
   refine ⟨n,k,Zh _,hkr,rfl,?_,fun n'' r'' a1 a2 a3=> ?_⟩
   ·rw [Zi (inb hkr),<- gd hkr,hv2]
   ·rcases a3 with z | ⟨rfl,z2⟩
    ·rfl'
    ·have hb:=(List.find?_range_eq_some.mp ef).2.2 r'' z2
     have hb2:(owner.getD (po mask h n'' r'') (some 0)).isNone=false:=Bool.eq_false_iff.mpr fun z=>by rw [show (owner.getD ((lp mask h n'').1+r'') (some 0)).isNone=true from z] at hb;cases hb
     rw [gd a1] at hb2
     rw [Zi (inb a1)]
     cases eo:owner[po mask h n'' r'']'(inb a1) with
     | none=>rw [eo] at hb2;cases hb2
     | some k'=>exact ⟨k',rfl⟩
  | none=>
   have hall: ∀r,r<=rn mask h n-> ∃k,owner[po mask h n r]? =some (some k):=fun r hr=>by
    have:=List.find?_eq_none.mp ef r (Xe.mpr (by rfl'))
    have hb2:(owner.getD (po mask h n r) (some 0)).isNone=false:=Bool.eq_false_iff.mpr this
    rw [gd hr] at hb2
    rw [Zi (inb hr)]
    cases eo:owner[po mask h n r]'(inb hr) with
    | none=>rw [eo] at hb2;cases hb2
    | some k'=>exact ⟨k',rfl⟩
   have hnN:n≠N:=fun e=>by
    obtain ⟨k,hk⟩:=hall 0 (Yp _)
    rw [e,hN] at hk
    cases hk
   obtain ⟨n',r',q1,q2,q3,q4,q5⟩:=uL hs hN fuel (n+1) (by rfl') (by rfl')
   refine ⟨n',r',by rfl',q2,q3,q4,fun n'' r'' a1 a2 a3=> ?_⟩
   by_cases c:n''=n
   ·rw [c] at a1 ⊢;exact hall r'' a1
   ·exact q5 n'' r'' a1 (by rfl') a3
structure Lay (mask:Nat) (hs:List Int) (owner:Array (Option Nat)):Prop where
 size:owner.size=mask+1
 val: ∀j k:Nat,owner[j]? =some (some k)->k<hs.length
 uq: ∀j j' k:Nat,owner[j]? =some (some k)->owner[j']? =some (some k)->j=j'
 ex: ∀ (k:Nat) h,hs[k]? =some h-> ∃n r,r<=rn mask h n/\owner[po mask h n r]? =some (some k)/\ ∀n' r',r'<=rn mask h n'->jk n' r' n r-> ∃k',owner[po mask h n' r']? =some (some k')
theorem Lay.free {mask:Nat} {hs:List Int} {owner:Array (Option Nat)} (l:Lay mask hs owner) (hm:hs.length<=mask): ∃y,y<=mask/\owner[y]? =some none:=by
 by_cases c: ∃y,y<=mask/\owner[y]? =some none
 ·exact c
 ·exfalso
  have all: ∀y,y<mask+1-> ∃k,owner[y]? =some (some k):=fun y hy=>by
   have hy':y<owner.size:=by rw [l.size];exact hy
   cases e:owner[y] with
   | none=>exact absurd ⟨y,by rfl',by rw [Zi hy',e]⟩ c
   | some k=>exact ⟨k,by rw [Zi hy',e]⟩
  have:=jd (l:=(List.range (mask+1)).map fun y=>owner[y]?) (m:=(List.range hs.length).map fun k=>some (some k)) (List.pairwise_map.mpr (List.pairwise_lt_range.imp_of_mem fun {i j} mi mj hlt e=>by
    obtain ⟨k,hk⟩:=all i (Xe.mp mi)
    have:=l.uq i j k hk (by rw [<- e];exact hk)
    rfl')) fun x mx=>by
   obtain ⟨y,my,rfl⟩:=Zg.mp mx
   obtain ⟨k,hk⟩:=all y (Xe.mp my)
   rw [hk]
   exact Zg.mpr ⟨k,Xe.mpr (l.val y k hk),rfl⟩
  rw [Qr,Qr,Ys,Ys] at this
  rfl'
theorem Lay.step {mask k0:Nat} (hk0:mask+1=2^k0) {hs:List Int} {owner:Array (Option Nat)} (l:Lay mask hs owner) (hm:hs.length<=mask) (h:Int): ∃owner',stp mask (some (owner,hs.length)) h=some (owner',(hs++[h]).length)/\Lay mask (hs++[h]) owner':=by
 obtain ⟨y,hy,ey⟩:=l.free hm
 obtain ⟨N,hN,eN⟩:=zq hk0 h hy
 obtain ⟨n,r,_,q2,q3,q4,q5⟩:=uL l.size (h:=h) (N:=N) (by show owner[(lp mask h N).1+0]? =_;rw [Nat.add_zero,eN];exact ey) (SetTable.turns mask) 0 (Yp _) (by unfold SetTable.turns;rfl')
 have hj:po mask h n r<owner.size:=by rw [l.size];have:=zp q2;rfl'
 have gs: ∀j:Nat,(owner.setIfInBounds (po mask h n r) (some hs.length))[j]? =if po mask h n r=j then some (some hs.length) else owner[j]? :=fun j=>by
  rw [Array.getElem?_setIfInBounds]
  by_cases c:po mask h n r=j
  ·rw [if_pos c,if_pos c,if_pos hj]
  ·rw [if_neg c,if_neg c]
 refine ⟨owner.setIfInBounds (po mask h n r) (some hs.length),?_,?_⟩
 ·unfold stp
  rw [Zn]
  show (do let j <- SetTable.layClean.free mask owner (SetTable.turns mask) (lp mask h 0).1 (lp mask h 0).2;pure (owner.setIfInBounds j (some hs.length),hs.length+1))=_
  rw [q3];rfl
 ·refine ⟨by rw [Array.size_setIfInBounds];exact l.size,fun j k e=> ?_,fun j j' k e e'=> ?_,fun k h' e=> ?_⟩
  ·rw [gs] at e
   rw [Zn]
   split at e
   ·have:=Yt (Yt e);simp;rfl'
   ·have:=l.val j k e;simp;rfl'
  ·rw [gs] at e e'
   split at e
   ·rename_i c1
    split at e'
    ·rename_i c2;rfl'
    ·have:=l.val j' k e';have:=Yt (Yt e);rfl'
   ·split at e'
    ·have:=l.val j k e;have:=Yt (Yt e');rfl'
    ·exact l.uq j j' k e e'
  ·have keep: ∀j:Nat,(∃k':Nat,owner[j]? =some (some k'))-> ∃k':Nat,(owner.setIfInBounds (po mask h n r) (some hs.length))[j]? =some (some k'):=fun j ⟨k',hk'⟩=>by
    rw [gs]
    split
    ·exact ⟨_,rfl⟩
    ·exact ⟨k',hk'⟩
   by_cases c:k<hs.length
   ·rw [List.getElem?_append_left c] at e
    obtain ⟨n1,r1,a1,a2,a3⟩:=l.ex k h' e
    refine ⟨n1,r1,a1,?_,fun n' r' b1 b2=>keep _ (a3 n' r' b1 b2)⟩
    rw [gs,if_neg (fun z=>by rw [<- z,q4] at a2;cases a2)]
    exact a2
   ·rw [Wv (by rfl')] at e
    have ek:k-hs.length=0:=by have:=(Xa.mp e).1;simp at this;rfl'
    rw [ek] at e
    cases e
    refine ⟨n,r,q2,?_,fun n' r' b1 b2=>keep _ (q5 n' r' b1 (Yp _) b2)⟩
    rw [gs,if_pos rfl,show k=hs.length by rfl']
theorem zA {mask k0:Nat} (hk0:mask+1=2^k0): ∀ (l hs:List Int) (owner:Array (Option Nat)),Lay mask hs owner->hs.length+l.length<=mask-> ∃owner',l.foldl (stp mask) (some (owner,hs.length))=some (owner',(hs++l).length)/\Lay mask (hs++l) owner'
 | [],hs,owner,h,_=>⟨owner,by rw [Yx];rfl,by rw [Yx];exact h⟩
 | x::l,hs,owner,h,hm=>by
  rw [Yv] at hm
  obtain ⟨o1,e1,l1⟩:=h.step hk0 (by rfl') x
  obtain ⟨o2,e2,l2⟩:=zA hk0 l (hs++[x]) o1 l1 (by rw [Zn,We];rfl')
  refine ⟨o2,?_,?_⟩
  ·rw [List.foldl_cons,e1,e2,Ye];rfl
  ·rw [Ye] at l2;exact l2
theorem Ft (mask:Nat):Lay mask [] (Array.replicate (mask+1) none):=by
 have g: ∀j k:Nat,(Array.replicate (mask+1) (none:Option Nat))[j]? ≠some (some k):=fun j k e=>by
  rw [Array.getElem?_replicate] at e
  split at e<;>cases e
 exact ⟨Array.size_replicate,fun j k e=>absurd e (g j k),fun j j' k e=>absurd e (g j k),fun k h e=>(by cases e)⟩
noncomputable def lv (owner:Array (Option Nat)) (m:Nat):List (Nat×Nat):=(List.range m).filterMap fun j=>(owner.getD j none).map (j,·)
theorem zB {owner:Array (Option Nat)} {m j k:Nat}:(j,k)∈lv owner m↔j<m/\owner[j]? =some (some k):=by
 unfold lv
 rw [Wl]
 constructor
 ·rintro ⟨x,mx,e⟩
  obtain ⟨y,ey,e2⟩:=Yn.mp e
  cases e2
  refine ⟨List.mem_range.mp mx,?_⟩
  rw [Yu] at ey
  cases eo:owner[j]? with
  | none=>rw [eo] at ey;cases ey
  | some v=>
   rw [eo] at ey
   have ey:v=some k:=ey
   rw [ey]
 ·rintro ⟨h1,h2⟩
  exact ⟨j,Xe.mpr h1,by rw [Yu,h2];rfl⟩
theorem zE (owner:Array (Option Nat)) (m:Nat):(lv owner m).Pairwise fun a b=>a.1<b.1:=by
 unfold lv
 refine List.Pairwise.filterMap _ (R:=fun a b=>a<b) (fun a a' hlt b hb b' hb'=> ?_) List.pairwise_lt_range
 obtain ⟨_,_,rfl⟩:=Yn.mp hb
 obtain ⟨_,_,rfl⟩:=Yn.mp hb'
 exact hlt
section
variable {β:Type}
theorem zF {es:Array β}: ∀ {l:List Nat},(∀k∈l,k<es.size)-> ∀i:Nat,(l.filterMap (es[·]?))[i]? =l[i]?.bind (es[·]?)
 | [],_,i=>by simp
 | k::l,h,i=>by
  have hk:=h k Zq
  rw [List.filterMap_cons,Zi hk]
  cases i with
  | zero=>show some es[k]=es[k]?;rw [Zi hk]
  | succ i=>exact zF (fun x mx=>h x (Zs _ mx)) i
theorem zG (es:Array β):(List.range es.size).filterMap (es[·]?)=es.toList:=by
 apply List.ext_getElem?
 intro i
 rw [zF (fun k mk=>Xe.mp mk)]
 by_cases c:i<es.size
 ·rw [List.getElem?_range c]
  show es[i]? =es.toList[i]?
  rw [Yr]
 ·rw [Xi (l:=List.range es.size) (by rw [Ys];rfl'),Xi (l:=es.toList) (by rw [Yd];rfl')];rfl
theorem Fv {mask k0:Nat} (hk0:mask+1=2^k0) {es:Array (Int×β)} (hm:es.size<=mask) (finger moves:Nat) (led plain:Bool):
  ∃t' order,SetTable.laid mask finger moves led plain (es.map (·.1))=some (t',order)/\Ok t' (order.filterMap (es[·]?))/\(order.filterMap (es[·]?)).toList.Perm es.toList/\t'.mask=mask/\t'.led=led/\t'.plain=plain:=by
 obtain ⟨owner,e1,l⟩:=zA hk0 (es.map (·.1)).toList [] _ (Ft mask) (by simp;exact hm)
 rw [List.nil_append] at l
 have el:SetTable.layClean mask (es.map (·.1))=some owner:=by
  rw [Ka]
  have e1:(es.map (·.1)).toList.foldl (stp mask) (some (Array.replicate (mask+1) none,0))=_:=e1
  rw [e1];rfl
 have hhs: ∀k:Nat,(es.map (·.1)).toList[k]? =es[k]?.map (·.1):=fun k=>by rw [Yr,Array.getElem?_map]
 have hlen:(es.map (·.1)).toList.length=es.size:=by simp
 have hov: ∀ {j k:Nat},(j,k)∈lv owner (mask+1)↔owner[j]? =some (some k):=fun {j k}=>by
  rw [zB]
  refine ⟨fun h=>h.2,fun h=>⟨?_,h⟩⟩
  rw [<- l.size];exact (Wx.mp h).1
 have hperm:((lv owner (mask+1)).map (·.2)).Perm (List.range es.size):=by
  refine (List.perm_ext_iff_of_nodup ?_ List.nodup_range).mpr fun k=> ?_
  ·refine List.pairwise_map.mpr ((zE owner (mask+1)).imp_of_mem fun {a b} ma mb hlt e=> ?_)
   have:=l.uq a.1 b.1 a.2 (hov.mp ma) (by rw [e];exact hov.mp mb)
   rfl'
  ·rw [Zg,Xe]
   constructor
   ·rintro ⟨⟨j,k'⟩,m,rfl⟩
    have:=l.val _ _ (hov.mp m)
    rw [hlen] at this;exact this
   ·intro hk
    obtain ⟨n,r,_,h2,_⟩:=l.ex k (es[k]).1 (by rw [hhs,Zi hk];rfl)
    exact ⟨(_,k),hov.mpr h2,rfl⟩
 have hkl: ∀p∈lv owner (mask+1),p.2<es.size:=fun p mp=>Xe.mp (hperm.mem_iff.mp (Zg.mpr ⟨p,mp,rfl⟩))
 have hsz:(((lv owner (mask+1)).map (·.2)).toArray.filterMap (es[·]?)).toList=((lv owner (mask+1)).map (·.2)).filterMap (es[·]?):=by
  rw [Array.toList_filterMap]
 have hall: ∀k∈(lv owner (mask+1)).map (·.2),k<es.size:=fun k mk=>Xe.mp (hperm.mem_iff.mp mk)
 have hpe:(((lv owner (mask+1)).map (·.2)).filterMap (es[·]?)).Perm es.toList:=by
  have:=hperm.filterMap (es[·]?)
  rw [zG] at this
  exact this
 have hl2:(lv owner (mask+1)).length=es.size:=by
  have:=hperm.length_eq
  rw [Qr,Ys] at this
  exact this
 refine ⟨_,((lv owner (mask+1)).map (·.2)).toArray,by unfold SetTable.laid;rw [el];rfl,?_,by rw [hsz];exact hpe,rfl,rfl,rfl⟩
 have pl: ∀i:Nat,(((lv owner (mask+1)).map (·.1)).toArray)[i]? =(lv owner (mask+1))[i]?.map (·.1):=fun i=>by rw [Xt,Zd]
 have oc: ∀ {y k:Nat},owner[y]? =some (some k)-> ∃i:Nat,(((lv owner (mask+1)).map (·.1)).toArray)[i]? =some y:=fun {y k} h=>by
  obtain ⟨i,hi,ei⟩:=List.mem_iff_getElem.mp (hov.mpr h)
  exact ⟨i,by rw [pl,Zc hi,ei];rfl⟩
 refine ⟨⟨k0,hk0⟩,rfl,fun i k hik hk=> ?_,fun i j hi=> ?_,?_,?_,fun i j e hi he=> ?_⟩
 ·show (((lv owner (mask+1)).map (·.1)).toArray).getD i 0<(((lv owner (mask+1)).map (·.1)).toArray).getD k 0
  have hk:k<(lv owner (mask+1)).length:=by
   have hk:k<(((lv owner (mask+1)).map (·.1)).toArray).size:=hk
   simpa using hk
  rw [Yu,Yu,pl,pl,Zc hk,Zc (by rfl':i<(lv owner (mask+1)).length)]
  exact List.pairwise_iff_getElem.mp (zE owner (mask+1)) i k _ hk hik
 ·have hi:(((lv owner (mask+1)).map (·.1)).toArray)[i]? =some j:=hi
  rw [pl] at hi
  obtain ⟨p,ep,rfl⟩:=Yn.mp hi
  have:=(zB (j:=p.1) (k:=p.2)).mp (Zj ep)
  show p.1<=mask
  rfl'
 ·show (((lv owner (mask+1)).map (·.1)).toArray).size=_
  rw [<- Yd (xs:=Array.filterMap _ _),hsz,hpe.length_eq]
  simp [hl2]
 ·show (Array.filterMap _ _).size<=mask
  rw [<- Yd (xs:=Array.filterMap _ _),hsz,hpe.length_eq,Yd]
  exact hm
 ·have hi:(((lv owner (mask+1)).map (·.1)).toArray)[i]? =some j:=hi
  rw [pl] at hi
  obtain ⟨p,ep,rfl⟩:=Yn.mp hi
  have he:((lv owner (mask+1)).map (·.2)).filterMap (es[·]?) |>.toArray[i]? =some e:=by
   rw [Xt,<- hsz,Yr];exact he
  rw [Xt,zF hall,Zd,ep] at he
  have he:es[p.2]? =some e:=he
  obtain ⟨n,r,q1,q2,q3⟩:=l.ex p.2 e.1 (by rw [hhs,he];rfl)
  have hp:owner[p.1]? =some (some p.2):=hov.mp (Zj ep)
  refine ⟨n,r,q1,l.uq _ _ _ q2 hp,fun n' r' a1 a2=> ?_⟩
  obtain ⟨k',hk'⟩:=q3 n' r' a1 a2
  exact oc hk'
end
end Tb
end
section
namespace Ts
open PySem PySem.Spec PyProof.Rows
section
variable {prog:Program} {w:World} {A:Around} {E:Value->Shared->Prop} {s:Shared} {K:Type} [DecidableEq K] {knd:HeapKind prog w K}
structure SetK (knd:HeapKind prog w K) (h:Heap) (a:Addr) (ks:List (K×Addr)) (es:Array (Int×Value)) (ep:Nat) (t:SetTable):Prop where
 at_:St.SetAt h a es ep t
 ok:Tb.Ok t es
 lo:es.size*5<t.mask*3
 ms:t.mask=7\/t.mask=31\/t.mask=127\/t.mask=511\/t.mask=2047\/t.mask=8191
 ee:es.toList=ks.map fun p=>(knd.hash p.1,Value.ref p.2)
 is: ∀p∈ks,knd.is h p.1 p.2
 nd:(ks.map (·.1)).Nodup
 led:w.params.followText "set-order"=false->t.led=true
theorem SetK.at2 {h:Heap} {a:Addr} {ks:List (K×Addr)} {es:Array (Int×Value)} {ep:Nat} {t:SetTable} (x:SetK knd h a ks es ep t) {i:Nat} {e:Int×Value} (he:es[i]? =some e): ∃p∈ks,e=(knd.hash p.1,Value.ref p.2):=by
 rw [<- Yr,x.ee,Zd] at he
 obtain ⟨p,hp,rfl⟩:=Yn.mp he
 exact ⟨p,Zj hp,rfl⟩
structure Calm (knd:HeapKind prog w K):Prop where
 cs: ∀ {A:Around} {E:Value->Shared->Prop} {s:Shared} {k:K} {a:Addr} {Q:Bool->Shared->Prop},knd.is s.heap k a->Q false s->wpAny (model prog w) A (ofAClassStatement 8 (.ref a)) Q E s
 hv: ∀ {A:Around} {E:Value->Shared->Prop} {s:Shared} {k:K} {a:Addr} {Q:Bool->Shared->Prop},knd.is s.heap k a->(∀b,Q b s)->wpAny (model prog w) A (hashByValue 8 (.ref a)) Q E s
 kp: ∀ {h h':Heap} {k:K} {a d:Addr} {o:Obj},knd.is h k a->h.get? d=some o->o.cls≠ .type "tuple"->(∀c o',c≠d->h.get? c=some o'->h'.get? c=some o')->knd.is h' k a
 ke: ∀ {h h':Heap} {k:K} {a:Addr},knd.is h k a->(∀c o',h.get? c=some o'->h'.get? c=some o')->knd.is h' k a
theorem wA (hc:Calm knd) {b:Addr} {k:K} (hk:knd.is s.heap k b) {Q:Bool->Shared->Prop} (hq:Q false s): ∀ {l:List Value},(∀v∈l,∃k' b',v= .ref b'/\knd.is s.heap k' b')->wpAny (model prog w) A (searchCouldBeSeen (.ref b) l) Q E s:=by
 intro l hl
 unfold searchCouldBeSeen
 have go : ∀ (l : List Value), (∀ v ∈ l, ∃ k' b', v = .ref b' /\ knd.is s.heap k' b') -> wpAny (model prog w) A (forIn l ((none, ()) : Option Bool × Unit) fun y __s => (do
   let very:=match Value.ref b,y with
    | .ref a, .ref b=>a==b
    | _,_=>false
   if (very||(carriedByValue (Value.ref b)&&carriedByValue y))=true then pure (ForInStep.yield (none,()))
   else do
    let q <- eqIsQuiet 8 (Value.ref b)
    if (!q)=true then pure (ForInStep.done (some true,()))
    else do
     let q <- eqIsQuiet 8 y
     if (!q)=true then pure (ForInStep.done (some true,()))
     else do
      let q <- ofAClassStatement 8 (Value.ref b)
      if q=true then pure (ForInStep.done (some true,()))
      else do
       let q <- ofAClassStatement 8 y
       if q=true then pure (ForInStep.done (some true,()))
       else pure (ForInStep.yield (none,())):Sem (ForInStep (Option Bool×Unit)))) (fun r s'=>r=(none,())/\s'=s) E s:=by
  intro l
  induction l with
  | nil=>intro _;exact Za ⟨rfl,rfl⟩
  | cons y l ih=>
   intro hl
   obtain ⟨k',b',rfl,hk'⟩:=hl y Zq
   have rest:=ih fun v mv=>hl v (Zs _ mv)
   rw [Yo]
   refine Qb ?_
   dsimp only
   by_cases c:(b==b'||(carriedByValue (Value.ref b)&&carriedByValue (Value.ref b')))=true
   ·rw [if_pos c]
    exact Za rest
   ·rw [if_neg c]
    refine Qb (knd.quiet hk ?_)
    rw [if_neg (by decide)]
    refine Qb (knd.quiet hk' ?_)
    rw [if_neg (by decide)]
    refine Qb (hc.cs hk ?_)
    rw [if_neg (by decide)]
    refine Qb (hc.cs hk' ?_)
    rw [if_neg (by decide)]
    exact Za rest
 refine Qb (Xz (go l hl) (fun r s' h=> ?_) fun _ _ z=>z)
 obtain ⟨rfl,rfl⟩:=h
 exact Za hq
theorem zH {mask:Nat} {h:Int} {n r n1 r1 n' r':Nat} (hr:r<=Tb.rn mask h n) (hs:(r<Tb.rn mask h n/\n1=n/\r1=r+1)\/(r=Tb.rn mask h n/\n1=n+1/\r1=0)) (hr':r'<=Tb.rn mask h n') (h1:Tb.jk n' r' n1 r1):Tb.jk n' r' n r\/(n'=n/\r'=r):=by
 unfold Tb.jk at*
 rcases hs with ⟨_,rfl,rfl⟩ | ⟨e,rfl,rfl⟩
 ·rfl'
 ·by_cases c:n'=n
  ·subst c;rfl'
  ·rfl'
theorem Ru {a b:Addr} {k:K} {ks:List (K×Addr)} {es:Array (Int×Value)} {ep:Nat} {t:SetTable} (hS:SetK knd s.heap a ks es ep t) (hc:Calm knd) (hu:knd.room A) (hk:knd.is s.heap k b) {Q:SetFound->Shared->Prop}
  (hq1:k∈ks.map (·.1)->Q (.there none) s)
  (hq2: ∀n r,r<=Tb.rn t.mask (knd.hash k) n-> ¬Tb.nQ t (Tb.po t.mask (knd.hash k) n r)->(∀n' r',r'<=Tb.rn t.mask (knd.hash k) n'->Tb.jk n' r' n r->Tb.nQ t (Tb.po t.mask (knd.hash k) n' r'))->k∉ks.map (·.1)->Q (.free (Tb.po t.mask (knd.hash k) n r) false) s)
  {N:Nat} (hN: ¬Tb.nQ t (Tb.po t.mask (knd.hash k) N 0)) (hNm:N<=13+t.mask): ∀ (fuel n0 r0:Nat) (stand:Option SetTable.Probe),stand.getD (t.probeStart (knd.hash k))=Tb.pr t.mask (knd.hash k) n0 r0->r0<=Tb.rn t.mask (knd.hash k) n0->n0<=N->(n0=N->r0=0)->10*(N-n0)+1<=fuel+r0->
   (∀n' r',r'<=Tb.rn t.mask (knd.hash k) n'->Tb.jk n' r' n0 r0-> ∃i:Nat,t.place[i]? =some (Tb.po t.mask (knd.hash k) n' r')/\((∀p∈ks,es[i]? =some (knd.hash p.1,Value.ref p.2)->p.1≠k)\/ ∀e,es[i]? =some e->e.1≠knd.hash k))->
   wpAny (model prog w) A (setSearchFrom a (.ref b) (knd.hash k) true fuel stand) Q E s:=by
 intro fuel
 induction fuel with
 | zero=>
  intro n0 r0 stand hst hr hn hn2 hf hinv
  exfalso
  rcases Tb.mC t.mask (knd.hash k) n0 with e | ⟨e,_⟩
  ·rfl'
  ·by_cases c:n0=N
   ·have:=hn2 c;rfl'
   ·rfl'
 | succ fuel ih=>
  intro n0 r0 stand hst hr hn hn2 hf hinv
  obtain ⟨o,ho,hex,hd,hfit⟩:=id hS.at_
  have odd:t.gaveWay=false:=by
   unfold SetTable.gaveWay
   rcases hS.ms with e | e | e | e | e | e<;>rw [e]<;>rfl
  unfold setSearchFrom
  refine Qb (Wi ho hd hfit ?_)
  dsimp only
  rw [odd]
  simp only [Ze,↓reduceIte]
  rw [hst]
  generalize hg:SetTable.probe t _ (knd.hash k) (Tb.pr t.mask (knd.hash k) n0 r0)=pm
  obtain ⟨m,em,hm⟩:=Tb.zu (ha:=fun i=>((es[i]?).map (·.1)).getD 0) hS.ok.as hS.ok.dm hN hNm hr hn hn2
  obtain rfl:pm=some m:=hg.symm.trans em
  clear hg em
  dsimp only
  have hav: ∀ {i:Nat} {e:Int×Value},es[i]? =some e->((es[i]?).map (·.1)).getD 0=e.1:=fun h=>by rw [h];rfl
  have pass: ∀ {n r:Nat},Tb.Pass t (fun i=>((es[i]?).map (·.1)).getD 0) (knd.hash k) n0 r0 n r-> ∀n' r',r'<=Tb.rn t.mask (knd.hash k) n'->Tb.jk n' r' n r-> ∃i:Nat,t.place[i]? =some (Tb.po t.mask (knd.hash k) n' r')/\((∀p∈ks,es[i]? =some (knd.hash p.1,Value.ref p.2)->p.1≠k)\/ ∀e,es[i]? =some e->e.1≠knd.hash k):=fun {n r} ps n' r' a1 a2=>by
   by_cases c:Tb.jk n' r' n0 r0
   ·exact hinv n' r' a1 c
   ·obtain ⟨i,hi,hne⟩:=ps n' r' a1 c a2
    exact ⟨i,hi, .inr fun e he z=>hne (by show ((es[i]?).map (·.1)).getD 0=_;rw [hav he];exact z)⟩
  cases hm with
  | @empty n r hr' ps no=>
   refine Za (hq2 n r hr' no (fun n' r' a1 a2=> ?_) fun mk=> ?_)
   ·obtain ⟨i,hi,_⟩:=pass ps n' r' a1 a2
    exact ⟨i,hi⟩
   ·obtain ⟨p,mp,ep'⟩:=Zg.mp mk
    obtain ⟨i,hi,ei⟩:=List.mem_iff_getElem.mp mp
    have he:es[i]? =some (knd.hash p.1,Value.ref p.2):=by rw [<- Yr,hS.ee,Zd,Zc hi,ei];rfl
    exact hS.ok.absent (C:=fun i=> ∀p∈ks,es[i]? =some (knd.hash p.1,Value.ref p.2)->p.1≠k) no hr' (pass ps) he (by rw [ep']) p mp he ep'
  | @cand n r i hr' ge ps hi he=>
   have hil:i<es.size:=by rw [<- hS.ok.sz];exact (Wx.mp hi).1
   obtain ⟨p,mp,epp⟩:=hS.at2 (Zi hil)
   have hei:es[i]? =some (knd.hash p.1,Value.ref p.2):=by rw [Zi hil,epp]
   have hpk:=hS.is p mp
   have hnN:n<N:=by
    rcases Nat.lt_or_ge n N with z | z
    ·exact z
    ·exfalso
     by_cases c:Tb.jk N 0 n r
     ·obtain ⟨i',hi',_⟩:=ps N 0 (Yp _) (fun q=>by unfold Tb.jk at q;rfl') c
      exact hN ⟨i',hi'⟩
     ·have e1:n=N/\r=0:=by unfold Tb.jk at c;rfl'
      rw [e1.1,e1.2] at hi
      exact hN ⟨i,hi⟩
   have hr9:Tb.rn t.mask (knd.hash k) n0<=9/\Tb.rn t.mask (knd.hash k) n<=9:=by
    rcases Tb.mC t.mask (knd.hash k) n0 with e | ⟨e,_⟩<;>rcases Tb.mC t.mask (knd.hash k) n with e' | ⟨e',_⟩<;>rfl'
   have next:p.1≠k->wpAny (model prog w) A (setSearchFrom a (Value.ref b) (knd.hash k) true fuel (some (t.advance (Tb.pr t.mask (knd.hash k) n r)))) Q E s:=fun hne=>by
    have inv: ∀n1 r1,((r<Tb.rn t.mask (knd.hash k) n/\n1=n/\r1=r+1)\/(r=Tb.rn t.mask (knd.hash k) n/\n1=n+1/\r1=0))-> ∀n' r',r'<=Tb.rn t.mask (knd.hash k) n'->Tb.jk n' r' n1 r1-> ∃i:Nat,t.place[i]? =some (Tb.po t.mask (knd.hash k) n' r')/\((∀p∈ks,es[i]? =some (knd.hash p.1,Value.ref p.2)->p.1≠k)\/ ∀e,es[i]? =some e->e.1≠knd.hash k):=fun n1 r1 hs n' r' a1 a2=>by
     rcases zH hr' hs a1 a2 with z | ⟨rfl,rfl⟩
     ·exact pass ps n' r' a1 z
     ·refine ⟨i,hi, .inl fun p' mp' e'=> ?_⟩
      rw [hei] at e'
      have e2:=Xr Prod.snd (Yt e')
      have e3:p.2=p'.2:=by injection e2
      have:=hS.is p' mp'
      rw [<- e3] at this
      rw [knd.inj this hpk]
      exact hne
    unfold Tb.jk at ge
    by_cases c2:r<Tb.rn t.mask (knd.hash k) n
    ·exact ih n (r+1) _ (Tb.Ht c2) c2 (by rfl') (fun z=>absurd z (by rfl')) (by rfl') (inv n (r+1) (.inl ⟨c2,rfl,rfl⟩))
    ·have er:r=Tb.rn t.mask (knd.hash k) n:=by rfl'
     exact ih (n+1) 0 _ (Tb.uK er) (Yp _) (by rfl') (fun _=>rfl) (by rfl') (inv (n+1) 0 (.inr ⟨er,rfl,rfl⟩))
   dsimp only
   by_cases hl:(!t.led)=true
   ·rw [if_pos hl]
    refine Qb (wA hc hk ?_ fun v mv=> ?_)
    rotate_left
    ·obtain ⟨e,me,rfl⟩:=Zg.mp mv
     have me:=(Array.mem_filter.mp (Array.mem_toList_iff.mp me)).1
     obtain ⟨j,hj,ej⟩:=Array.mem_iff_getElem.mp me
     obtain ⟨p',mp',e'⟩:=hS.at2 (show es[j]? =some e by rw [Zi hj,ej])
     exact ⟨p'.1,p'.2,by rw [e'],hS.is p' mp'⟩
    rw [if_neg Zl]
    rw [hei]
    dsimp only
    refine Qb (Xp (knd.eqBool hu hpk hk ?_))
    refine Qb (Wi ho hd hfit ?_)
    by_cases c:p.1=k
    ·rw [Ym c,if_pos (by decide:(true&&true)=true)]
     exact Za (hq1 (Zg.mpr ⟨p,mp,c⟩))
    ·rw [Zp c,if_neg (by decide)]
     dsimp only
     rw [show t.sameMemory t.moves t.mask=some true from by unfold SetTable.sameMemory;rw [if_pos (beq_self_eq_true _)]]
     dsimp only
     rw [if_pos rfl,Tb.iV hS.ok.as hi]
     dsimp only
     rw [hei]
     dsimp only
     refine Qb (wpAny_isSame_ref_self ?_)
     refine Qb (Za ?_)
     rw [if_pos rfl]
     dsimp only
     rw [if_neg Zl]
     exact next c
   ·rw [if_neg hl]
    rw [hei]
    dsimp only
    refine Qb (Xp (knd.eqBool hu hpk hk ?_))
    refine Qb (Wi ho hd hfit ?_)
    by_cases c:p.1=k
    ·rw [Ym c,if_pos (by decide:(true&&true)=true)]
     exact Za (hq1 (Zg.mpr ⟨p,mp,c⟩))
    ·rw [Zp c,if_neg (by decide)]
     dsimp only
     rw [show t.sameMemory t.moves t.mask=some true from by unfold SetTable.sameMemory;rw [if_pos (beq_self_eq_true _)]]
     dsimp only
     rw [if_pos rfl,Tb.iV hS.ok.as hi]
     dsimp only
     rw [hei]
     dsimp only
     refine Qb (wpAny_isSame_ref_self ?_)
     refine Qb (Za ?_)
     rw [if_pos rfl]
     dsimp only
     rw [if_neg Zl]
     exact next c
theorem zJ {α β:Type} {f:α->β} {l:List β} {m:List α} (h:l.Perm (m.map f)): ∃m':List α,m'.Perm m/\m'.map f=l:=by
 generalize e:m.map f=x at h
 induction h generalizing m with
 | nil=>exact ⟨m, .refl _,e⟩
 | cons a h ih=>
  cases m with
  | nil=>cases e
  | cons b m=>
   rw [Zr] at e
   injection e with e1 e2
   obtain ⟨m',p,q⟩:=ih e2
   exact ⟨b::m',p.cons b,by rw [Zr,q,e1]⟩
 | swap a b l=>
  match m,e with
  | c::d::m,e=>
   rw [Zr,Zr] at e
   injection e with e1 e
   injection e with e2 e3
   exact ⟨d::c::m, .swap c d m,by rw [Zr,Zr,e1,e2,e3]⟩
 | trans _ _ ih1 ih2=>
  obtain ⟨m1,p1,q1⟩:=ih2 e
  obtain ⟨m2,p2,q2⟩:=ih1 q1
  exact ⟨m2,p2.trans p1,q2⟩
theorem zK {α:Type} (xs:Array α) (p:Nat) (x:α):(SetTable.insertAt xs p x).toList=xs.toList.take p++x::xs.toList.drop p:=by
 unfold SetTable.insertAt
 rw [Array.toList_append,Array.toList_push,Array.toList_extract,Array.toList_extract]
 simp [List.extract_eq_take_drop]
 exact Xd (by rw [Xs,Yd];exact Zh _)
theorem Fw {a b:Addr} {k:K} {ks:List (K×Addr)} {es:Array (Int×Value)} {ep:Nat} {t:SetTable} {Q:Bool->Shared->Prop} (hS:SetK knd s.heap a ks es ep t) (hc:Calm knd) (hu:knd.room A) (hk:knd.is s.heap k b) (hz:es.size<=2600)
  (h: ∀r h' tk ks' es' ep' t',Heap.SameBut a s.heap h'->SetK knd h' a ks' es' ep' t'->(k∈ks.map (·.1)->ks'=ks)->(k∉ks.map (·.1)->ks'.Perm (ks++[(k,b)]))->Q r { s with heap:=h',toks:=tk }):wpAny (model prog w) A (setAdd a (.ref b)) Q E s:=by
 unfold setAdd
 refine Xp (Qb (knd.pyHash hu hk ?_))
 generalize s.toks+knd.draws k=tk
 obtain ⟨o,ho,hex,hd,hfit⟩:=id hS.at_
 have hS':SetK knd ({ s with toks:=tk }:Shared).heap a ks es ep t:=hS
 unfold setAddHashed setAddHashedIn
 refine Xp (Qb (Wi (s:={ s with toks:=tk }) ho hd hfit ?_))
 dsimp only
 rw [show byScan (.ref b) es=false from rfl]
 simp only [Ze,↓reduceIte]
 obtain ⟨y,hy,hoc⟩:=Tb.Fp hS.ok.as hS.ok.le (by rw [hS.ok.sz];exact hS.ok.rm)
 obtain ⟨k0,hk0⟩:=hS.ok.pw
 obtain ⟨N,hN,eN⟩:=Tb.zq hk0 (knd.hash k) hy
 have hmsk:t.mask<=8191:=by rcases hS.ms with e | e | e | e | e | e<;>rfl'
 unfold setSearch
 refine Qb (Ru (s:={ s with toks:=tk }) hS' hc hu hk (N:=N) (fun hm=> ?_) (fun n r hr no ps hm=> ?_) (by show ¬Tb.nQ t ((Tb.lp t.mask (knd.hash k) N).1+0);rw [Nat.add_zero,eN];exact hoc) hN 100000 0 0 none (Tb.zr t _) (Yp _) (Yp _) (fun _=>rfl) (by rfl') fun n' r' _ z=>by unfold Tb.jk at z;rfl')
 ·exact Za (h _ s.heap tk ks es ep t (Heap.SameBut.refl a s.heap) hS (fun _=>rfl) fun z=>absurd hm z)
 ·dsimp only
  refine Qb (Wi (s:={ s with toks:=tk }) ho hd hfit ?_)
  dsimp only
  have hbp:SetTable.below t.place (Tb.po t.mask (knd.hash k) n r)<=es.size:=by rw [<- hS.ok.sz];exact (Tb.fY hS.ok.as _).1
  have lo:=hS.lo
  have rm:es.size+1<=t.mask:=by rcases hS.ms with e | e | e | e | e | e<;>rfl'
  have ok1:=hS.ok.put (x:=Value.ref b) hr no ps rm
  have es1s:(SetTable.insertAt es (t.put (Tb.po t.mask (knd.hash k) n r)).2 (knd.hash k,Value.ref b)).size=es.size+1:=Tb.iz _ _ hbp _
  have es1l:(SetTable.insertAt es (t.put (Tb.po t.mask (knd.hash k) n r)).2 (knd.hash k,Value.ref b)).toList=(ks.take (SetTable.below t.place (Tb.po t.mask (knd.hash k) n r))++(k,b)::ks.drop (SetTable.below t.place (Tb.po t.mask (knd.hash k) n r))).map fun p=>(knd.hash p.1,Value.ref p.2):=by
   rw [zK,hS.ee,Zw,Zr,List.map_take,List.map_drop];rfl
  have mk1:(t.put (Tb.po t.mask (knd.hash k) n r)).1.mask=t.mask:=rfl
  have ld1:(t.put (Tb.po t.mask (knd.hash k) n r)).1.led=t.led:=rfl
  have kp:(ks.take (SetTable.below t.place (Tb.po t.mask (knd.hash k) n r))++(k,b)::ks.drop (SetTable.below t.place (Tb.po t.mask (knd.hash k) n r))).Perm (ks++[(k,b)]):=by
   have:=List.perm_middle (a:=(k,b)) (l₁:=ks.take (SetTable.below t.place (Tb.po t.mask (knd.hash k) n r))) (l₂:=ks.drop (SetTable.below t.place (Tb.po t.mask (knd.hash k) n r)))
   rw [Ws] at this
   exact this.trans (List.perm_append_singleton (k,b) ks).symm
  generalize ks.take (SetTable.below t.place (Tb.po t.mask (knd.hash k) n r))++(k,b)::ks.drop (SetTable.below t.place (Tb.po t.mask (knd.hash k) n r))=ks1 at es1l kp
  generalize SetTable.insertAt es (t.put (Tb.po t.mask (knd.hash k) n r)).2 (knd.hash k,Value.ref b)=es1 at ok1 es1s es1l ⊢
  generalize (t.put (Tb.po t.mask (knd.hash k) n r)).1=t1 at ok1 mk1 ld1 ⊢
  have nd1:(ks1.map (·.1)).Nodup:=by
   rw [(kp.map _).nodup_iff,Zw]
   exact List.nodup_append.mpr ⟨hS.nd,by simp,fun u hu v hv=>by
    have hv:v=k:=by simpa using hv
    rw [hv];intro z;rw [z] at hu;exact hm hu⟩
  have is1: ∀ {h':Heap} {ks2:List (K×Addr)},Heap.SameBut a s.heap h'->ks2.Perm ks1-> ∀p∈ks2,knd.is h' p.1 p.2:=fun {h' ks2} sb pm p mp=>by
   have:=(pm.trans kp).mem_iff.mp mp
   rcases Yc.mp this with z | z
   ·exact hc.kp (hS.is p z) ho (by rw [hex.1];decide) fun c o' hc' e=>sb.extBut c o' hc' e
   ·rw [Zf.mp z];exact hc.kp hk ho (by rw [hex.1];decide) fun c o' hc' e=>sb.extBut c o' hc' e
  have szl:es1.size<=sizeLine:=by rw [es1s,Wd];rfl'
  have tail: ∀t2:SetTable,t2.mask=t1.mask->t2.place=t1.place->t2.dummies=t1.dummies->t2.led=t1.led->wpAny (model prog w) A (do
    storeSet a es1 t2
    if (!false&&t2.tooFull)=true then do
      setRelay a (SetTable.grown (es.size+1))
      pure true
     else pure true) Q E { s with toks:=tk }:=fun t2 q1 q2 q3 q4=>by
   have ok2:=ok1.like q1 q2 q3
   have f2:t2.fits es1.size=true:=by
    unfold SetTable.fits SetTable.fill
    rw [ok2.sz,ok2.dm]
    have:=ok2.rm
    simp;rfl'
   have S1:=St.pY (es':=es1) (t':=t2) hS.at_ f2
   have sb1:Heap.SameBut a s.heap (s.heap.update a (Obj.putSet es1 t2)):=Xo ..
   obtain ⟨o1,ho1,hex1,hd1,_⟩:=id S1
   have full:t2.tooFull=decide ((es.size+1)*5>=t.mask*3):=by
    unfold SetTable.tooFull SetTable.fill
    rw [ok2.sz,ok2.dm,q1,mk1,es1s]
    rfl
   refine Qb (wpAny_storeSet_of (s:={ s with toks:=tk }) ho hd ?_ szl)
   by_cases hf:(es.size+1)*5>=t.mask*3
   ·rw [full,Ym hf,if_pos (by decide)]
    have big: ∃k',SetTable.sizeAbove (SetTable.grown (es.size+1))=2^k'/\(SetTable.sizeAbove (SetTable.grown (es.size+1))=32\/SetTable.sizeAbove (SetTable.grown (es.size+1))=128\/SetTable.sizeAbove (SetTable.grown (es.size+1))=512\/SetTable.sizeAbove (SetTable.grown (es.size+1))=2048\/SetTable.sizeAbove (SetTable.grown (es.size+1))=8192)/\4*(es.size+1)<SetTable.sizeAbove (SetTable.grown (es.size+1)):=by
     rcases hS.ms with e | e | e | e | e | e
     ·obtain e':es.size=4:=by rfl'
      rw [e'];exact ⟨5,by decide+kernel,by decide+kernel,by decide+kernel⟩
     ·obtain e':es.size=18:=by rfl'
      rw [e'];exact ⟨7,by decide+kernel,by decide+kernel,by decide+kernel⟩
     ·obtain e':es.size=76:=by rfl'
      rw [e'];exact ⟨9,by decide+kernel,by decide+kernel,by decide+kernel⟩
     ·obtain e':es.size=306:=by rfl'
      rw [e'];exact ⟨11,by decide+kernel,by decide+kernel,by decide+kernel⟩
     ·obtain e':es.size=1228:=by rfl'
      rw [e'];exact ⟨13,by decide+kernel,by decide+kernel,by decide+kernel⟩
     ·rfl'
    obtain ⟨k',hk',hcs,hlt⟩:=big
    have hW1:SetTable.sizeAbove (SetTable.grown (es.size+1))-1+1=2^k':=by rw [<- hk'];rfl'
    obtain ⟨t3,order,el,ok3,pm3,m3,l3,_⟩:=Tb.Fv hW1 (es:=es1) (by rw [es1s];rfl') t2.finger (t2.movedTo (SetTable.sizeAbove (SetTable.grown (es.size+1))-1)) t2.led t2.plain
    have er:t2.relaid (es1.map (·.1)) (SetTable.grown (es.size+1))=some (t3,order):=el
    have sz3:(order.filterMap (es1[·]?)).size=es1.size:=by rw [<- Yd,pm3.length_eq,Yd]
    obtain ⟨ks3,kp3,ke3⟩:=zJ (f:=fun p:K×Addr=>(knd.hash p.1,Value.ref p.2)) (es1l▸pm3)
    unfold setRelay
    refine Qb (Qb (Wi (s:={ s with heap:=s.heap.update a (Obj.putSet es1 t2),toks:=tk }) ho1 hd1 f2 ?_))
    dsimp only
    rw [if_neg (by rw [Wd];rfl'),er]
    refine Qb (wpAny_of_eq (a:=(order.filterMap (es1[·]?),t3)) ?_ ?_)
    ·have hcb:((order.filterMap (es1[·]?)).size !=es1.size)=false:=by rw [sz3];simp
     show (if ((order.filterMap (es1[·]?)).size !=es1.size)=true then _ else _)=_
     rw [hcb];rfl
    dsimp only
    have f3:t3.fits (order.filterMap (es1[·]?)).size=true:=by
     unfold SetTable.fits SetTable.fill
     rw [ok3.sz,ok3.dm]
     have:=ok3.rm
     simp;rfl'
    have sb2:Heap.SameBut a s.heap ((s.heap.update a (Obj.putSet es1 t2)).update a (Obj.putSet (order.filterMap (es1[·]?)) t3)):=sb1.trans (Xo ..)
    refine wpAny_storeSet_of (s:={ s with heap:=s.heap.update a (Obj.putSet es1 t2),toks:=tk }) ho1 hd1 ?_ (by rw [sz3];exact szl)
    exact Za (h true _ tk ks3 _ _ t3 sb2 ⟨St.pY S1 f3,ok3,by rw [sz3,es1s,m3];rfl',by rw [m3];rfl',ke3.symm,is1 sb2 kp3,((kp3.map _).nodup_iff).mpr nd1,fun z=>by rw [l3,q4,ld1];exact hS.led z⟩ (fun z=>absurd z hm) fun _=>kp3.trans kp)
   ·rw [full,Zp hf,if_neg (by decide)]
    exact Za (h true _ tk ks1 es1 (ep+1) t2 sb1 ⟨S1,ok2,by rw [es1s,q1,mk1];rfl',by rw [q1,mk1];exact hS.ms,es1l,is1 sb1 (.refl _),nd1,fun z=>by rw [q4,ld1];exact hS.led z⟩ (fun z=>absurd z hm) fun _=>kp)
  split
  ·refine Qb (hc.hv hk fun bv=> ?_)
   cases bv with
   | true=>exact tail t1 rfl rfl rfl rfl
   | false=>exact tail { t1 with plain:=false } rfl rfl rfl rfl
  ·exact Qb (Za (tail t1 rfl rfl rfl rfl))
theorem SetK.at' {h h':Heap} {a:Addr} {ks:List (K×Addr)} {es:Array (Int×Value)} {ep:Nat} {t:SetTable} (x:SetK knd h a ks es ep t) (e: ∀o,h.get? a=some o->h'.get? a=some o) (is: ∀p∈ks,knd.is h' p.1 p.2):SetK knd h' a ks es ep t:=
 ⟨x.at_.at' e,x.ok,x.lo,x.ms,x.ee,is,x.nd,x.led⟩
theorem zL (hc:Calm knd) (hu:knd.room A.in1) {a I l:Addr} {items:Array Value} {zs:List (K×Addr)} {R:Result->Shared->Prop} (hh:A.handled=none) (hIl:l≠I) (hIa:a≠I) (hla:l≠a) (hs:items.toList=zs.map fun z=>Value.ref z.2) (hz:zs.length<=2600):
  ∀ (k i:Nat) (s:Shared) (ks:List (K×Addr)) (es:Array (Int×Value)) (ep:Nat) (t:SetTable),items.size-i=k->i<=items.size->(s.heap.IsListIter I l i/\s.heap.IsList l items)->SetK knd s.heap a ks es ep t->(∀z∈zs,knd.is s.heap z.1 z.2)->(∀p∈ks,p∈zs)->(∀z∈zs.take i,z.1∈ks.map (·.1))->ks.length<=i->
  (∀h' tk ks es ep t,(∀b o,b∉[a,I]->s.heap.get? b=some o->h'.get? b=some o)->SetK knd h' a ks es ep t->(∀p∈ks,p∈zs)->(∀z∈zs,z.1∈ks.map (·.1))->R (.ok (.ret .none)) { s with heap:=h',toks:=tk })->
  codeAny (model prog w) A (.builtin "set.update.loop" ⟨[.ref a, .ref I],[]⟩) R s:=by
 have hlen:items.size=zs.length:=by rw [<- Yd,hs,Qr]
 have W:=Walks.list (prog:=prog) (w:=w) (A:=A.in1) hh I l hIl items
 intro k
 induction k with
 | zero=>
  intro i s ks es ep t hk hi st hS his hm1 hm2 hl hR
  have hin:i=items.size:=by rfl'
  subst hin
  refine Wo St.jZ ?_
  rw [Xw St.gY _]
  show wpAny _ A.in1 (pyNext (.ref I) >>= _) _ _ s
  refine Qb (W.done s _ _ st fun h' tk hk'=> ?_)
  obtain ⟨oI,hoI,hcI,_⟩:=st.1
  have isI: ∀ {k b},knd.is s.heap k b->knd.is h' k b:=fun x=>hc.kp x hoI (by rw [hcI];decide) fun c o' hcn e=>hk' c o' (by simpa using hcn) e
  exact Za (hR h' tk ks es ep t (fun b o hb e=>hk' b o (fun z=>hb (Zs _ z)) e) (hS.at' (fun o e=>hk' a o (by simpa using hIa) e) fun p mp=>isI (hS.is p mp)) hm1 (by rw [hlen,Wp] at hm2;exact hm2))
 | succ k ih=>
  intro i s ks es ep t hk hi st hS his hm1 hm2 hl hR
  have hlt:i<items.size:=by rfl'
  refine Wo St.jZ ?_
  rw [Xw St.gY _]
  show wpAny _ A.in1 (pyNext (.ref I) >>= _) _ _ s
  obtain ⟨oI,hoI,hcI,_⟩:=st.1
  refine Qb (W.item i s _ _ hlt st fun v h' tk hv st' hk'=> ?_)
  have isI: ∀ {k b},knd.is s.heap k b->knd.is h' k b:=fun x=>hc.kp x hoI (by rw [hcI];decide) fun c o' hcn e=>hk' c o' (by simpa using hcn) e
  rw [<- Yr,hs,Zd] at hv
  obtain ⟨z,hz1,rfl⟩:=Yn.mp hv
  have mz:=Zj hz1
  have hS':=hS.at' (h':=h') (fun o e=>hk' a o (by simpa using hIa) e) fun p mp=>isI (hS.is p mp)
  have hes:es.size=ks.length:=by rw [<- Yd,hS.ee,Qr]
  obtain ⟨oa,hoa,hca,_⟩:=id hS'.at_
  refine Qb (Xp (Fw (s:={ s with heap:=h',toks:=tk }) hS' hc hu (isI (his z mz)) (by rw [hes];rfl') fun b h2 tk2 ks2 es2 ep2 t2 sb S2 q1 q2=> ?_))
  have isA: ∀ {k b},knd.is h' k b->knd.is h2 k b:=fun x=>hc.kp x hoa (by rw [hca.1];decide) fun c o' hcn e=>sb.extBut c o' hcn e
  refine Za ⟨plainId_quiet St.gY _,ih (i+1) _ ks2 es2 ep2 t2 (by rfl') hlt ⟨st'.1.at fun o e=>sb.extBut I o (Ne.symm hIa) e,st'.2.at fun o e=>sb.extBut l o hla e⟩ S2 (fun z' mz'=>isA (isI (his z' mz'))) (fun p mp=> ?_) (fun z' mz'=> ?_) ?_ fun h3 tk3 ks3 es3 ep3 t3 hk3 S3 hm3 hm4=> ?_⟩
  ·by_cases c:z.1∈ks.map (·.1)
   ·rw [q1 c] at mp;exact hm1 p mp
   ·rcases Yc.mp ((q2 c).mem_iff.mp mp) with m | m
    ·exact hm1 p m
    ·rw [Zf.mp m];exact mz
  ·rw [Yz,hz1] at mz'
   by_cases c:z.1∈ks.map (·.1)
   ·rw [q1 c]
    rcases Yc.mp mz' with m | m
    ·exact hm2 z' m
    ·rw [Zf.mp m];exact c
   ·rw [((q2 c).map _).mem_iff,Zw]
    rcases Yc.mp mz' with m | m
    ·exact Xf _ (hm2 z' m)
    ·rw [Zf.mp m];exact Yi _ (by simp)
  ·by_cases c:z.1∈ks.map (·.1)
   ·rw [q1 c];rfl'
   ·rw [(q2 c).length_eq,Zn];simp;rfl'
  ·exact hR h3 tk3 ks3 es3 ep3 t3 (fun b o hb e=>hk3 b o hb (sb.extBut b o (fun z=>hb (by simp [z])) (hk' b o (fun z=>hb (Zs _ z)) e))) S3 hm3 hm4
theorem Fx {a:Addr} {led:Bool} {h:Heap} (hl:w.params.followText "set-order"=false->led=true) (x:h.get? a=some { cls:= .type "set",dict:=none,data:= .set #[] 0 (.fresh 0 0 led) }):SetK knd h a [] #[] 0 (.fresh 0 0 led):=
 ⟨⟨_,x,⟨rfl,rfl,rfl⟩,rfl,rfl⟩,Tb.zz 0 0 led,show 0*5<7*3 by decide, .inl rfl,rfl,fun p mp=>(nomatch mp),List.nodup_nil,hl⟩
theorem Ow (hc:Calm knd) (hu:knd.room A.in1) {a l:Addr} {items:Array Value} {zs:List (K×Addr)} {led:Bool} {Q:Shared->Prop} (hh:A.handled=none) (hS:SetK knd s.heap a [] #[] 0 (.fresh 0 0 led)) (hl:s.heap.IsList l items) (hla:l≠a) (hs:items.toList=zs.map fun z=>Value.ref z.2) (hz:zs.length<=2600) (his: ∀z∈zs,knd.is s.heap z.1 z.2)
  (h: ∀h' tk ls es ep t,(∀b o,b≠a->s.heap.get? b=some o->h'.get? b=some o)->SetK knd h' a ls es ep t->(∀p∈ls,p∈zs)->(∀z∈zs,z.1∈ls.map (·.1))->Q { s with heap:=h',toks:=tk }):
  wpAny (model prog w) A (Builtin.«set.__init__» ⟨[.ref a, .ref l],[]⟩) (fun fin s'=>fin= .done (.ret .none)/\Q s') E s:=by
 have hT:=hS.at_.typeIs
 obtain ⟨o,ho,hcx,hd,hf⟩:=id hS.at_
 have hTl:s.TypeIs (.ref l) "list":=hl.typeIs
 unfold Builtin.«set.__init__» noKeywords
 have e1:isSubtype (.type "list") (.type "set")=pure false:=by rw [isSubtype_type];kernel_rfl
 have e2:isSubtype (.type "list") (.type "frozenset")=pure false:=by rw [isSubtype_type];kernel_rfl
 wp_walk
 rw [hd]
 refine Za (Za ?_)
 show wpAny _ _ (Builtin.Frozenset.updateFrom "set.__init__" a (.ref l) >>= fun _=>ret .none) _ _ s
 refine Qb ?_
 unfold Builtin.Frozenset.updateFrom Builtin.Frozenset.isAnySet
 refine Qb (Qb (Xm (b:=false) hTl e1 ?_))
 show wpAny _ _ (isInstance (.ref l) (.type "frozenset")) _ _ _
 refine Xm (b:=false) hTl e2 ?_
 simp only [Ze,↓reduceIte]
 refine Qb (wpAny_typeOf hTl ?_)
 rw [if_neg (by decide)]
 refine Qb (wpAny_pyIter_list hl ?_)
 have hll:l<s.heap.objs.size:=let ⟨_,x,_⟩:=hl;Zk x
 have hal:a<s.heap.objs.size:=Zk ho
 refine Qb (wpAny_runValue (zL hc hu hh (Yh hll) (Yh hal) hla hs hz items.size 0 _ [] #[] 0 _ (Nat.sub_zero _) (Yp _) ⟨⟨_,Zm _ rfl,rfl,rfl⟩,hl.at fun o e=>Zb _ e⟩ (hS.at' (fun o e=>Zb _ e) fun p mp=>(nomatch mp)) (fun z mz=>hc.ke (his z mz) fun c o' e=>Zb _ e) (fun p mp=>(nomatch mp)) (fun z mz=>by rw [List.take_zero] at mz;cases mz) (Yp _) fun h' tk ls es ep t hk S2 hm hm2=> ?_))
 exact Za (Za ⟨rfl,h h' tk ls es ep t (fun b o hb e=>hk b o (by simp;exact ⟨hb,Yh (Zk e)⟩) (Zb _ e)) S2 hm hm2⟩)
theorem wB (hc:Calm knd) (hu: ∀B:Around,B.units<=A.units+8->knd.room B) {l:Addr} {items:Array Value} {zs:List (K×Addr)} {Q:Value->Shared->Prop} (hh:A.handled=none) (hl:s.heap.IsList l items) (hs:items.toList=zs.map fun z=>Value.ref z.2) (hz:zs.length<=2600) (his: ∀z∈zs,knd.is s.heap z.1 z.2)
  (h: ∀h' tk ls es ep t,(∀b o,s.heap.get? b=some o->h'.get? b=some o)->s.heap.objs.size<h'.objs.size->SetK knd h' s.heap.objs.size ls es ep t->(∀p∈ls,p∈zs)->(∀z∈zs,z.1∈ls.map (·.1))->Q (.ref s.heap.objs.size) { s with heap:=h',toks:=tk }):
  wpAny (model prog w) A (call (.type "set") [.ref l]) Q E s:=by
 obtain ⟨c,tl,hmro⟩:=PySem.F.called_set.mro
 have hmade:=PySem.F.called_set.made
 have hsub:=PySem.F.called_set.sub
 refine wpAny_call (codeAny_of_tree ?_)
 show wpAny _ _ (callAny (.type "set") _) _ _ _
 refine Za ⟨Code.quiet_builtin _ (by decide+kernel),Wo PySem.F.entry_type_call ?_⟩
 rw [Around.under_plain (weight_type_call_type "set" [.ref l] []) rfl]
 have h1:=PySem.F.called_set.notType
 have h2:=PySem.F.called_set.canCreate
 have hct:=St.Ou (.ref l)
 repeat (any_goals (first | assumption | wp_step))
 refine codeAny_mono (St.wu (E:=E) (Q₁:=fun obj s₁=>obj= .ref s.heap.objs.size/\s₁={ s with heap:=s.heap.push { cls:= .type "set",dict:=none,data:= .set #[] 0 (.fresh 0 0 (!w.params.followText "set-order")) } }) ⟨rfl,rfl⟩) fun r s₁ hr=> ?_
 cases r with
 | error e=>exact hr
 | ok fl =>
  cases fl with
  | ret obj=>
   obtain ⟨rfl,rfl⟩:=hr
   have hS:(s.heap.push { cls:= .type "set",dict:=none,data:= .set #[] 0 (.fresh 0 0 (!w.params.followText "set-order")) }).get? s.heap.objs.size=some { cls:= .type "set",dict:=none,data:= .set #[] 0 (.fresh 0 0 (!w.params.followText "set-order")) }:=Zm _ rfl
   have hT:Shared.TypeIs { s with heap:=s.heap.push { cls:= .type "set",dict:=none,data:= .set #[] 0 (.fresh 0 0 (!w.params.followText "set-order")) } } (.ref s.heap.objs.size) "set":=⟨_,hS,rfl⟩
   have hli:=PySem.F.called_set.init.lookup
   have hbi:=PySem.F.called_set.init.bind (.ref s.heap.objs.size)
   repeat (any_goals (first | assumption | wp_step))
   have hll:l<s.heap.objs.size:=let ⟨_,x,_⟩:=hl;Zk x
   refine codeAny_mono (codeAny_call_builtin (R:=wants (fun r s₂=>r= .none/\Q (.ref s.heap.objs.size) s₂) E) PySem.F.called_set.init.plain PySem.F.entry_set_init (St.pZ hT ?_)) fun r₂ s₂ hr₂=> ?_
   ·refine Xz (Ow hc (hu _ ?_) (E:=fun e s'=>wants (fun r s₂=>r= .none/\Q (.ref s.heap.objs.size) s₂) E (.error e) s') (Q:=fun s₂=>Q (.ref s.heap.objs.size) s₂) hh (Fx (knd:=knd) (fun hb=>by rw [hb];rfl) hS) (hl.at fun o e=>Zb _ e) (Yh hll) hs hz (fun z mz=>hc.ke (his z mz) fun c o' e=>Zb _ e) fun h' tk ls es ep t hk S2 hm hm2=> ?_) (fun fin s' z=> ?_) fun _ _ z=>z
    ·show A.units+1+1+1<=A.units+8
     rfl'
    ·obtain ⟨_,x,_⟩:=id S2.at_
     exact h h' tk ls es ep t (fun b o e=>hk b o (Yh (Zk e)) (Zb _ e)) (Zk x) S2 hm hm2
    ·obtain ⟨rfl,z⟩:=z
     exact ⟨rfl,z⟩
   ·cases r₂ with
    | error e=>exact hr₂
    | ok fl₂=>
     cases fl₂ with
     | ret r=>
      obtain ⟨rfl,hq⟩:=hr₂
      repeat (any_goals (first | assumption | wp_step))
     | _=>exact hr₂.elim
  | _=>exact hr.elim
end
end Ts
end
section
namespace Ck
open PySem PySem.Spec PyProof.Rows Nk
noncomputable abbrev d7:=Int×dZ
section
variable {prog:Program} {w:World} {A:Around} {E:Value->Shared->Prop} {s:Shared}
noncomputable def IsCk (prog:Program) (w:World) (h:Heap) (k:d7) (a:Addr):Prop:= ∃o n v1 b,h.get? a=some o/\o.cls= .type "tuple"/\o.data= .seq #[v1, .ref b] n/\(intKind prog w).is k.1 v1=true/\IsSt prog w h k.2 b
theorem IsCk.typeIs {k:d7} {a:Addr} (x:IsCk prog w s.heap k a):s.TypeIs (.ref a) "tuple":=let ⟨o,_,_,_,ho,hc,_⟩:=x;⟨o,ho,hc⟩
theorem IsCk.inj {h:Heap} {a:Addr} {x y:d7} (hx:IsCk prog w h x a) (hy:IsCk prog w h y a):x=y:=by
 obtain ⟨o,n,v1,b,ho,_,hd,a1,a3⟩:=hx
 obtain ⟨o',n',u1,b',ho',_,hd',c1,c3⟩:=hy
 obtain rfl:o=o':=Yt (ho.symm.trans ho')
 rw [hd] at hd'
 injection hd' with e1 _
 have e2:=Xr Array.toList e1
 simp only [List.cons.injEq,and_true] at e2
 obtain ⟨rfl,e3⟩:=e2
 cases e3
 exact Prod.ext ((intKind prog w).inj _ _ _ a1 c1) (a3.inj c3)
theorem IsCk.keeps {h h':Heap} {k:d7} {a d:Addr} {o:Obj} {es ep} (x:IsCk prog w h k a) (ho:h.get? d=some o) (hd:o.data= .dict es ep) (hs:Heap.SameBut d h h'):IsCk prog w h' k a:=by
 obtain ⟨o',n,v1,b,ho',hc,hd',a1,a3⟩:=x
 have hne:a≠d:=by
  rintro rfl
  obtain rfl:o'=o:=Yt (ho'.symm.trans ho)
  rw [hd] at hd';exact nomatch hd'
 exact ⟨o',n,v1,b,(hs.2 a hne).trans ho',hc,hd',a1,a3.keeps ho hd hs⟩
noncomputable def q9 (k:d7):Int:=reduceHash (Builtin.Tuple.tupleHashOf [hashInt k.1,fV k.2])
theorem Fy {k:d7} {a:Addr} {Q:Int->Shared->Prop} (hu:A.units+2<cLine) (hk:IsCk prog w s.heap k a) (h:Q (q9 k) { s with toks:=s.toks+(k.2.2.2.length+6) }):wpAny (model prog w) A (pyHash (.ref a)) Q E s:=by
 have hT:=hk.typeIs
 obtain ⟨o,n,v1,b,ho,_,hd,a1,a3⟩:=hk
 unfold pyHash
 first | unfold pyHashByItsType | skip
 first | refine Qb (wpAny_cRoomFor_or (.inr (by rfl')) ?_) | skip
 refine Qb (Wn hT F.slot_tuple_hash.lookup ?_)
 show wpAny _ _ (if (some (Value.builtin "tuple.__hash__")==some Value.none)=true then _ else _) Q E s
 rw [if_neg (by rw [beq_builtin_none];exact Zl)]
 refine Qb (Wn hT F.slot_tuple_hash.lookup ?_)
 show wpAny _ _ (callSpecialIfBoundUnlessNone? (.ref a) "__hash__" _ >>= _) Q E s
 refine Qb (wpAny_callSpecialIfBoundUnlessNone?_slot hT F.slot_tuple_hash (Yy F.slot_tuple_hash hT F.entry_tuple_hash ?_ (F.args_tuple_hash_1 _)))
 show wpAny _ _ (Builtin.Tuple.tupleItemsOf (.ref a) >>= _) _ _ s
 refine Qb (wpAny_tupleItemsOf ho hd ?_)
 refine Qb ?_
 rw [<- Ww]
 show wpAny _ _ (forIn [v1,Value.ref b] _ _) _ _ s
 have in1:A.in1.units+1<cLine:=by show A.units+1+1<cLine;exact hu
 rw [Yo]
 refine Qb (Qb ((intKind prog w).pyHash a1 (Za ?_)))
 show wpAny _ _ (forIn [Value.ref b] _ _) _ _ _
 rw [Yo]
 refine Qb (Qb (uG in1 a3 (Za ?_)))
 show wpAny _ _ (forIn [] _ _) _ _ _
 rw [List.forIn_nil]
 refine Za ?_
 show wpAny _ _ (retInt (Builtin.Tuple.tupleHashOf [hashInt k.1,fV k.2])) _ _ _
 refine wpAny_ret_mkInt ?_
 show wpAny _ _ (if (decide (-(2:Int)^63<=Builtin.Tuple.tupleHashOf [hashInt k.1,fV k.2])&&decide (Builtin.Tuple.tupleHashOf [hashInt k.1,fV k.2]<2^63))=true then _ else _) Q E _
 have hh: ∀x:Nat,x=s.toks+(k.2.2.2.length+6)->Q (q9 k) { s with toks:=x }:=fun x e=>by rw [e];exact h
 unfold q9 at hh
 unfold reduceHash at hh
 by_cases hr:(decide (-(2:Int)^63<=Builtin.Tuple.tupleHashOf [hashInt k.1,fV k.2])&&decide (Builtin.Tuple.tupleHashOf [hashInt k.1,fV k.2]<2^63))=true
 ·rw [if_pos hr]
  rw [if_pos hr] at hh
  exact Za (hh _ (by dsimp only;rfl'))
 ·rw [if_neg hr]
  rw [if_neg hr] at hh
  exact Qb (Wb (Za (hh _ (by dsimp only;rfl'))))
theorem su {x y:d7} {a b:Addr} {P:PySem.Fin->Shared->Prop} (hu:A.units+1<cLine) (hx:IsCk prog w s.heap x a) (hy:IsCk prog w s.heap y b) (h:P (.done (.ret (.bool (decide (x=y))))) s):
  wpAny (model prog w) A (Builtin.«tuple.__eq__» ⟨[.ref a, .ref b],[]⟩) P E s:=by
 have hTb:=hy.typeIs
 obtain ⟨oa,na,v1,c,hoa,_,hda,a1,a3⟩:=hx
 obtain ⟨ob,nb,u1,d,hob,_,hdb,b1,b3⟩:=hy
 show wpAny _ _ (isInstance (.ref b) (.type "tuple") >>= _) _ _ s
 refine Qb (Xm hTb Wt ?_)
 simp only [Yl,Ze,Xg]
 refine Qb (wpAny_tupleItemsOf hoa hda ?_)
 refine Qb (wpAny_tupleItemsOf hob hdb ?_)
 refine Qb ?_
 show wpAny _ _ (forIn [(v1,u1),(Value.ref c,Value.ref d)] _ _) _ _ s
 obtain ⟨x1,x3⟩:=x
 obtain ⟨y1,y3⟩:=y
 dsimp only at a1 a3 b1 b3
 have no: ∀ {q:Bool},q=false->P (.done (.ret (.bool q))) s->P (.done (.ret (.bool false))) s:=fun e h=>e▸h
 rw [Yo]
 refine Qb (Qb ((intKind prog w).eqBool (a:=x1) (b:=y1) a1 b1 ?_))
 by_cases e1:x1=y1
 ·subst e1
  rw [Ym rfl]
  simp only [Yl,Ze,Xg]
  refine Za ?_
  show wpAny _ _ (forIn [(Value.ref c,Value.ref d)] _ _) _ _ s
  rw [Yo]
  refine Qb (Qb (yX hu a3 b3 ?_))
  by_cases e3:x3=y3
  ·subst e3
   rw [Ym rfl]
   simp only [Yl,Ze,Xg]
   refine Za ?_
   show wpAny _ _ (forIn [] _ _) _ _ s
   rw [List.forIn_nil]
   refine Za ?_
   rw [Ym rfl] at h
   exact Za h
  ·rw [Zp e3]
   simp only [Bool.not_false,if_true]
   exact Qb (Za (Za (Za (Za (no (Zp fun z=>e3 (by cases z;rfl)) h)))))
 ·rw [Zp e1]
  simp only [Bool.not_false,if_true]
  exact Qb (Za (Za (Za (Za (no (Zp fun z=>e1 (by cases z;rfl)) h)))))
theorem Ox {x y:d7} {a b:Addr} {Q:Bool->Shared->Prop} (hu:A.units+2<cLine) (hx:IsCk prog w s.heap x a) (hy:IsCk prog w s.heap y b) (h:Q (decide (x=y)) s):wpAny (model prog w) A (eqBool (.ref a) (.ref b)) Q E s:=by
 unfold eqBool
 try with_reducible refine Xp ?_
 show wpAny _ _ (if (Value.ref a==Value.ref b)=true then _ else _) Q E s
 by_cases hab:(Value.ref a==Value.ref b)=true
 ·rw [if_pos hab]
  have e:a=b:=by have:=eq_of_beq hab;injection this
  subst e
  obtain rfl:=hx.inj hy
  exact Qb (Wb (Za (by simpa using h)))
 ·rw [if_neg hab]
  exact Qb (wpAny_richCompare_same_room (op:= .Eq) hx.typeIs hy.typeIs F.slot_tuple_eq
   (Yy F.slot_tuple_eq hx.typeIs F.entry_tuple_eq (su (by show A.units+1+1<cLine;exact hu) hx hy ⟨_,rfl,(fun e=>nomatch e),wpAny_truthy_bool h⟩) (F.args_tuple_eq_2 _ _)) (by rfl'))
theorem wC {n:Nat} {ks:List Int} {a:Addr} {Q:Bool->Shared->Prop} (hk:IsTupleKey (intKind prog w) s.heap ks a) (h:Q true s):wpAny (model prog w) A (eqIsQuiet (n+1) (.ref a)) Q E s:=by
 have hT:=hk.typeIs
 obtain ⟨o,its,m,ho,_,hd,hi⟩:=hk
 unfold eqIsQuiet
 refine Qb (Wn hT F.slot_tuple_eq.lookup ?_)
 show wpAny _ _ (isInstance (.ref a) (.type "tuple") >>= _) _ _ s
 refine Qb (Xm hT Wt ?_)
 simp only [Yl,Ze,Xg]
 refine Qb (Xu ho hd ?_)
 refine Qb ?_
 show wpAny _ _ (forIn its _ _) _ _ s
 rw [<- Ww]
 refine wpAny_forIn_list _ (fun rest r s1=>r.1=none/\s1=s/\ ∀v∈rest,carriedByValue v=true) _ ?_ ?_ _ _ ⟨rfl,rfl,hi.byValue⟩
 ·rintro v rest r s1 ⟨hr,rfl,hall⟩
  rw [eqIsQuiet_byValue _ (hall v Zq)]
  refine Qb (Za ?_)
  simp only [Yl,Ze,Xg]
  exact Za ⟨rfl,rfl,fun u m=>hall u (Zs _ m)⟩
 ·rintro ⟨r1,r2⟩ s1 ⟨hr,rfl,_⟩
  simp only at hr
  subst hr
  exact Za h
theorem wD {n:Nat} {a b:Addr} {v1:Value} {o:Obj} {m:Nat} {Q:Bool->Shared->Prop} (ho:s.heap.get? a=some o) (hc:o.cls= .type "tuple") (hd:o.data= .seq #[v1, .ref b] m) (a1:carriedByValue v1=true) (a3: ∀ {Q:Bool->Shared->Prop},Q true s->wpAny (model prog w) A (eqIsQuiet n (.ref b)) Q E s) (h:Q true s):wpAny (model prog w) A (eqIsQuiet (n+1) (.ref a)) Q E s:=by
 have hT:s.TypeIs (.ref a) "tuple":=⟨o,ho,hc⟩
 unfold eqIsQuiet
 refine Qb (Wn hT F.slot_tuple_eq.lookup ?_)
 show wpAny _ _ (isInstance (.ref a) (.type "tuple") >>= _) _ _ s
 refine Qb (Xm hT Wt ?_)
 simp only [Yl,Ze,Xg]
 refine Qb (Xu ho hd ?_)
 refine Qb ?_
 show wpAny _ _ (forIn #[v1,Value.ref b] _ _) _ _ s
 rw [<- Ww]
 show wpAny _ _ (forIn [v1,Value.ref b] _ _) _ _ s
 rw [Yo,eqIsQuiet_byValue _ a1]
 refine Qb (Qb (Za ?_))
 simp only [Yl,Ze,Xg]
 refine Za ?_
 show wpAny _ _ (forIn [Value.ref b] _ _) _ _ s
 rw [Yo]
 refine Qb (Qb (a3 ?_))
 simp only [Yl,Ze,Xg]
 refine Za ?_
 show wpAny _ _ (forIn [] _ _) _ _ s
 rw [List.forIn_nil]
 exact Za (Za h)
theorem qb {n:Nat} {a b:Addr} {v1 v2:Value} {o:Obj} {m:Nat} {Q:Bool->Shared->Prop} (ho:s.heap.get? a=some o) (hc:o.cls= .type "tuple") (hd:o.data= .seq #[v1,v2, .ref b] m) (a1:carriedByValue v1=true) (a2:carriedByValue v2=true) (a3: ∀ {Q:Bool->Shared->Prop},Q true s->wpAny (model prog w) A (eqIsQuiet n (.ref b)) Q E s) (h:Q true s):wpAny (model prog w) A (eqIsQuiet (n+1) (.ref a)) Q E s:=by
 have hT:s.TypeIs (.ref a) "tuple":=⟨o,ho,hc⟩
 unfold eqIsQuiet
 refine Qb (Wn hT F.slot_tuple_eq.lookup ?_)
 show wpAny _ _ (isInstance (.ref a) (.type "tuple") >>= _) _ _ s
 refine Qb (Xm hT Wt ?_)
 simp only [Yl,Ze,Xg]
 refine Qb (Xu ho hd ?_)
 refine Qb ?_
 show wpAny _ _ (forIn #[v1,v2,Value.ref b] _ _) _ _ s
 rw [<- Ww]
 show wpAny _ _ (forIn [v1,v2,Value.ref b] _ _) _ _ s
 rw [Yo,eqIsQuiet_byValue _ a1]
 refine Qb (Qb (Za ?_))
 simp only [Yl,Ze,Xg]
 refine Za ?_
 show wpAny _ _ (forIn [v2,Value.ref b] _ _) _ _ s
 rw [Yo,eqIsQuiet_byValue _ a2]
 refine Qb (Qb (Za ?_))
 simp only [Yl,Ze,Xg]
 refine Za ?_
 show wpAny _ _ (forIn [Value.ref b] _ _) _ _ s
 rw [Yo]
 refine Qb (Qb (a3 ?_))
 simp only [Yl,Ze,Xg]
 refine Za ?_
 show wpAny _ _ (forIn [] _ _) _ _ s
 rw [List.forIn_nil]
 exact Za (Za h)
theorem zM {k:d7} {a:Addr} {Q:Bool->Shared->Prop} (hk:IsCk prog w s.heap k a) (h:Q true s):wpAny (model prog w) A (eqIsQuiet 8 (.ref a)) Q E s:=by
 obtain ⟨o,n,v1,b,ho,hc,hd,a1,⟨o',n',u1,u2,b',ho',hc',hd',c1,c2,c3⟩⟩:=hk
 exact wD (n:=7) ho hc hd ((intKind prog w).byValue _ _ a1) (fun q=>qb (n:=6) ho' hc' hd' ((intKind prog w).byValue _ _ c1) ((intKind prog w).byValue _ _ c2) (fun q=>wC (n:=5) c3 q) q) h
end
noncomputable def iW (prog:Program) (w:World):HeapKind prog w d7 where
 is:=IsCk prog w
 hash:=q9
 draws:=fun k=>k.2.2.2.length+6
 room:=fun A=>A.units+2<cLine
 inj:=fun hx hy=>hx.inj hy
 keeps:=fun x ho hd hs=>x.keeps ho hd hs
 pyHash:=fun hu hk h=>Fy hu hk h
 eqBool:=fun hu hx hy h=>Ox hu hx hy h
 quiet:=fun hk h=>zM hk h
end Ck
end
section
namespace Ts
open PySem PySem.Spec PyProof.Rows
noncomputable def fB (xs:Array Nat) (i:Nat):Nat:=if i=0 then 0 else xs.getD (i-1) 0+1
theorem kI {xs:Array Nat} (as:Tb.ww xs) {i:Nat} (hi:i<=xs.size):SetTable.below xs (fB xs i)=i:=by
 obtain ⟨h1,h2,h3⟩:=Tb.fY as (fB xs i)
 generalize SetTable.below xs (fB xs i)=b at h1 h2 h3 ⊢
 unfold fB at h2 h3
 by_cases e:i=0
 ·rw [if_pos e] at h2
  rcases Nat.eq_zero_or_pos b with z | z
  ·rfl'
  ·exact absurd (h2 0 z) (Nat.not_lt_zero _)
 ·rw [if_neg e] at h2 h3
  rcases Nat.lt_trichotomy b i with z | z | z
  ·have:=h3 (i-1) (by rfl') (by rfl');rfl'
  ·exact z
  ·have:=h2 i z
   have:=as (i-1) i (by rfl') (by rfl')
   rfl'
section
variable {prog:Program} {w:World} {A:Around} {E:Value->Shared->Prop} {s:Shared}
theorem qd (hh:A.handled=none) {I a:Addr} (hne:a≠I) {es:Array (Int×Value)} {ep:Nat} {t:SetTable} (hb:w.params.followText "set-order"=false) (hl:t.led=true) (hp:t.plain=true) (as:Tb.ww t.place) (hz:t.place.size=es.size):
  Walks prog w A I [I,a] [I] es.size (fun i v=> ∃h,es[i]? =some (h,v)) (fun i h=>St.ItAt h I (.int (fB t.place i:Nat) 0) i a es.size ep/\St.SetAt h a es ep t) where
 sub:=fun b hb=>by simp at hb;simp [hb]
 frame:=fun _ _ _ st hk=>⟨st.1.at' fun o e=>hk I (by simp) o e,st.2.at' fun o e=>hk a (by simp) o e⟩
 item:=fun i s Q E hi st hQ=>by
  have hi':i<t.place.size:=by rw [hz];exact hi
  have es1:fB t.place (i+1)=t.place[i]+1:=by
   show t.place.getD (i+1-1) 0+1=_
   rw [Nat.add_sub_cancel,Yu,Zi hi'];rfl
  refine St.jW (k:=fB t.place i) (nx:=fB t.place (i+1)) (x:=es[i].2) st.1 st.2 (fun A E Q q=>St.fX st.2 hb (by simp [hp]) (by simp [hl]) ?_) fun h' hit' hs'=> ?_
  ·rw [kI as (Xq hi'),Zi hi,Zi hi'];rw [es1] at q;exact q
  ·exact hQ _ h' s.toks ⟨_,Zi hi⟩ ⟨hit',st.2.at' fun o e=>hs'.extBut a o hne e⟩ fun b o hb e=>hs'.extBut b o (fun h=>hb (by simp [h])) e
 done:=fun s Q E st hQ=>by
  refine St.end_int (k:=fB t.place es.size) hh st.1 st.2 (fun A E Q q=>St.fX st.2 hb (by simp [hp]) (by simp [hl]) ?_) fun h' he'=>hQ h' s.toks fun b o hb e=>he' b o (fun h=>hb (by simp [h])) e
  rw [kI as (by rw [hz];exact Zh _),Xv (Zh _)];exact q
 self:=fun _ _ _ _ st hQ=>St.iy st.1 hQ
theorem wF {a:Addr} {es:Array (Int×Value)} {ep:Nat} {t:SetTable} (hl:w.params.followText "set-order"=false->t.led=true) (hp:t.plain=true) (as:Tb.ww t.place) (hz:t.place.size=es.size):St.oV prog w a es ep t:=by
 intro A E s Q hh hS h
 have hlt:a<s.heap.objs.size:=let ⟨_,ho,_⟩:=hS;Zk ho
 have fp: ∀b∈[s.heap.objs.size,a],b=a\/s.heap.objs.size<=b:=by
  intro b hb
  simp at hb
  rcases hb with rfl | rfl
  ·exact .inr (Zh _)
  ·exact .inl rfl
 cases hb:w.params.followText "set-order" with
 | true=>exact St.fW hS (by rw [hb];rfl) (h _ _ ⟨⟨_,_,_,St.jX (es:=es) (ep:=ep) (t:=t) hh (Yh hlt) hb,⟨⟨_,Zm _ rfl,rfl,rfl⟩,hS.at' fun o e=>Zb _ e⟩,fp,fun acc ha=>St.jY (St.gF _ _) ha⟩,fun b o e=>Zb _ e,Zh _,s.drawn,rfl⟩)
 | false=>exact St.fW hS (by rw [hp];simp) (h _ _ ⟨⟨_,_,_,qd (es:=es) (ep:=ep) (t:=t) hh (Yh hlt) hb (hl hb) hp as hz,⟨⟨_,Zm _ rfl,rfl,rfl⟩,hS.at' fun o e=>Zb _ e⟩,fp,fun acc ha=>St.jY (.refl _) ha⟩,fun b o e=>Zb _ e,Zh _,s.drawn,rfl⟩)
theorem SetK.itr {K:Type} [DecidableEq K] {knd:HeapKind prog w K} {h:Heap} {a:Addr} {ks:List (K×Addr)} {es:Array (Int×Value)} {ep:Nat} {t:SetTable} (x:SetK knd h a ks es ep t) (hz:es.size<=sizeLine):St.oV prog w a es ep t:=by
 cases hp:t.plain with
 | true=>exact wF x.led hp x.ok.as x.ok.sz
 | false=>exact fun hh hS h=>St.zb hh hS hz x.led (fun _=>hp) h
end
end Ts
namespace Ck
open PySem PySem.Spec PyProof.Rows Nk
section
variable {prog:Program} {w:World} {A:Around} {E:Value->Shared->Prop} {s:Shared}
theorem cls_val {n:Nat} {v:Value} (h:carriedByValue v=true):ofAClassStatement n v=pure false:=by
 cases v<;>first | (cases n<;>rfl) | cases h
theorem FJ {n:Nat} {a:Addr} {o:Obj} {its:Array Value} {m:Nat} {Q:Bool->Shared->Prop} (ho:s.heap.get? a=some o) (hc:o.cls= .type "tuple") (hd:o.data= .seq its m) (hi: ∀v∈its.toList,∀ {Q:Bool->Shared->Prop},Q false s->wpAny (model prog w) A (ofAClassStatement n v) Q E s) (h:Q false s):wpAny (model prog w) A (ofAClassStatement (n+1) (.ref a)) Q E s:=by
 have hT:s.TypeIs (.ref a) "tuple":=⟨o,ho,hc⟩
 unfold ofAClassStatement
 refine Qb (wpAny_typeOf hT ?_)
 show wpAny _ _ (pure true >>= _) _ _ _
 refine Qb (Za ?_)
 simp only [Yl,Ze,Xg]
 refine Qb (Xu ho hd ?_)
 show wpAny _ _ (forIn its _ _ >>= _) _ _ _
 refine Qb ?_
 rw [<- Ww]
 refine wpAny_forIn_list _ (fun rest r s1=>r.1=none/\s1=s/\ ∀v∈rest,v∈its.toList) _ ?_ ?_ _ _ ⟨rfl,rfl,fun _ m=>m⟩
 ·rintro v rest r s1 ⟨hr,rfl,hall⟩
  refine Qb (hi v (hall v Zq) ?_)
  simp only [Ze,Xg]
  exact Za ⟨rfl,rfl,fun u m=>hall u (Zs _ m)⟩
 ·rintro ⟨r1,r2⟩ s1 ⟨hr,rfl,_⟩
  simp only at hr
  subst hr
  exact Za h
theorem FN {n:Nat} {a:Addr} {o:Obj} {its:Array Value} {m:Nat} {Q:Bool->Shared->Prop} (ho:s.heap.get? a=some o) (hc:o.cls= .type "tuple") (hd:o.data= .seq its m) (hi: ∀v∈its.toList,∀ {Q:Bool->Shared->Prop},(∀b,Q b s)->wpAny (model prog w) A (hashByValue n v) Q E s) (h: ∀b,Q b s):wpAny (model prog w) A (hashByValue (n+1) (.ref a)) Q E s:=by
 have hT:s.TypeIs (.ref a) "tuple":=⟨o,ho,hc⟩
 unfold hashByValue
 refine Qb (Wn hT F.slot_tuple_hash.lookup ?_)
 show wpAny _ _ (seqItems? (.ref a) >>= _) _ _ _
 refine Qb (Xu ho hd ?_)
 show wpAny _ _ (forIn its _ _ >>= _) _ _ _
 refine Qb ?_
 rw [<- Ww]
 refine wpAny_forIn_list _ (fun rest r s1=>s1=s/\ ∀v∈rest,v∈its.toList) _ ?_ ?_ _ _ ⟨rfl,fun _ m=>m⟩
 ·rintro v rest r s1 ⟨rfl,hall⟩
  refine Qb (hi v (hall v Zq) fun b=> ?_)
  cases b with
  | true=>
   simp only [Yl,Ze,Xg]
   exact Za ⟨rfl,fun u m=>hall u (Zs _ m)⟩
  | false=>
   simp only [Bool.not_false,if_true]
   exact Za (Za (h false))
 ·rintro ⟨r1,r2⟩ s1 ⟨rfl,_⟩
  cases r1 with
  | none=>exact Za (h true)
  | some b=>exact Za (h b)
theorem FP {n:Nat} {v:Value} {Q:Bool->Shared->Prop} (h:carriedByValue v=true) (q: ∀b,Q b s):wpAny (model prog w) A (hashByValue n v) Q E s:=by
 cases v<;>first | (cases n<;>exact Za (q _)) | cases h
theorem qe {k:d7} {a:Addr} (hk:IsCk prog w s.heap k a) {C:Nat->Value->Prop} (hv: ∀ {n v},carriedByValue v=true->C n v) (ht: ∀ {n a o its m},s.heap.get? a=some o->o.cls= .type "tuple"->o.data= .seq its m->(∀v∈its.toList,C n v)->C (n+1) (.ref a)):C 8 (.ref a):=by
 obtain ⟨o,n,v1,b,ho,hc,hd,a1,⟨o',n',u1,u2,b',ho',hc',hd',c1,c2,⟨o2,its2,n2,f1,f2,f3,f4⟩⟩⟩:=hk
 refine ht ho hc hd fun v mv=> ?_
 rcases Zu.mp mv with rfl | mv
 ·exact hv ((intKind prog w).byValue _ _ a1)
 rcases Zu.mp mv with rfl | mv
 ·refine ht ho' hc' hd' fun v mv=> ?_
  rcases Zu.mp mv with rfl | mv
  ·exact hv ((intKind prog w).byValue _ _ c1)
  rcases Zu.mp mv with rfl | mv
  ·exact hv ((intKind prog w).byValue _ _ c2)
  rcases Zu.mp mv with rfl | mv
  ·exact ht f1 f2 f3 fun v mv=>hv (f4.byValue v mv)
  ·cases mv
 ·cases mv
theorem iB {h h':Heap} {k:d7} {a:Addr} (hk:IsCk prog w h k a) (e: ∀c o',h.get? c=some o'->o'.cls= .type "tuple"->h'.get? c=some o'):IsCk prog w h' k a:=by
 obtain ⟨o,n,v1,b,ho,hc,hd,a1,⟨o',n',u1,u2,b',ho',hc',hd',c1,c2,⟨o2,its2,n2,f1,f2,f3,f4⟩⟩⟩:=hk
 exact ⟨o,n,v1,b,e _ _ ho hc,hc,hd,a1,⟨o',n',u1,u2,b',e _ _ ho' hc',hc',hd',c1,c2,⟨o2,its2,n2,e _ _ f1 f2,f2,f3,f4⟩⟩⟩
end
theorem FQ (prog:Program) (w:World):Ts.Calm (iW prog w) where
 cs:=fun {A E s k a Q} hk q=>qe (s:=s) hk (C:=fun n v=> ∀ {Q:Bool->Shared->Prop},Q false s->wpAny (model prog w) A (ofAClassStatement n v) Q E s) (fun hv Q q=>by rw [cls_val hv];exact Za q) (fun ho hc hd hi Q q=>FJ ho hc hd hi q) q
 hv:=fun {A E s k a Q} hk q=>qe (s:=s) hk (C:=fun n v=> ∀ {Q:Bool->Shared->Prop},(∀b,Q b s)->wpAny (model prog w) A (hashByValue n v) Q E s) (fun hv Q q=>FP hv q) (fun ho hc hd hi Q q=>FN ho hc hd hi q) q
 kp:=fun hk ho hc e=>iB hk fun c o' e1 e2=>e c o' (fun z=>hc (by subst z;rw [Yt (ho.symm.trans e1)];exact e2)) e1
 ke:=fun hk e=>iB hk fun c o' e1 _=>e c o' e1
end Ck
end
section
namespace Ck
open PySem PySem.Spec PyProof.Rows Sx Nk
noncomputable def bU (a b:d7):Bool:=if a.1=b.1 then fu a.2 b.2 else decide (a.1<b.1)
theorem Kc (a:d7):bU a a=false:=by unfold bU;rw [if_pos rfl];exact z7 _
theorem FT {a b:d7} (h:bU a b=true):bU b a=false:=by
 unfold bU at h ⊢
 by_cases e:a.1=b.1
 ·rw [if_pos e] at h;rw [if_pos e.symm];exact Fd h
 ·rw [if_neg e] at h;rw [if_neg (Ne.symm e)]
  have:=Wa h
  exact Zp (by rfl')
theorem Kd {a b:d7} (h1:bU a b=false) (h2:bU b a=false):a=b:=by
 unfold bU at h1 h2
 by_cases e:a.1=b.1
 ·rw [if_pos e] at h1;rw [if_pos e.symm] at h2;exact Prod.ext e (K1 h1 h2)
 ·rw [if_neg e] at h1;rw [if_neg (Ne.symm e)] at h2
  have:=Yw h1
  have:=Yw h2
  rfl'
theorem Oz {a b c:d7} (h1:bU b a=false) (h2:bU c b=false):bU c a=false:=by
 unfold bU at h1 h2 ⊢
 by_cases e1:b.1=a.1
 ·rw [if_pos e1] at h1
  by_cases e2:c.1=b.1
  ·rw [if_pos e2] at h2;rw [if_pos (e2.trans e1)];exact Oq h1 h2
  ·rw [if_neg e2] at h2
   have:=Yw h2
   rw [if_neg (by rfl')];exact Zp (by rfl')
 ·rw [if_neg e1] at h1
  have:=Yw h1
  by_cases e2:c.1=b.1
  ·rw [if_neg (by rfl')];exact Zp (by rfl')
  ·rw [if_neg e2] at h2
   have:=Yw h2
   rw [if_neg (by rfl')];exact Zp (by rfl')
section
variable {prog:Program} {w:World} {A:Around} {E:Value->Shared->Prop} {s:Shared} {f:Value->d7}
theorem sE {g:Value->Int} {vs:List Value} (h2:vs≠[]) (ht: ∀v∈vs,∃tk,∀R:Option Value->Shared->Prop,R (some (.int (g v) tk)) s->wpAny (model prog w) A (firstOfTuple' v) R E s):wpAny (model prog w) A (keyKind' vs.toArray) (fun k s'=>s'=s/\k=tuples' true) E s:=by
 rw [keyKind'_eq,List.mapM_toArray]
 let tk:Value->Tok:=fun v=>if hv:v∈vs then (ht v hv).choose else 0
 have htk: ∀v∈vs,∀R:Option Value->Shared->Prop,R (some (.int (g v) (tk v))) s->wpAny (model prog w) A (firstOfTuple' v) R E s:=by
  intro v hv R r
  refine (ht v hv).choose_spec R ?_
  have:tk v=(ht v hv).choose:=dif_pos hv
  rwa [<- this]
 rw [map_eq_pure_bind,bind_assoc]
 refine Qb (jJ (r:=fun v=>some (.int (g v) (tk v))) htk ?_)
 rw [pure_bind]
 have a1:((vs.map fun v=>some (Value.int (g v) (tk v))).toArray.all (·.isSome))=true:=by
  rw [List.all_toArray,List.all_map,List.all_eq_true]
  intro _ _;rfl
 have a2:(vs.map fun v=>some (Value.int (g v) (tk v))).toArray.filterMap id=(vs.map fun v=>Value.int (g v) (tk v)).toArray:=by
  rw [List.filterMap_toArray,List.filterMap_map]
  congr 1
  show vs.filterMap (fun v=>some (Value.int (g v) (tk v)))=_
  rw [List.filterMap_eq_map']
 have a5: ∀us:List Value,(us.map fun v=>Value.int (g v) (tk v)).mapM typeOf=(pure (List.map (fun _=>Value.type "int") (us.map fun v=>Value.int (g v) (tk v))):Sem (List Value)):=by
  intro us
  induction us with
  | nil=>rfl
  | cons u us ih=>
   rw [Zr,List.mapM_cons,ih];rfl
 rw [if_pos a1,a2,oneTypeOnly'_eq,List.mapM_toArray,a5 vs]
 simp only [map_pure,pure_bind]
 refine Qb (Wb ?_)
 obtain ⟨v,vs',rfl⟩:=List.exists_cons_of_ne_nil h2
 have a3:((List.map (fun _=>Value.type "int") ((v::vs').map fun v=>Value.int (g v) (tk v))).toArray.all fun x=>x==Value.type "int")=true:=by
  rw [List.all_toArray,List.all_map,List.all_eq_true]
  intro _ _;rfl
 have a4:(List.map (fun _=>Value.type "int") ((v::vs').map fun v=>Value.int (g v) (tk v))).toArray[0]? =some (Value.type "int"):=by simp
 rw [a4]
 simp only [a3,if_true,pure_bind]
 exact Za ⟨rfl,rfl⟩
noncomputable def Fc (prog:Program) (w:World) (h:Heap) (f:Value->d7) (v:Value):Prop:= ∃a,v= .ref a/\IsCk prog w h (f v) a
theorem zN {vs:List Value} (h2:vs≠[]) (hF: ∀v∈vs,Fc prog w s.heap f v):wpAny (model prog w) A (keyKind' vs.toArray) (fun k s'=>s'=s/\k=tuples' true) E s:=by
 refine sE (g:=fun v=>(f v).1) h2 fun v hv=> ?_
 obtain ⟨a,rfl,o,n,v1,b,ho,hc,hd,a1,_⟩:=hF v hv
 obtain ⟨t1,rfl⟩:=Value.isInt_shape a1
 refine ⟨t1,fun R r=> ?_⟩
 rw [pD]
 refine Qb (wpAny_typeOf_ref ho ?_)
 rw [hc]
 exact Qb (listItems_at ho hd (Za r))
noncomputable def Bc (f:Value->d7) (p q:Keyed):Bool:=bU (f p.1) (f q.1)
theorem Rv:Wk (Bc f):=⟨fun p=>Kc _,fun {p q r} h1 h2=>Oz h1 h2,fun {p q} h=>FT h⟩
theorem Ke (hu:A.units+1<cLine) {vs:List Value} (hF: ∀v∈vs,Fc prog w s.heap f v):Sm.An (model prog w) A E s (tuples' true) (pairsOf vs) (Bc f):=by
 intro st x y Q kn tw q
 obtain ⟨r,hr⟩:=tw
 rw [pairsOf_toList] at hr
 have mx:x.1∈vs:=(mem_zip_self (hr.mem_iff.mp Zq)).2
 have my:y.1∈vs:=(mem_zip_self (hr.mem_iff.mp (Zs _ Zq))).2
 rw [lt'_eq]
 refine Zo (wpS_get ?_)
 rw [kn]
 obtain ⟨b1,v1,o1,n1,w1,c1,x1,_,z1,k1,m1⟩:=hF _ mx
 obtain ⟨b2,v2,o2,n2,w2,c2,x2,_,z2,k2,m2⟩:=hF _ my
 refine Zo (wpS_lift (wpAny_attempt ?_))
 rw [il,v1,v2]
 rw [v1] at k1 m1
 rw [v2] at k2 m2
 have q':Q (some (bU (f (.ref b1)) (f (.ref b2)))) st:=by
  unfold Bc at q
  rw [v1,v2] at q
  exact q
 refine Qb (listItems_at x1 z1 (Qb (listItems_at x2 z2 ?_)))
 show wpAny _ _ (forIn [((w1,w2),0),((Value.ref c1,Value.ref c2),1)] _ _ >>= _) _ _ _
 generalize f (.ref b1)=ka at k1 m1 q' ⊢
 generalize f (.ref b2)=kb at k2 m2 q' ⊢
 obtain ⟨t1,rfl⟩:=Value.isInt_shape k1
 obtain ⟨t2,rfl⟩:=Value.isInt_shape k2
 unfold bU at q'
 rw [Yo]
 refine Qb (Qb (Qb ((intKind prog w).eqBool (a:=ka.1) (b:=kb.1) k1 k2 ?_)))
 by_cases e1:ka.1=kb.1
 ·rw [if_pos e1] at q'
  rw [if_neg (by rw [Ym e1];simp)]
  refine Za ?_
  show wpAny _ _ (forIn [((Value.ref c1,Value.ref c2),1)] _ _) _ _ _
  rw [Yo]
  refine Qb (Qb (yX hu m1 m2 ?_))
  by_cases e3:ka.2=kb.2
  ·rw [if_neg (by rw [Ym e3];simp)]
   refine Za ?_
   show wpAny _ _ (forIn [] _ _) _ _ _
   rw [List.forIn_nil]
   refine Za (Za ⟨rfl,Zt ?_⟩)
   rw [e3,z7] at q'
   exact q'
  ·rw [if_pos (by rw [Zp e3];rfl)]
   show wpAny _ _ (oneLt' false (Value.ref c1) (Value.ref c2) >>= _) _ _ _
   rw [oneLt'_eq]
   simp only [Ze,Xg]
   refine Qb (Qb ?_)
   exact Ot (A:=A) (Q:=_) hu m1 m2 (wpAny_truthy_bool (Za (Za (Za ⟨rfl,Zt q'⟩))))
 ·rw [if_neg e1] at q'
  rw [if_pos (by rw [Zp e1];rfl)]
  refine Qb (oneLt_int (Za (Za (Za ⟨rfl,Zt q'⟩))))
theorem FW {vs:List Value} (hd:(vs.map f).Nodup) {out:Array Keyed} (hp:out.Perm (pairsOf vs)) (u:Sm.Sd (Bc f) out.toList):
  ∃ol:List Value,ol.toArray=out.map (·.2)/\ol.Perm vs/\(ol.map f).Pairwise (fun a b=>bU a b=true):=by
 have hpl:out.toList.Perm (vs.zip vs):=by
  have:=Wg.mp hp
  rwa [pairsOf_toList] at this
 have e12: ∀p∈out.toList,p.1=p.2:=fun p hm=>(mem_zip_self (hpl.mem_iff.mp hm)).1
 have hp2:(out.toList.map (·.2)).Perm vs:=by
  have:=hpl.map (·.2)
  rwa [List.map_snd_zip (Zh _)] at this
 refine ⟨out.toList.map (·.2),by rw [<- Array.toList_map],hp2,?_⟩
 have hnd:((out.toList.map (·.2)).map f).Nodup:=((hp2.map f).nodup_iff).mpr hd
 rw [Zy,List.pairwise_map]
 rw [Zy,List.Nodup,List.pairwise_map] at hnd
 refine List.Pairwise.imp_of_mem ?_ (hnd.and u)
 intro p q mp mq ⟨ne,uu⟩
 unfold Bc at uu
 rw [e12 p mp,e12 q mq] at uu
 have ne:f p.2≠f q.2:=ne
 show bU (f p.2) (f q.2)=true
 cases e:bU (f p.2) (f q.2) with
 | true=>rfl
 | false=>exact absurd (Kd e uu) ne
noncomputable def nR (prog:Program) (w:World) (h:Heap) (v:Value):d7:=open Classical in if e: ∃k a,v= .ref a/\IsCk prog w h k a then e.choose else (0,0,0,[])
theorem Kf {h:Heap} {k:d7} {a:Addr} (x:IsCk prog w h k a):nR prog w h (.ref a)=k:=by
 have ex: ∃k b,Value.ref a= .ref b/\IsCk prog w h k b:=⟨k,a,rfl,x⟩
 have e:nR prog w h (.ref a)=ex.choose:=dif_pos ex
 obtain ⟨b,eb,y⟩:=ex.choose_spec
 cases eb
 exact e.trans (y.inj x)
theorem qg {zs:List (Addr×d7)} {P:PySem.Fin->Shared->Prop} {h:Heap} {s:Shared} (hu:A.units+1<cLine) (hz:zs.length<100000) (hk: ∀z∈zs,IsCk prog w h z.2 z.1) (hn:(zs.map (·.2)).Nodup)
  (q: ∀ws:List (Addr×d7),ws.Perm zs->(ws.map (·.2)).Pairwise (fun a b=>bU a b=true)->P (.done (.ret .none)) { s with heap:=sortedHeap (h.push (seqObj "list" (zs.map fun z=>Value.ref z.1).toArray 0)) h.objs.size (zs.map fun z=>Value.ref z.1) (ws.map fun z=>Value.ref z.1).toArray }):
  wpAny (model prog w) A (Builtin.«list.sort» ⟨[.ref h.objs.size],[]⟩) P E { s with heap:=h.push (seqObj "list" (zs.map fun z=>Value.ref z.1).toArray 0) }:=by
 have hst: ∀z∈zs,nR prog w h (.ref z.1)=z.2:=fun z mz=>Kf (hk z mz)
 have ef:(zs.map fun p=>Value.ref p.1).map (nR prog w h)=zs.map (·.2):=by
  rw [Zy]
  exact List.map_congr_left fun p mp=>hst p mp
 have kp: ∀v∈zs.map fun z=>Value.ref z.1,Fc prog w (mid (h.push (seqObj "list" (zs.map fun p=>Value.ref p.1).toArray 0)) h.objs.size (zs.map fun p=>Value.ref p.1)) (nR prog w h) v:=fun v hv=>by
  obtain ⟨z,mz,rfl⟩:=Zg.mp hv
  refine ⟨z.1,rfl,iB (h:=h) (by rw [hst z mz];exact hk z mz) fun b ob hb _=> ?_⟩
  have lt:b<h.objs.size:=Zk hb
  unfold mid
  refine Zb _ (Zb _ ?_)
  rw [Heap.get?_update_ne _ _ _ _ (Yh lt)]
  exact Zb _ hb
 refine w6 (s:={ s with heap:=h.push (seqObj "list" (zs.map fun p=>Value.ref p.1).toArray 0) }) (kd:=tuples' true) (Rv (f:=nR prog w h)) (Zm _ rfl) (by rw [Qr];exact hz) (fun hh2=>zN (f:=nR prog w h) (by intro e;rw [e] at hh2;simp at hh2) kp) (Ke (f:=nR prog w h) hu kp) fun out hp u=> ?_
 obtain ⟨ol,e,hp1,hs1⟩:=FW (by rw [ef];exact hn) hp u
 obtain ⟨ws,hw,rfl⟩:=L2.nu hp1.symm rfl
 rw [<- e]
 have es:(ws.map fun p=>Value.ref p.1).map (nR prog w h)=ws.map (·.2):=by
  rw [Zy]
  exact List.map_congr_left fun p mp=>hst p (hw.mem_iff.mp mp)
 rw [es] at hs1
 exact q ws hw hs1
end
end Ck
namespace L2
open PySem PySem.Spec PyProof.Rows Sx Nk Ck
noncomputable abbrev bL:=Int×Int×Int×List Int
noncomputable def iJ (H:Hp) (b:Addr) (k:bL):Prop:= ∃c,H b=some (.tup [.int k.1, .ref c])/\JX H c k.2
theorem uM {P:Program} {w:World} {H:Hp} {h:Heap} {a:Addr} {k:bL} (ok:HOk P w H h) (e:iJ H a k):(iW P w).is h k a:=by
 obtain ⟨c,e1,e2⟩:=e
 obtain ⟨_,its,r,o,g1,g2,n,g3⟩:=(show ObjOk P w H h a (.tup [.int k.1, .ref c]) from ok a _ e1)
 cases r with
 | cons h1 t1=>
  cases t1 with
  | cons h2 t2=>
   cases t2
   obtain ⟨u1,rfl⟩:=(show ∃t,_=Value.int k.1 t from h1)
   cases (show _=Value.ref c from h2)
   exact ⟨o,n,_,c,g1,g2,g3,intKind_is _ _ _ _,Oo ok e2⟩
theorem uN {α:Type} {g:α->Addr}: ∀ {zs:List α} {us:List Value},Vals (zs.map fun z=>V.ref (g z)) us->us=zs.map fun z=>Value.ref (g z)
 | [],_,r=>by rw [List.map_nil] at r;cases r;rfl
 | z::zs,_,r=>by
  rw [Zr] at r
  cases r with
  | cons h t=>rw [show _=Value.ref (g z) from h,uN t];rfl
noncomputable def gG (K:W.Frag):List V->Hp->VK->Prop:=fun xs H Q=> ∃ (a:Addr) (zs:List (Addr×bL)),xs=[.ref a]/\SqL K H a (zs.map fun z=>V.ref z.1)/\(∀z∈zs,iJ H z.1 z.2)/\zs.length<=2600/\ ∀r (ws:List (Addr×bL)),(∀p∈ws,p∈zs)->(∀z∈zs,z.2∈ws.map (·.2))->(ws.map (·.2)).Pairwise (fun a b=>bU a b=true)->H r=none->Q (.ref r) (upd H r (.lst (ws.map fun z=>V.ref z.1)))
theorem qi {X:Cx} {e:Expr} {t:TA} {p p2 pos pos2:Pos} (hcalm:X.calm=true) (hu:X.A.units+12<cLine) (hg:Gl X "sorted") (hm:X.mg "sorted"=none) (hg2:Gl X "set") (hm2:X.mg "set"=none) (ha:PA X [e] t)
  (he:starEach [.Call (.Name "set" p2) [e] [] pos2] X.env=(false,eval (.Call (.Name "set" p2) [e] [] pos2) X.env)::starEach [] X.env:=by rfl)
  (htr:backTo pos (starEach [.Call (.Name "set" p2) [e] [] pos2] X.env)=[(false,eval (.Call (.Name "set" p2) [e] [] pos2) X.env)]:=by rfl)
  (he2:starEach [e] X.env=(false,eval e X.env)::starEach [] X.env:=by rfl) (hpl2:(backTo pos2 (starEach [] X.env)).any (·.1)=false:=by rfl):
  PE X (.Call (.Name "sorted" p) [.Call (.Name "set" p2) [e] [] pos2] [] pos) (cV (gG X.K) t):=by
 intro pins s σ H Q I h
 refine wpAny_Call_Name_kw (dW I hg hm (by decide+kernel:bootBuiltins "sorted"=some (.builtin "sorted")) ?_ (by decide) (by decide))
 refine PyProof.Rows.callWith_builtin1 ?_ he rfl
 rw [htr]
 refine Calls.spliced_cons ?_
 refine wpAny_Call_Name_kw (dW I hg2 hm2 (by decide+kernel:bootBuiltins "set"=some (.type "set")) ?_ (by decide) (by decide))
 refine Wc (bI (ha pos2 pins s σ H _ I h) fun us s1 ⟨vs,H1,I1,r1,q1⟩=> ?_) he2 hpl2
 obtain ⟨a,zs,rfl,hx,hck,h26,q⟩:=q1
 obtain ⟨u,rfl,ru⟩:=r1.one
 cases (show u=Value.ref a from ru)
 obtain ⟨its,r,ht,hz⟩:=I1.list hx
 have hi:its=zs.map fun z=>Value.ref z.1:=uN r
 subst hi
 refine Ts.wB (knd:=iW X.prog X.w) (zs:=zs.map fun z=>(z.2,z.1)) (FQ _ _) (fun B hB=>by show B.units+2<cLine;rfl') (I1.ok.hd hcalm) ht.isList (by rw [Zy];rfl) (by rw [Qr];exact h26) (fun z mz=> ?_) fun h' tk ls es ep t' hk hsz S2 hm1 hm2=> ?_
 ·obtain ⟨y,my,rfl⟩:=Zg.mp mz
  exact uM I1.hok (hck y my)
 refine Calls.spliced_nil ?_
 have hes:es.size=ls.length:=by rw [<- Yd,S2.ee,Qr]
 have hll:ls.length<=zs.length:=by
  have:=m9 S2.nd (m:=zs.map (·.2)) fun y hy=> ?_
  ·rwa [Qr,Qr] at this
  ·obtain ⟨p,mp,rfl⟩:=Zg.mp hy
   obtain ⟨z,mz,rfl⟩:=Zg.mp (hm1 p mp)
   exact List.mem_map_of_mem mz
 refine jb (C:=fun vs s3=> ∃h2 tk2 d,∃ws:List (Addr×bL),s3={ s1 with heap:=h2,toks:=tk2,drawn:=d }/\(∀b o,s1.heap.get? b=some o->h2.get? b=some o)/\s1.heap.objs.size<=h2.objs.size/\vs=(ws.map fun z=>Value.ref z.1)/\ws.Perm (ls.map fun p=>(p.2,p.1))/\ ∀z∈ws,IsCk X.prog X.w h2 z.2 z.1)
  (Z:=fun vs _ out=> ∃ws:List (Addr×bL),out=(ws.map fun z=>Value.ref z.1).toArray/\ws.Perm (ls.map fun p=>(p.2,p.1))/\(ws.map (·.2)).Pairwise fun a b=>bU a b=true) (fun E' R hR=> ?_) fun vs s3 hC=> ?_
 ·refine St.pX (A:=X.A.in1) (I1.ok.hd hcalm) S2.at_ (by rw [hes,Wd];rfl') (S2.itr (by rw [hes,Wd];rfl')) fun h2 tk2 d vs hk2 hsz2 hp=> ?_
  have e1:es.toList.map (·.2)=(ls.map fun p=>(p.2,p.1)).map fun z:Addr×bL=>Value.ref z.1:=by rw [S2.ee,Zy,Zy];rfl
  obtain ⟨ws,hw,rfl⟩:=nu hp.symm e1
  refine hR _ _ ⟨h2,tk2,d,ws,rfl,fun b o e=>hk2 b o (hk b o e),Yk (Xq hsz) hsz2,rfl,hw,fun z mz=> ?_⟩
  obtain ⟨p,mp,rfl⟩:=Zg.mp (hw.mem_iff.mp mz)
  exact iB (S2.is p mp) fun c o e _=>hk2 c o e
 ·obtain ⟨h2,tk2,d,ws,rfl,hk2,hsz2,rfl,hw,hc⟩:=hC
  have hwl:ws.length=ls.length:=by rw [hw.length_eq,Qr]
  have hnd:(ws.map (·.2)).Nodup:=by
   refine ((hw.map _).nodup_iff).mpr ?_
   rw [Zy];exact S2.nd
  refine ⟨by rw [Qr];rfl',fun A' E' P hA hP=> ?_,fun out hout=> ?_⟩
  ·exact qg (s:={ s1 with toks:=tk2,drawn:=d }) (h:=h2) (by rfl') (by rfl') hc hnd fun ws' hw' hs'=>hP _ ⟨ws',rfl,hw'.trans hw,hs'⟩
  ·obtain ⟨ws',rfl,hw',hs'⟩:=hout
   obtain ⟨ee,he⟩:=Hq h2 (ws.map fun z=>Value.ref z.1) (ws'.map fun z=>Value.ref z.1).toArray
   have hr:H1 h2.objs.size=none:=I1.hok.fresh hsz2
   refine ⟨.ref _,_,(I1.drew d).laid (t':=tk2) (a:=h2.objs.size) (o:= .lst (ws'.map fun z=>V.ref z.1)) (fun b o hb=>yo (hk2 b o hb)) hsz2 (show ObjOk X.prog X.w _ _ _ (.lst _) from ⟨?_,_,ee,gw (g:=fun z:Addr×bL=>z.1) ws',he⟩),rfl,q _ ws' (fun y my=> ?_) (fun z mz=> ?_) hs' hr⟩
   ·rw [Qr,hw'.length_eq,Qr,Wd];rfl'
   ·obtain ⟨p,mp,rfl⟩:=Zg.mp (hw'.mem_iff.mp my)
    obtain ⟨z,mz,rfl⟩:=Zg.mp (hm1 p mp)
    exact mz
   ·have:=hm2 (z.2,z.1) (Zg.mpr ⟨z,mz,rfl⟩)
    rw [(hw'.map _).mem_iff,Zy]
    exact this
theorem nU {X:Cx} {e:Expr} {t:TA} {p p2 pos pos2:Pos} (K:W.Frag) (hK:X.K=K) (hcalm:X.calm=true) (hu:X.A.units+12<cLine) (hg:Gl X "sorted") (hm:X.mg "sorted"=none) (hg2:Gl X "set") (hm2:X.mg "set"=none) (ha:PA X [e] t)
  (he:starEach [.Call (.Name "set" p2) [e] [] pos2] X.env=(false,eval (.Call (.Name "set" p2) [e] [] pos2) X.env)::starEach [] X.env:=by rfl)
  (htr:backTo pos (starEach [.Call (.Name "set" p2) [e] [] pos2] X.env)=[(false,eval (.Call (.Name "set" p2) [e] [] pos2) X.env)]:=by rfl)
  (he2:starEach [e] X.env=(false,eval e X.env)::starEach [] X.env:=by rfl) (hpl2:(backTo pos2 (starEach [] X.env)).any (·.1)=false:=by rfl):
  PE X (.Call (.Name "sorted" p) [.Call (.Name "set" p2) [e] [] pos2] [] pos) (cV (gG K) t):=hK▸qi hcalm hu hg hm hg2 hm2 ha he htr he2 hpl2
end L2
end
section
namespace L2
open PySem PySem.Spec PyProof.Rows Sx Nk Ck
noncomputable def Kg (x:bL×Addr×Value):DictEntry:=⟨q9 x.1, .ref x.2.1,x.2.2⟩
noncomputable def TJ (a:Addr) (kvs:List (Addr×bL×V)) (h:Heap):Prop:=kvs.length<=sizeLine/\(a==sysModules)=false/\ ∃xs:List (bL×Addr×Value),Paired (fun (p:Addr×bL×V) (q:bL×Addr×Value)=>p.2.1=q.1/\p.1=q.2.1/\RelV p.2.2 q.2.2) kvs xs/\
 ∃o es ep,h.get? a=some o/\o.ExactDict/\o.data= .dict es ep/\es.toList=xs.map Kg/\(xs.map (·.1)).Nodup
noncomputable abbrev qj (a:Addr) (kvs:List (Addr×bL×V)):HO:= .ext (TJ a kvs)
noncomputable def lG (kvs:List (Addr×bL×V)) (k:bL):Option V:=(kvs.find? fun p=>decide (p.2.1=k)).map (·.2.2)
noncomputable def ql (kvs:List (Addr×bL×V)) (b:Addr) (k:bL) (v:V):List (Addr×bL×V):=if (lG kvs k).isSome then kvs.map fun p=>if p.2.1=k then (p.1,p.2.1,v) else p else kvs++[(b,k,v)]
noncomputable def Kh (H:Hp) (a:Addr) (y v:V) (H':Hp):Prop:= ∃kvs k b,H a=some (qj a kvs)/\(∀p∈kvs,iJ H p.1 p.2.1)/\y= .ref b/\iJ H b k/\kvs.length<sizeLine/\H'=upd H a (qj a (ql kvs b k v))
section
variable {P:Program} {w:World} {H:Hp} {h:Heap} {a b:Addr}
noncomputable abbrev KC:List (Addr×bL×V)->List (bL×Addr×Value)->Prop:=Paired fun p q=>p.2.1=q.1/\p.1=q.2.1/\RelV p.2.2 q.2.2
theorem KC.val {kvs:List (Addr×bL×V)} {xs:List (bL×Addr×Value)} (r:KC kvs xs) (k:bL):RelO (lG kvs k) ((atKey xs k).map (·.2)):=by
 induction r with
 | nil=>exact True.intro
 | @cons p q ps qs h t ih=>
  obtain ⟨h1,_,h2⟩:=h
  by_cases e:p.2.1=k
  ·have e':q.1=k:=h1.symm.trans e
   have z:atKey (q::qs) k=some q.2:=by simp [atKey,List.find?_cons,e']
   have y:lG (p::ps) k=some p.2.2:=by simp [lG,List.find?_cons,e]
   rw [y,z];exact h2
  ·have e': ¬q.1=k:=fun z=>e (h1.trans z)
   have z:atKey (q::qs) k=atKey qs k:=by simp [atKey,List.find?_cons,e']
   have y:lG (p::ps) k=lG ps k:=by simp [lG,List.find?_cons,e]
   rw [y,z];exact ih
theorem KC.repl {kvs:List (Addr×bL×V)} {xs:List (bL×Addr×Value)} (r:KC kvs xs) (k:bL) {y:V} {u:Value} (ry:RelV y u):KC (kvs.map fun p=>if p.2.1=k then (p.1,p.2.1,y) else p) (xs.map (putAt k u)):=by
 induction r with
 | nil=>exact .nil
 | @cons p q ps qs h t ih=>
  rw [Zr,Zr]
  refine .cons ?_ ih
  obtain ⟨h1,h2,h3⟩:=h
  unfold putAt
  by_cases e:p.2.1=k
  ·rw [if_pos e,if_pos (h1.symm.trans e)];exact ⟨h1,h2,ry⟩
  ·rw [if_neg e,if_neg (fun z=>e (h1.trans z))];exact ⟨h1,h2,h3⟩
theorem KC.put {kvs:List (Addr×bL×V)} {xs:List (bL×Addr×Value)} (r:KC kvs xs) (k:bL) {b:Addr} {y:V} {u:Value} (ry:RelV y u):KC (ql kvs b k y) (storedH xs k b u):=by
 have e:(lG kvs k).isSome=(atKey xs k).isSome:=by rw [(r.val k).isSome_eq,Option.isSome_map]
 unfold ql storedH
 rw [e]
 by_cases q:(atKey xs k).isSome=true
 ·rw [if_pos q,if_pos q];exact r.repl k ry
 ·rw [if_neg q,if_neg q];exact Paired.snoc r ⟨rfl,rfl,ry⟩
theorem zO (kvs:List (Addr×bL×V)) (b:Addr) (k:bL) (v:V):(ql kvs b k v).length<=kvs.length+1:=by
 unfold ql
 split
 ·rw [Qr];rfl'
 ·rw [Zn,We];rfl'
theorem OD {kvs:List (Addr×bL×V)} (ok:HOk P w H h) (e:H a=some (qj a kvs)) (hk: ∀p∈kvs,iJ H p.1 p.2.1):kvs.length<=sizeLine/\(a==sysModules)=false/\ ∃xs,KC kvs xs/\h.DictOfH (iW P w) a xs:=by
 obtain ⟨⟨z,y,xs,r,o,es,ep,h1,h2,h3,h4,h5⟩,_⟩:=(show ObjOk P w H h a (qj a kvs) from ok a _ e)
 refine ⟨z,y,xs,r,o,es,ep,h1,h2,h3,h4,fun x hx=> ?_,h5⟩
 have all: ∀ {l:List (Addr×bL×V)} {m:List (bL×Addr×Value)},KC l m->(∀p∈l,iJ H p.1 p.2.1)-> ∀x∈m,(iW P w).is h x.1 x.2.1:=by
  intro l m q
  induction q with
  | nil=>intro _ x hx;exact nomatch hx
  | @cons p q ps qs hq t ih=>
   intro hl x hx
   rcases Zu.mp hx with e | hx
   ·subst e
    have:=uM ok (hl p Zq)
    rw [<- hq.1,<- hq.2.1];exact this
   ·exact ih (fun p m=>hl p (Zs _ m)) x hx
 exact all r hk x hx
theorem zP {P:Program} {w:World} {H':Hp} {h':Heap} {kvs:List (Addr×bL×V)} {xs:List (bL×Addr×Value)} (z:kvs.length<=sizeLine) (hd:(a==sysModules)=false) (rel:KC kvs xs) (dd: ∃o es ep,h'.get? a=some o/\o.ExactDict/\o.data= .dict es ep/\es.toList=xs.map Kg/\(xs.map (·.1)).Nodup):ObjOk P w H' h' a (qj a kvs):=by
 obtain ⟨o,es,ep,d1,d2,d3,d4,d5⟩:=dd
 exact ⟨⟨z,hd,xs,rel,o,es,ep,d1,d2,d3,d4,d5⟩,⟨o,d1⟩,fun h1 h2 ⟨z1,y1,xs1,r1,o1,es1,ep1,q1,q2⟩ k=>⟨z1,y1,xs1,r1,o1,es1,ep1,k o1 q1,q2⟩⟩
end
section
variable {X:Cx} {pins:List (Addr×Obj)} {σ:St} {H:Hp} {s:Shared} {a:Addr} {y v:V} {u r:Value} {o:Option V} {A:Around} {E:Value->Shared->Prop}
theorem sG {H':Hp} {Q:Unit->Shared->Prop} (hu:A.units+3<cLine) (I:Inv X pins σ H s) (g:Kh H a y v H') (ry:RelV y u) (rv:RelV v r) (h: ∀s',Inv X pins σ H' s'->Q () s'):wpAny (model X.prog X.w) A (setItem (.ref a) u r) Q E s:=by
 obtain ⟨kvs,k,b,e,hk,ey,eb,l,eH⟩:=g
 subst ey eH
 cases (show u=Value.ref b from ry)
 obtain ⟨z,hd,xs,rel,dd⟩:=OD I.hok e hk
 have hz:xs.length<=sizeLine:=by rw [<- Paired.length rel];exact z
 have hl:(ql kvs b k v).length<=sizeLine:=by have:=zO kvs b k v;rfl'
 refine wpAny_setItem_heap (hsz:=hz) (knd:=iW X.prog X.w) (show A.units+1+2<cLine by rfl') (uM I.hok eb) dd fun h' dd' hs=>h _ ?_
 obtain ⟨q,es,ep,hq,h2,h3,h4,_,h5⟩:=dd'
 exact jl I (by rw [e];exact True.intro) hs ⟨q,hq⟩ (zP hl hd (rel.put k rv) ⟨q,es,ep,hq,h2,h3,h4,h5⟩)
end
noncomputable def nW:List V->Hp->VK->Prop:=fun xs H Q=> ∃ (a:Addr) (kvs:List (Addr×bL×V)),xs=[.ref a]/\H a=some (qj a kvs)/\(∀p∈kvs,iJ H p.1 p.2.1)/\kvs.length<100000/\
 ∀r (zs:List (Addr×bL)),zs.Perm (kvs.map fun p=>(p.1,p.2.1))->(zs.map (·.2)).Pairwise (fun a b=>bU a b=true)->H r=none->Q (.ref r) (upd H r (.lst (zs.map fun z=>V.ref z.1)))
theorem qm {X:Cx} (hcalm:X.calm=true) (hu:X.A.units+4<cLine):cg X (.builtin "sorted") nW:=by
 intro pins s σ H xs us Q I rv h
 obtain ⟨a,kvs,rfl,ea,hk,h64,q⟩:=h
 obtain ⟨u,rfl,ru⟩:=rv.one
 cases (show u=Value.ref a from ru)
 obtain ⟨⟨z,lo,xs,rel,o,es,ep,h1,h2,h3,h4,h5⟩,_⟩:=(show ObjOk X.prog X.w H s.heap a (qj a kvs) from I.hok a _ ea)
 have hlen:kvs.length=xs.length:=Paired.length rel
 have hes:es.size=kvs.length:=by rw [<- Yd,h4,Qr,hlen]
 have hka: ∀ {l:List (Addr×bL×V)} {m:List (bL×Addr×Value)},KC l m->(m.map Kg).map (·.key)=(l.map fun p=>(p.1,p.2.1)).map (fun p=>Value.ref p.1)/\m.map (·.1)=l.map (·.2.1):=by
  intro l m r
  induction r with
  | nil=>exact ⟨rfl,rfl⟩
  | @cons p q ps qs hq t ih=>
   refine ⟨?_,?_⟩
   ·rw [Zr,Zr,Zr,Zr,ih.1]
    show Value.ref q.2.1::_=Value.ref p.1::_
    rw [hq.2.1]
   ·rw [Zr,Zr,ih.2,hq.1]
 obtain ⟨hk1,hk2⟩:=hka rel
 rw [<- h4] at hk1
 have hnd:((kvs.map fun p=>(p.1,p.2.1)).map (·.2)).Nodup:=by rw [Zy];show (kvs.map (·.2.1)).Nodup;rw [<- hk2];exact h5
 have hck: ∀z∈kvs.map fun p=>(p.1,p.2.1),IsCk X.prog X.w s.heap z.2 z.1:=fun z mz=>by
  obtain ⟨p,mp,rfl⟩:=Zg.mp mz
  exact uM I.hok (hk p mp)
 have hl:(kvs.map fun p=>(p.1,p.2.1)).length=kvs.length:=Qr ..
 generalize (kvs.map fun p=>(p.1,p.2.1))=zs at hk1 hnd hck hl q
 refine jb (C:=fun vs s1=>vs=(zs.map fun p=>Value.ref p.1)/\ ∃h' tk,s1={ s with heap:=h',toks:=tk }/\(∀b o,s.heap.get? b=some o->h'.get? b=some o)/\s.heap.objs.size<=h'.objs.size)
  (Z:=fun vs s1 out=> ∃ws:List (Addr×bL),out=(ws.map fun z=>Value.ref z.1).toArray/\ws.Perm zs/\(ws.map (·.2)).Pairwise fun a b=>bU a b=true) (fun E' R hR=> ?_) fun vs s1 hC=> ?_
 ·exact pR (A:=X.A.in1) (I.ok.hd hcalm) lo h2 h3 h1 (by rw [hes];exact z) fun h' tk hk' hsz=>hR _ _ ⟨hk1,h',tk,rfl,hk',hsz⟩
 ·obtain ⟨rfl,h',tk,rfl,hk',hsz⟩:=hC
  refine ⟨by rw [Qr,hl];exact h64,fun A' E' P hA hP=> ?_,fun out ⟨ws,eo,hw,hs⟩=> ?_⟩
  ·exact qg (s:={ s with toks:=tk }) (h:=h') (by rfl') (by rw [hl];exact h64) (fun z mz=>iB (hck z mz) fun c o e _=>hk' c o e) hnd fun ws hw hs=>hP _ ⟨ws,rfl,hw,hs⟩
  ·subst eo
   obtain ⟨e,he⟩:=Hq h' (zs.map fun p=>Value.ref p.1) (ws.map fun z=>Value.ref z.1).toArray
   have hr:H h'.objs.size=none:=I.hok.fresh hsz
   refine ⟨.ref _,_,I.laid (t':=tk) (a:=h'.objs.size) (o:= .lst (ws.map fun z=>V.ref z.1)) (fun b o hb=>yo (hk' b o hb)) hsz (show ObjOk X.prog X.w _ _ _ (.lst _) from ⟨?_,_,e,gw (g:=fun z:Addr×bL=>z.1) ws,he⟩),rfl,q _ ws hw hs hr⟩
   rw [Qr,hw.length_eq,hl]
   exact Xq (Nat.lt_trans h64 (by decide))
noncomputable def zQ:TE:=fun _ H Q=> ∀p,H p=none->Q (.ref p) (upd H p (qj p []))
noncomputable def zR (td ty tv:TE):TS:=fun D σ H=>tv σ H fun v H1=>td σ H1 fun x H2=>ty σ H2 fun y H3=> ∃a H4,x= .ref a/\Kh H3 a y v H4/\D.nx σ H4
section
variable {X:Cx} {o i e value:Expr} {pos pos' tpos:Pos} {td ty tv:TE}
theorem FZ:PE X (.Dict [] [] pos) zQ:=fun pins s σ H Q I h=>
 wpAny_Dict_empty ⟨.ref s.heap.objs.size,_,I.laid (a:=s.heap.objs.size) (o:=qj s.heap.objs.size []) (t':=s.toks) (fun _ _ q=>Zb _ q) (Zh _)
  (zP (Yp _) (beq_eq_false_iff_ne.mpr (Ne.symm (Yh I.big))) .nil ⟨_,#[],0,Zm _ rfl,⟨rfl,rfl,rfl⟩,rfl,rfl,List.nodup_nil⟩),rfl,h _ (I.hok.fresh (Zh _))⟩
theorem G4 (hu:X.A.units+3<cLine) (ho:PE X o td) (hi:PE X i ty) (hv:PE X value tv) (hs:swapsWith value (some (.Subscript o i pos')) pos.line X.env=pure false):
  PS X (.Assign [.Subscript o i pos'] value pos) (zR td ty tv):=by
 intro pins s σ H D I h
 refine wpAny_Assign_Subscript (bI (hv pins s σ H _ I h) fun r s1 ⟨v,H1,I1,rv,q1⟩=>bI (ho pins s1 σ H1 _ I1 q1) fun u s2 ⟨x,H2,I2,rx,q2⟩=>bI (hi pins s2 σ H2 _ I2 q2) fun iv s3 ⟨y,H3,I3,ry,a,H4,ex,g,q3⟩=> ?_) hs
 subst ex
 obtain rfl:u=Value.ref a:=rx
 exact sG hu I3 g ry rv fun s4 I4=>⟨σ,H4,I4,q3⟩
theorem G5 {A:Around} {k:Nat} (hr:Room k A):A.units+12<cLine:=Yg (Nat.add_le_add_left (by decide:12<=64) _) hr.units
end
end L2
end
set_option linter.all false
namespace Mm
theorem jn (x:Int) (m:Nat) (h:0<m): ∃n:Nat,x%(m:Int)=(n:Int)/\n<m:=by
 have h1:=Int.emod_nonneg x (b:=(m:Int)) (by rfl')
 have h2:=Wy x (b:=(m:Int)) (by rfl')
 exact ⟨(x%(m:Int)).toNat,by rfl',by rfl'⟩
theorem G6 (k:Nat):(0:Int)<1*2^k:=by
 rw [Int.one_mul];exact Int.pow_pos (by decide)
noncomputable def cellAt (ns:List Int) (k:Nat):Int:=ns.getD k 0
noncomputable def hgt (c:Int):Nat:=if c%2=0 then (1+c / 2%6).toNat else (1+c / 2%60).toNat
noncomputable def fZ:List Nat->List Nat->Nat
 | x::xs,y::ys=>Bm.pop (x^^^y)+fZ xs ys
 | _,_=>0
theorem qp: ∀xs ys:List Nat,((List.zipWith (fun x y=>((Bm.pop (x^^^y):Nat):Int)) xs ys).sum:Int)=(fZ xs ys:Nat)
 | [],_=>by simp [fZ]
 | _::_,[]=>by simp [fZ]
 | x::xs,y::ys=>by
  rw [List.zipWith_cons_cons,List.sum_cons,qp xs ys,fZ];rfl'
theorem mD: ∀ (xs ys:List Nat) (x y:Nat),xs.length=ys.length->fZ (xs++[x]) (ys++[y])=fZ xs ys+Bm.pop (x^^^y)
 | [],[],x,y,_=>by simp [fZ]
 | [],_::_,_,_,h=>by simp at h
 | _::_,[],_,_,h=>by simp at h
 | a::xs,b::ys,x,y,h=>by
  rw [List.cons_append,List.cons_append,fZ,fZ,mD xs ys x y (by simpa using h)];rfl'
theorem getD_some {ns:List Int} {k:Nat} {z:Int} (h:ns[k]? =some z):cellAt ns k=z:=by
 unfold cellAt;rw [Zx,h];rfl
theorem getD_none {ns:List Int} {k:Nat} (h:ns.length<=k):cellAt ns k=0:=by
 unfold cellAt;rw [Zx,Xi h];rfl
noncomputable def On (h n:Nat) (s:Int×Int):Prop:=0<=s.1/\s.1<n/\0<=s.2/\s.2<h
instance decOn (h n:Nat) (s:Int×Int):Decidable (On h n s):=by unfold On;exact inferInstance
end Mm
section
namespace L2
open PySem
theorem Hu {A B:Prop} (h:B):if (!true)=true then A else B:=xO h
theorem Hv {A B:Prop} (h:A):if (!false)=true then A else B:=xP h
theorem iY {p A B:Prop} [Decidable p] (h1:p->A) (h2: ¬p->B):if decide p=true then A else B:=by
 by_cases h:p
 ·rw [Ym h];exact xP (h1 h)
 ·rw [Zp h];exact xO (h2 h)
theorem zT {p A B:Prop} [Decidable p] (h1: ¬p->A) (h2:p->B):if (!decide p)=true then A else B:=by
 by_cases h:p
 ·rw [Ym h];exact xO (h2 h)
 ·rw [Zp h];exact xP (h1 h)
theorem sI {p A B:Prop} [Decidable p] (hp:p) (h:B):if (!decide p)=true then A else B:=zT (fun n=>absurd hp n) fun _=>h
theorem Same.new {H0 H:Hp} {p:Addr} {o:HO} (e:Same H0 H) (h:H p=none):Same H0 (upd H p o):=fun b u q=>by rw [aF (aR (e b u q) h)];exact e b u q
theorem Same.tup {K:W.Frag} {H H':Hp} {a:Addr} {xs:List V} (e:Same H H') (h:SqT K H a xs):SqT K H' a xs:=by
 rcases h with (h | ⟨o,h⟩) | h
 ·exact .inl (.inl (e _ _ h))
 ·exact .inl (.inr ⟨o,e _ _ h⟩)
 ·exact .inr h
theorem uO {K:W.Frag} {H:Hp} {p a:Addr} {o:HO} {xs:List V} (h:H p=none) (q:SqL K H a xs):SqL K (upd H p o) a xs:=Same.seq (Same.new (Same.refl H) h) q
theorem OJ {r:St} {v:V}:n6 (none::r) (some v::r):=⟨rfl,fun j u z=>by
 match j,z with
 | j+1,z=>exact z⟩
theorem ext2 {r:St} {v w:V}:n6 (none::none::r) (some v::some w::r):=⟨rfl,fun j u z=>by
 match j,z with
 | j+2,z=>exact z⟩
theorem Hw (a b:Int):decide (V.int a=V.int b)=decide (a=b):=by simp
theorem nY {xs:List V} {k:Int} (h:0<=k):dY xs none (some k)=xs.take k.toNat:=by
 unfold dY
 show (xs.drop 0).take ((if k<0 then (k+(xs.length:Int)).toNat else min k.toNat xs.length)-0)=_
 rw [if_neg (by rfl'),List.drop_zero,Nat.sub_zero]
 rcases Nat.le_total k.toNat xs.length with q | q
 ·rw [Nat.min_eq_left q]
 ·rw [Nat.min_eq_right q,Xd (Zh _),Xd q]
theorem iC {xs:List V} {k:Int} (h:0<=k):dY xs (some k) none=xs.drop k.toNat:=by
 unfold dY
 show (xs.drop (if k<0 then (k+(xs.length:Int)).toNat else min k.toNat xs.length)).take (xs.length-(if k<0 then (k+(xs.length:Int)).toNat else min k.toNat xs.length))=_
 rw [if_neg (by rfl')]
 rcases Nat.le_total k.toNat xs.length with q | q
 ·rw [Nat.min_eq_left q,Xd (by rw [Xs];rfl')]
 ·rw [Nat.min_eq_right q,List.drop_of_length_le (Zh _),List.drop_of_length_le q];simp
theorem G7 {xs:List V} {k j:Int} (h:0<=k) (hj:0<=j):dY xs (some k) (some j)=(xs.take j.toNat).drop k.toNat:=by
 unfold dY
 show (xs.drop (if k<0 then (k+(xs.length:Int)).toNat else min k.toNat xs.length)).take ((if j<0 then (j+(xs.length:Int)).toNat else min j.toNat xs.length)-(if k<0 then (k+(xs.length:Int)).toNat else min k.toNat xs.length))=_
 rw [if_neg (Int.not_lt.mpr h),if_neg (Int.not_lt.mpr hj),List.drop_take]
 generalize k.toNat=k
 generalize j.toNat=j
 rcases Nat.le_total k xs.length with c | c
 ·rw [Nat.min_eq_left c,List.take_eq_take_iff,Xs]
  rcases Nat.le_total j xs.length with d | d
  ·rw [Nat.min_eq_left d]
  ·rw [Nat.min_eq_right d,Nat.min_self,Nat.min_eq_right (Nat.sub_le_sub_right d k)]
 ·rw [Nat.min_eq_right c,List.drop_of_length_le (Zh _),List.drop_of_length_le c,List.take_nil,List.take_nil]
theorem G8 (i:Int) (ns:List Int):inV (.int i) (ns.map V.int)=decide (i∈ns):=by
 unfold inV
 rw [List.any_map]
 induction ns with
 | nil=>simp
 | cons n r ih=>
  rw [List.any_cons,ih]
  by_cases h:n=i
  ·subst h;simp [wJ]
  ·simp [wJ,h,Ne.symm h]
theorem zU (ns:List Int):(ns.map V.int).all dJ=true:=by
 rw [List.all_map];simp [Function.comp_def,dJ]
theorem Kl {α:Type} {xs:List α} {i:Int} (h0:0<=i) (h1:i.toNat<xs.length):vH xs i=some xs[i.toNat]:=by
 have e:=aK (xs:=xs) (j:=i.toNat) (v:=xs[i.toNat]) (Zc h1)
 rwa [show ((i.toNat:Nat):Int)=i by rfl'] at e
section
variable {σ:St} {H:Hp} {Q:VK} {D:Ends} {K:W.Frag}
theorem Hx {t u:TS} (h:t { D with nx:=u D } σ H):aQ t u D σ H:=h
theorem Hy {te:TE} {g:TG} (h:te σ H fun x H1=>g x σ H1 D.nx):aZ te g D σ H:=h
theorem Hz {te:TE} (h:te σ H D.rt):bO te D σ H:=h
theorem zV (h:D.nx σ H):cA D σ H:=h
theorem zW {te:TE} (h:te σ H fun _ H1=>D.nx σ H1):gK te D σ H:=h
theorem HB {c:TT} {t u:TS} (h:c σ H fun b H1=>if b=true then t D σ H1 else u D σ H1):eX c t u D σ H:=h
theorem HD {i:Nat} {v:V} (e:σ[i]? =some (some v)) (h:Q v H):ao i σ H Q:=⟨v,e,h⟩
theorem T7 {v:V} (h:Q v H):tC v σ H Q:=h
theorem P0 {r:R2} {ta tb:TE} (h:ta σ H fun x H1=>tb σ H1 fun y H2=>r x y H2 Q):aX r ta tb σ H Q:=h
theorem Pa {r:List V->Hp->VK->Prop} {t:TA} (h:t σ H fun vs H1=>r vs H1 Q):cV r t σ H Q:=h
theorem s_call {sp:Sp} {E:XK} {t:TA} (h:t σ H fun vs H1=>sp vs H1 Q E):bu sp [] E t σ H Q:=by
 unfold bu
 simpa only [Yx] using h
theorem HF {R:List V->Hp->Prop} (h:R [] H):aH σ H R:=h
theorem zX {ta:TE} {tr:TA} {R:List V->Hp->Prop} (h:ta σ H fun x H1=>tr σ H1 fun xs H2=>R (x::xs) H2):aj ta tr σ H R:=h
theorem zY {te:TE} {R:Bool->Hp->Prop} (h:te σ H fun x H'=> ∃k,x= .bl k/\R k H'):bT te σ H R:=h
theorem HH {te:TE} {R:Bool->Hp->Prop} (h:te σ H fun x H'=> ∃k,xq K x H' k/\R k H'):nj K te σ H R:=h
theorem Pb {b:Bool} {R:Bool->Prop} (h:R b): ∃k,V.bl b= .bl k/\R k:=⟨b,rfl,h⟩
theorem HJ {b:Bool} {R:Bool->Prop} (h:R b): ∃k,xq K (.bl b) H k/\R k:=⟨b,rfl,h⟩
theorem HN {t:TT} {R:Bool->Hp->Prop} (h:t σ H fun c H1=>R (!c) H1):oR t σ H R:=h
theorem HQ {t u:TT} {R:Bool->Hp->Prop} (h:t σ H fun c H1=>if c=true then u σ H1 R else R false H1):wM t u σ H R:=h
theorem Ph {t u:TT} {R:Bool->Hp->Prop} (h:t σ H fun c H1=>if c=true then R true H1 else u σ H1 R):J1 t u σ H R:=h
theorem zZ {ta tb:TE} (h:ta σ H fun x H1=> ∃c,x= .bl c/\if c=true then tb σ H1 Q else Q (.bl false) H1):wO ta tb σ H Q:=h
theorem Aa {ta:TE} (h:ta σ H fun x H1=> ∃c,x= .bl c/\Q (.bl (!c)) H1):wQ ta σ H Q:=h
theorem HR {R:Bool->Hp->Prop} (h:R true H):dj σ H R:=h
theorem uP {i:Nat} {v:V} {R:St->Hp->Prop} (h:R (σ.set i (some v)) H):aC i v σ H R:=h
theorem Ab {R:St->Hp->Prop} (h:R σ H):lw [] σ H R:=⟨rfl,h⟩
theorem uQ {t:TG} {u:CP} {v:V} {r:List V} {R:St->Hp->Prop} (h:t v σ H fun σ' H'=>u r σ' H' R):cB t u (v::r) σ H R:=⟨v,r,rfl,h⟩
theorem gb {n:Nat} {t:CP} {a:Addr} {xs:List V} {R:St->Hp->Prop} (hx:SqT K H a xs) (hn:xs.length=n) (h:t xs σ H R):jq K n t (.ref a) σ H R:=⟨a,xs,rfl,hx,hn,h⟩
theorem Ac {to ti:TE} {t:wV} {v:V} {R:St->Hp->Prop} (h:to σ H fun o H1=>ti σ H1 fun i H2=>t o i v H2 fun H3=>R σ H3):Df to ti t v σ H R:=h
theorem HW {i:Nat} {te:TE} {ti:J5} {x:V} (e:σ[i]? =some (some x)) (h:te σ H fun y H1=>ti x y H1 fun z H2=>D.nx (σ.set i (some z)) H2):J7 i te ti D σ H:=⟨x,e,h⟩
theorem Pj {f:Int->Int->Int} {i j:Int} (h:Q (.int (f i j)) H):R1 f (.int i) (.int j) H Q:=⟨i,j,rfl,rfl,h⟩
theorem HX {f:Int->Int->V} {i j:Int} (h:Q (f i j) H):oJ f (.int i) (.int j) H Q:=⟨i,j,rfl,rfl,h⟩
theorem Pk {C:Int->Int->Prop} {f:Int->Int->V} {i j:Int} (c:C i j) (h:Q (f i j) H):rI C f (.int i) (.int j) H Q:=⟨i,j,rfl,rfl,c,h⟩
theorem HY {i j:Int} (h:Q (.bl (decide (i=j))) H):Dm (.int i) (.int j) H Q:=⟨rfl,by rw [Hw];exact h⟩
theorem Ia {i j:Int} (h:Q (.bl (!decide (i=j))) H):Nt (.int i) (.int j) H Q:=⟨rfl,by rw [Hw];exact h⟩
theorem Ib {t:TA} (h:t σ H fun xs H1=>xs.length<=sizeLine/\ ∀p,H1 p=none->Q (.ref p) (upd H1 p (.tup xs))):cW t σ H Q:=h
theorem Ie {t:TA} (h:t σ H fun xs H1=>xs.length<=sizeLine/\ ∀p,H1 p=none->Q (.ref p) (upd H1 p (.lst xs))):jh t σ H Q:=h
theorem Ig {a b:St} {P:Prop} (e:n6 a b) (h:P):n6 a b/\P:=⟨e,h⟩
theorem Ih {n:Nat} {P:Prop} (e:n<=1000) (h:P):n<=sizeLine/\P:=⟨small e,h⟩
theorem Pn {r:V->Option Int->Option Int->Hp->VK->Prop} {te:TE} {tl th:TO} (h:te σ H fun x H1=>tl σ H1 fun l H2=>th σ H2 fun u H3=>r x l u H3 Q):vG r te tl th σ H Q:=h
theorem qt {R:Option Int->Hp->Prop} (h:R none H):bW σ H R:=h
theorem Ad {t:TE} {R:Option Int->Hp->Prop} (h:t σ H fun x H1=> ∃i,x= .int i/\R (some i) H1):dI t σ H R:=h
theorem Ae {i:Int} {R:Int->Prop} (h:R i): ∃k,V.int i= .int k/\R k:=⟨i,rfl,h⟩
theorem Pq {T:String} {r:V->List V->Hp->VK->Prop} {to:TE} {t:TA} (h:to σ H fun x H1=>Nb K T x H1/\t σ H1 fun xs H2=>r x xs H2 Q):xK K T r to t σ H Q:=h
theorem je {a:Addr} {xs:List V} {P:Prop} (e:SqL K H a xs) (h:P):Nb K "list" (.ref a) H/\P:=⟨.inl ⟨rfl,xs,e⟩,h⟩
noncomputable def sJ (g:TG) (tb:TS) (D:Ends) (σ:St):It->Hp->Prop:=fun J H1=> ∃W:Nat->Nat->St->Hp->Prop,(∃m,W 0 m σ H1)/\ ∀i m σ H,W i m σ H->
 (J.stop i H/\D.nx σ H)\/(J.go i H/\ ∃N:St->Hp->Prop,(∀σ' H',N σ' H'-> ∃m',m'<m/\W (i+1) m' σ' H')/\ ∀x H',J.yld i H x H'->g x σ H' fun σ2 H2=>tb { D with nx:=N,ct:=N,bk:=D.nx } σ2 H2)
theorem Ii {wi:TI} {g:TG} {tb:TS} (h:wi σ H (sJ g tb D σ)):fL wi g tb D σ H:=h
noncomputable def G9 (κ:List (Option Nat)) (g:TG) (tc:TT) (te:TE) (σ:St) (Q:VK):It->Hp->Prop:=fun J H1=> ∃W:Nat->Nat->List V->Hp->Prop,(∃m,W 0 m [] H1)/\ ∀i m ys H,W i m ys H->
 (J.stop i H/\ ∀p,H p=none->Q (.ref p) (upd H p (.lst ys)))\/
 (J.go i H/\ys.length<sizeLine/\ ∃N:List V->Hp->Prop,(∀ys' H',N ys' H'-> ∃m',m'<m/\W (i+1) m' ys' H')/\ ∀x H',J.yld i H x H'->g x (cap κ σ) H' fun σ2 H2=>n6 (cap κ σ) σ2/\tc σ2 H2 fun b H3=>if b=true then te σ2 H3 fun y H4=>N (ys++[y]) H4 else N ys H3)
theorem Pr {κ:List (Option Nat)} {wi:TI} {g:TG} {tc:TT} {te:TE} (h:wi σ H (G9 κ g tc te σ Q)):qG κ wi g tc te σ H Q:=h
noncomputable def iL (K:W.Frag) (R:It->Hp->Prop) (x:V) (H:Hp):Prop:= ∃a,x= .ref a/\(∃xs,SqL K H a xs)/\R (Dg K a) H
noncomputable def iT (K:W.Frag) (R:It->Hp->Prop) (x:V) (H:Hp):Prop:= ∃a,x= .ref a/\(∃xs,SqT K H a xs)/\R (N7 K a) H
noncomputable def iR (R:It->Hp->Prop) (vs:List V) (H:Hp):Prop:= ∃j:Int,vs=[.int j]/\ -(2^62)<=j/\j<2^62/\R (oV 0 j.toNat) H
noncomputable def U8 (R:It->Hp->Prop) (vs:List V) (H:Hp):Prop:= ∃i j:Int,vs=[.int i, .int j]/\(-(2^62)<=i/\i<2^62/\ -(2^62)<=j/\j<2^62)/\R (oV i (j-i).toNat) H
theorem uR {tl:TE} {R:It->Hp->Prop} (h:tl σ H (iL K R)):fK K tl σ H R:=h
theorem Af {tl:TE} {R:It->Hp->Prop} (h:tl σ H (iT K R)):lz K tl σ H R:=h
theorem uT {ta:TA} {R:It->Hp->Prop} (h:ta σ H (iR R)):fG ta σ H R:=h
noncomputable def iS (R:It->Hp->Prop) (x:V) (H:Hp):Prop:= ∃z,x= .str z/\R (RT z) H
noncomputable def iZ (K:W.Frag) (R:It->Hp->Prop) (vs:List V) (H:Hp):Prop:= ∃a b xs ys,vs=[.ref a, .ref b]/\SqL K H a xs/\SqL K H b ys/\R (RW K a b) H
end
section
variable {σ:St} {H:Hp} {Q:VK} {D:Ends} {K:W.Frag} {g:TG} {tb:TS} {κ:List (Option Nat)} {tc:TT} {te:TE}
theorem uU {α:Type} (c:α->V) {a:Addr} {zs:List α} (hx:SqL K H a (zs.map c)) (Pv:Nat->St->Hp->Prop) (h0:Pv 0 σ H) (hl: ∀i σ H',Pv i σ H'->SqL K H' a (zs.map c))
  (hs: ∀ (i:Nat) z σ H',zs[i]? =some z->Pv i σ H'->g (c z) σ H' fun σ2 H2=>tb { D with nx:=Pv (i+1),ct:=Pv (i+1),bk:=D.nx } σ2 H2) (hd: ∀σ H',Pv zs.length σ H'->D.nx σ H'):iL K (sJ g tb D σ) (.ref a) H:=by
 refine ⟨a,rfl,⟨_,hx⟩,wY (K:=K) (a:=a) (xs:=zs.map c) Pv h0 (fun i σ H _ h=>hl i σ H h) ?_ ?_⟩
 ·intro i x σ H' hi p
  rw [Zd] at hi
  obtain ⟨z,hz,rfl⟩:=Yn.mp hi
  exact hs i z σ H' hz p
 ·intro σ H' p
  rw [Qr] at p
  exact hd σ H' p
theorem Ag {α:Type} (c:α->V) {a:Addr} {zs:List α} (hx:SqT K H a (zs.map c)) (Pv:Nat->St->Hp->Prop) (h0:Pv 0 σ H) (hl: ∀i σ H',Pv i σ H'->SqT K H' a (zs.map c))
  (hs: ∀ (i:Nat) z σ H',zs[i]? =some z->Pv i σ H'->g (c z) σ H' fun σ2 H2=>tb { D with nx:=Pv (i+1),ct:=Pv (i+1),bk:=D.nx } σ2 H2) (hd: ∀σ H',Pv zs.length σ H'->D.nx σ H'):iT K (sJ g tb D σ) (.ref a) H:=by
 refine ⟨a,rfl,⟨_,hx⟩,Di (K:=K) (a:=a) (xs:=zs.map c) Pv h0 (fun i σ H _ h=>hl i σ H h) ?_ ?_⟩
 ·intro i x σ H' hi p
  rw [Zd] at hi
  obtain ⟨z,hz,rfl⟩:=Yn.mp hi
  exact hs i z σ H' hz p
 ·intro σ H' p
  rw [Qr] at p
  exact hd σ H' p
theorem mF {n:Int} (m:Nat) (e:n.toNat=m) (hm:m<=1000000000) (hn: -1000000000<=n) (Pv:Nat->St->Hp->Prop) (h0:Pv 0 σ H)
  (hs: ∀ (i:Nat) σ H',i<m->Pv i σ H'->g (.int (i:Int)) σ H' fun σ2 H2=>tb { D with nx:=Pv (i+1),ct:=Pv (i+1),bk:=D.nx } σ2 H2) (hd: ∀σ H',Pv m σ H'->D.nx σ H'):iR (sJ g tb D σ) [.int n] H:=by
 refine ⟨n,rfl,by rfl',by rfl',?_⟩
 rw [e]
 refine vz Pv h0 (fun i σ H' hi p=> ?_) hd
 rw [Int.zero_add]
 exact hs i σ H' hi p
theorem Ga {n:Int} (m:Nat) (e:n.toNat=m) (hm:m<=1000000) (hn: -1000000000<=n) (Pv:Nat->List V->Hp->Prop) (h0:Pv 0 [] H) (hz: ∀i ys H',Pv i ys H'->ys.length<=i)
  (hs: ∀ (i:Nat) ys H',i<m->Pv i ys H'->g (.int (i:Int)) (cap κ σ) H' fun σ2 H2=>n6 (cap κ σ) σ2/\tc σ2 H2 fun b H3=>if b=true then te σ2 H3 fun y H4=>Pv (i+1) (ys++[y]) H4 else Pv (i+1) ys H3)
  (hd: ∀ys H',Pv m ys H'-> ∀p,H' p=none->Q (.ref p) (upd H' p (.lst ys))):iR (G9 κ g tc te σ Q) [.int n] H:=by
 refine ⟨n,rfl,by rfl',by rfl',?_⟩
 rw [e]
 refine yc Pv h0 (Yk hm (by decide)) hz (fun i ys H' hi p=> ?_) hd
 rw [Int.zero_add]
 exact hs i ys H' hi p
theorem Pu {n:Int} (m:Nat) (e:n.toNat=m) (hm:m<=1000000) (hn: -1000000000<=n) (f:Nat->V)
  (hs: ∀i,i<m-> ∀ (A:VK),A (f i) H->g (.int (i:Int)) (cap κ σ) H fun σ2 H2=>n6 (cap κ σ) σ2/\te σ2 H2 A)
  (hd: ∀p,H p=none->Q (.ref p) (upd H p (.lst ((List.range m).map f)))):iR (G9 κ g dj te σ Q) [.int n] H:=by
 refine Ga m e hm hn (fun i ys H'=>H'=H/\ys=(List.range i).map f) ⟨rfl,rfl⟩ ?_ ?_ ?_
 ·rintro i ys _ ⟨rfl,rfl⟩
  simp
 ·rintro i ys H' hi ⟨e1,rfl⟩
  subst e1
  have q:=hs i hi (fun y H4=>H4=H'/\(List.range i).map f++[y]=(List.range (i+1)).map f) ⟨rfl,by rw [List.range_succ,Zw];rfl⟩
  simpa only [dj,if_true] using q
 ·rintro ys _ ⟨rfl,rfl⟩ p hp
  exact hd p hp
theorem Gb {α:Type} (c:α->V) {a:Addr} {zs:List α} (hx:SqL K H a (zs.map c)) (hn:zs.length<=1000000) (Pv:Nat->List V->Hp->Prop) (h0:Pv 0 [] H) (hl: ∀i ys H',Pv i ys H'->SqL K H' a (zs.map c)) (hz: ∀i ys H',Pv i ys H'->ys.length<=i)
  (hs: ∀ (i:Nat) z ys H',zs[i]? =some z->Pv i ys H'->g (c z) (cap κ σ) H' fun σ2 H2=>n6 (cap κ σ) σ2/\tc σ2 H2 fun b H3=>if b=true then te σ2 H3 fun y H4=>Pv (i+1) (ys++[y]) H4 else Pv (i+1) ys H3)
  (hd: ∀ys H',Pv zs.length ys H'-> ∀p,H' p=none->Q (.ref p) (upd H' p (.lst ys))):iL K (G9 κ g tc te σ Q) (.ref a) H:=by
 refine ⟨a,rfl,⟨_,hx⟩,DX (K:=K) (a:=a) (xs:=zs.map c) Pv h0 (by rw [Qr];exact Yk hn (by decide)) (fun i ys H' _ p=>hl i ys H' p) hz ?_ ?_⟩
 ·intro i x ys H' hi p
  rw [Zd] at hi
  obtain ⟨z,hz,rfl⟩:=Yn.mp hi
  exact hs i z ys H' hz p
 ·intro ys H' p
  rw [Qr] at p
  exact hd ys H' p
theorem Px {α:Type} (c:α->V) {a:Addr} {zs:List α} (hx:SqL K H a (zs.map c)) (hn:zs.length<=1000000) (f:α->V)
  (hs: ∀ (i:Nat) z,zs[i]? =some z-> ∀ (A:VK),A (f z) H->g (c z) (cap κ σ) H fun σ2 H2=>n6 (cap κ σ) σ2/\te σ2 H2 A)
  (hd: ∀p,H p=none->Q (.ref p) (upd H p (.lst (zs.map f)))):iL K (G9 κ g dj te σ Q) (.ref a) H:=by
 refine Gb c hx hn (fun i ys H'=>H'=H/\ys=(zs.take i).map f) ⟨rfl,rfl⟩ ?_ ?_ ?_ ?_
 ·rintro i ys _ ⟨rfl,_⟩
  exact hx
 ·rintro i ys _ ⟨rfl,rfl⟩
  rw [Qr,Yf];rfl'
 ·rintro i z ys H' hz ⟨e1,rfl⟩
  subst e1
  have et:zs.take (i+1)=zs.take i++[z]:=by rw [Yz,hz];rfl
  have q:=hs i z hz (fun y H4=>H4=H'/\(zs.take i).map f++[y]=(zs.take (i+1)).map f) ⟨rfl,by rw [et,Zw];rfl⟩
  simpa only [dj,if_true] using q
 ·rintro ys _ ⟨rfl,rfl⟩ p hp
  rw [Wp]
  exact hd p hp
end
noncomputable def Thing (H:Hp):V->Prop
 | .non=>True
 | .bl _=>True
 | .int _=>True
 | .str x=>x.length<=100000
 | .ref a=>(∃xs,H a=some (.lst xs))\/(∃xs,H a=some (.tup xs))\/ ∃kvs,H a=some (.dK kvs)
 | _=>False
noncomputable def isI:V->Bool
 | .int _=>true
 | _=>false
theorem nZ {K:W.Frag} {H:Hp} {Q:VK} {T:String} {x:V} {t:Value} {b:Bool} (ty:TyOf K H x t) (e:PySem.W.kitOne K t (.type T)=some b) (h:Q (.bl b) H):dO K [x, .ty T] H Q:=⟨T,x,t,b,rfl,ty,e,h⟩
section
variable {σ:St} {H:Hp} {Q:VK} {D:Ends} {K:W.Frag}
theorem sO {i j:Str} (e:i.length+j.length<=1000000) (h:Q (.str (i++j)) H):gr (.str i) (.str j) H Q:=⟨i,j,rfl,rfl,Yk e (by decide),h⟩
theorem fC {a:Addr} {xs:List V} (e:SqL K H a xs) (h:Q (.int xs.length) H):cu K [.ref a] H Q:=⟨_,_,rfl, .inl ⟨xs,e,rfl⟩,h⟩
theorem c7 {a:Addr} {xs:List V} (e:SqT K H a xs) (h:Q (.int xs.length) H):cu K [.ref a] H Q:=⟨_,_,rfl, .inr ⟨xs,e,rfl⟩,h⟩
theorem Ah {x:Str} (e:x.length<=1000000) (h:Q (.int x.length) H):cu K [.str x] H Q:=⟨_,_,rfl,⟨Nat.le_trans e (by decide),rfl⟩,h⟩
theorem dB {a:Addr} {xs:List V} {i:Int} {v:V} (e:SqL K H a xs) (ev:vH xs i=some v) (h:Q v H):dC K (.ref a) (.int i) H Q:=⟨a,xs,i,v,rfl,rfl,e,ev,h⟩
theorem bD {a:Addr} {xs:List V} {i:Int} {v:V} (e:SqT K H a xs) (ev:vH xs i=some v) (h:Q v H):bQ K (.ref a) (.int i) H Q:=⟨a,xs,i,v,rfl,rfl,e,ev,h⟩
theorem Py {x:Str} {i:Int} {c:Nat} (e:x.length<=1000000) (ev:vH x.cps.toList i=some c) (h:Q (.str ⟨#[c]⟩) H):Jl (.str x) (.int i) H Q:=⟨x,i,c,rfl,rfl,Yk e (by decide),ev,h⟩
theorem uV (h: ∀p,H p=none->Q (.ref p) (upd H p (.dK []))):mX σ H Q:=h
theorem uW {tk tv:TE} (h: ∀p,H p=none->tk σ (upd H p (.dK [])) fun x H1=>tv σ H1 fun y H2=>H2 p=some (.dK [])/\ ∃kvs:List (Key×V),[(x,y)]=kvs.map (fun kv=>(kV kv.1,kv.2))/\kvs.length<=15/\Q (.ref p) (upd H2 p (.dK (eZ [] kvs)))):xU [(tk,tv)] σ H Q:=h
theorem oh {c:TT} {tb:TS} (Pv:St->Hp->Prop) (μ:St->Hp->Nat) (h0:Pv σ H)
  (hs: ∀σ H,Pv σ H->c σ H fun b H1=>if b=true then tb { D with nx:=fun σ' H'=>Pv σ' H'/\μ σ' H'<μ σ H,ct:=fun σ' H'=>Pv σ' H'/\μ σ' H'<μ σ H,bk:=D.nx } σ H1 else D.nx σ H1)
  (mono: ∀σ H Q Q',(∀b H1,Q b H1->Q' b H1)->c σ H Q->c σ H Q'):fJ c tb D σ H:=oW Pv μ h0 hs mono
end
section
variable {σ:St} {H:Hp} {Q:VK} {R:Bool->Hp->Prop} {b c:Bool}
theorem uX {t u:TT} (h1: ∀R:Bool->Hp->Prop,R b H->t σ H R) (h2: ∀R:Bool->Hp->Prop,R c H->u σ H R) (h:R (b&&c) H):wM t u σ H R:=by
 refine h1 _ ?_
 cases b with
 | true=>rw [if_pos rfl];rw [Bool.true_and] at h;exact h2 _ h
 | false=>rw [if_neg Zl];rw [Bool.false_and] at h;exact h
end
noncomputable def Sb (ps:List Addr) (H H':Hp):Prop:= ∀b o,b∉ps->H b=some o->H' b=some o
theorem Sb.of {ps:List Addr} {H H':Hp} (s:Same H H'):Sb ps H H':=fun b o _ e=>s b o e
theorem Sb.same {ps:List Addr} {H H1 H2:Hp} (e:Sb ps H H1) (s:Same H1 H2):Sb ps H H2:=fun b o n q=>s b o (e b o n q)
theorem Sb.new {ps:List Addr} {H H1:Hp} {p:Addr} {o:HO} (e:Sb ps H H1) (h:H1 p=none):Sb ps H (upd H1 p o):=e.same (aG h o)
theorem Sb.set {ps:List Addr} {H H1:Hp} {p:Addr} {o:HO} (e:Sb ps H H1) (h:p∈ps):Sb ps H (upd H1 p o):=fun b u n q=>by
 rw [aF (show b≠p from fun z=>n (by rw [z];exact h))];exact e b u n q
theorem Sb.get {ps:List Addr} {H H1:Hp} {a:Addr} {o:HO} (e:Sb ps H H1) (n:a∉ps) (h:H a=some o):H1 a=some o:=e a o n h
theorem Sb.more {ps qs:List Addr} {H H1:Hp} (e:Sb ps H H1) (h: ∀p∈ps,p∈qs):Sb qs H H1:=fun b o n q=>e b o (fun z=>n (h b z)) q
theorem Sb.seq {ps:List Addr} {K:W.Frag} {H H1:Hp} {a:Addr} {xs:List V} (e:Sb ps H H1) (hp: ∀p∈ps,H p=none) (h:SqL K H a xs):SqL K H1 a xs:=by
 have na: ∀o,H a=some o->a∉ps:=fun o q z=>by rw [hp a z] at q;cases q
 rcases h with (h | ⟨o,h⟩) | h
 ·exact .inl (.inl (e a _ (na _ h) h))
 ·exact .inl (.inr ⟨o,e a _ (na _ h) h⟩)
 ·exact .inr h
theorem Sb.at {ps:List Addr} {H H1:Hp} {a:Addr} {o:HO} (e:Sb ps H H1) (hp: ∀p∈ps,H p=none) (h:H a=some o):H1 a=some o:=e a o (fun z=>by rw [hp a z] at h;cases h) h
section
variable {σ:St} {H:Hp} {Q:VK} {D:Ends} {K:W.Frag} {g:TG} {tb:TS} {κ:List (Option Nat)} {tc:TT} {te:TE}
noncomputable def U9 (R:It->Hp->Prop) (vs:List V) (H:Hp):Prop:= ∃ (i j c:Int) (n:Nat),vs=[.int i, .int j, .int c]/\c≠0/\Builtin.Range.small i j c=true/\Builtin.divisionGoesByPylong (j-i) c=false/\Builtin.Range.rangeSize i j c=(n:Int)/\R (NT i c n) H
end
section
variable {σ:St} {H:Hp} {Q:VK} {D:Ends} {K:W.Frag}
theorem Pz {a:Addr} {ns:List Int} (e:SqL K H a (ns.map V.int)) (h:Q (.int ns.sum) H):Jx K [.ref a] H Q:=⟨a,ns,rfl,e,h⟩
theorem Ij {i j:Int} (h:Q (.int (if j<i then j else i)) H):rC [.int i, .int j] H Q:=⟨i,j,rfl,h⟩
theorem kJ {l:Addr} {xs:List V} {y:V} (e:H l=some (.lst xs)) (n:xs.length<=1000000) (h:Q .non (upd H l (.lst (xs++[y])))):cY (.ref l) [y] H Q:=⟨l,xs,y,rfl,rfl,e,Yg n (by decide),h⟩
theorem Ai {l:Addr} {xs:List V} {k:Int} {v:V} {R:Hp->Prop} (j:Nat) (e:H l=some (.lst xs)) (ej:k=(j:Int)) (hj:j<xs.length) (h:R (upd H l (.lst (xs.set j v)))):uh (.ref l) (.int k) v H R:=by
 refine ⟨l,xs,k,j,rfl,rfl,e,?_,h⟩
 subst ej
 unfold Hi
 rw [if_pos (by rfl'),if_pos (by rfl')];simp
end
mutual
theorem eqv_refl: ∀d:PyData,d.canLay0=true->PyData.eqv d d=true
 | .none,_=>by simp [PyData.eqv]
 | .bool b,_=>by simp [PyData.eqv]
 | .int i,_=>by simp [PyData.eqv]
 | .str x,_=>by simp [PyData.eqv]
 | .list xs,h=>by
  simp only [PyData.eqv];exact eqvAll_refl xs (by simpa only [PyData.canLay0] using h)
 | .tuple xs,h=>by
  simp only [PyData.eqv];exact eqvAll_refl xs (by simpa only [PyData.canLay0] using h)
 | .dict kvs,h=>by simp [PyData.canLay0] at h
theorem eqvAll_refl: ∀ds:List PyData,PyData.canLayAll0 ds=true->PyData.eqvAll ds ds=true
 | [],_=>by simp [PyData.eqvAll]
 | d::r,h=>by
  simp only [PyData.canLayAll0,Bool.and_eq_true] at h
  simp only [PyData.eqvAll,eqv_refl d h.1,eqvAll_refl r h.2,Bool.and_self]
end
noncomputable def Sh (n:Nat) (d:PyData):Prop:=d.canLay0=true/\d.depth<=n
theorem sS {n:Nat}: ∀ {ds:List PyData},(∀d∈ds,Sh n d)->PyData.canLayAll0 ds=true/\PyData.depthAll ds<=n
 | [],_=>⟨by simp [PyData.canLayAll0],by simp [PyData.depthAll]⟩
 | d::r,h=>by
  obtain ⟨h1,h2⟩:=h d Zq
  obtain ⟨h3,h4⟩:=sS (ds:=r) fun e he=>h e (Zs _ he)
  exact ⟨by simp [PyData.canLayAll0,h1,h3],by simp only [PyData.depthAll];rfl'⟩
theorem Ge {n:Nat} {ds:List PyData} (h: ∀d∈ds,Sh n d):Sh (n+1) (.list ds):=by
 obtain ⟨h1,h2⟩:=sS h
 exact ⟨by simp only [PyData.canLay0];exact h1,by simp only [PyData.depth];rfl'⟩
theorem sU {n:Nat} {ds:List PyData} (h: ∀d∈ds,Sh n d):Sh (n+1) (.tuple ds):=by
 obtain ⟨h1,h2⟩:=sS h
 exact ⟨by simp only [PyData.canLay0];exact h1,by simp only [PyData.depth];rfl'⟩
theorem ou (n:Nat) (i:Int):Sh n (.int i):=⟨by simp [PyData.canLay0],by simp [PyData.depth]⟩
theorem Sh.shaped {n:Nat} {d:PyData} (h:Sh n d) (hn:n<=64):SeqAt.shaped d=true:=by
 unfold SeqAt.shaped
 rw [h.1,Ym (Yk h.2 hn)];rfl
section
variable {H:Hp} {Q:VK} {K:W.Frag} {x y:V} {d:PyData} {n:Nat}
theorem rEqD.same (h1:Dp K H x d) (h2:Dp K H y d) (hs:Sh n d) (hn:n<=64) (q:Q (.bl true) H):rEqD K x y H Q:=⟨d,d,h1,h2,hs.shaped hn,hs.shaped hn,by rw [eqv_refl d hs.1];exact q⟩
theorem rNeD.same (h1:Dp K H x d) (h2:Dp K H y d) (hs:Sh n d) (hn:n<=64) (q:Q (.bl false) H):rNeD K x y H Q:=⟨d,d,h1,h2,hs.shaped hn,hs.shaped hn,by rw [eqv_refl d hs.1];exact q⟩
structure RefF (K:W.Frag) (C B:Addr) (ds es:List Addr):Prop where
 ex:ExcK K C
 em:PySem.W.exmOne K (.ref C) (.ref C)=some true
 kb:PySem.W.kitOne K (.ref C) (.ref B)=some true
 kv:PySem.W.kitOne K (.ref C) (.type "ValueError")=some true
 k1:PySem.W.kitAny K (.ref C) (ds.map Value.ref)=some false
 k2:PySem.W.kitAny K (.ref C) (es.map Value.ref)=some false
theorem Ik {a:Addr} {xs:List V} {lo hi:Option Int} (e:SqL K H a xs) (h: ∀p,H p=none->Q (.ref p) (upd H p (.lst (dY xs lo hi)))):xH K (.ref a) lo hi H Q:=⟨a,xs,rfl,e,h⟩
end
theorem Sb.off {ps:List Addr} {H H':Hp} (e:Sb ps H H') (hp: ∀p∈ps,H p=none):Same H H':=fun b o q=>e.at hp q
noncomputable def Ua (K:W.Frag) (H:Hp) (q:Addr) (ss:List (Int×Int)):Prop:= ∃zs:List (Addr×Int×Int),zs.map (·.2)=ss/\SqL K H q (zs.map fun z=>V.ref z.1)/\ ∀z∈zs,SqT K H z.1 [.int z.2.1, .int z.2.2]
theorem oA {t u:TS} {D:Ends} {σ:St} {H:Hp} (J:St->Hp->Prop) (h2: ∀σ' H',J σ' H'->u D σ' H') (h1: ∀N:St->Hp->Prop,(∀σ' H',J σ' H'->N σ' H')->t { D with nx:=N } σ H):aQ t u D σ H:=h1 _ h2
noncomputable def tx (cs:List Nat):Str:=⟨cs.toArray⟩
theorem Km (a b:List Nat):tx a++tx b=tx (a++b):=by
 show (⟨a.toArray++b.toArray⟩:Str)=⟨(a++b).toArray⟩
 simp
theorem fD (cs:List Nat):(tx cs).length=cs.length:=by show cs.toArray.size=_;simp
theorem sV (cs:List Nat):(tx cs).cps.toList=cs:=rfl
theorem Ko {a b:List Nat}:tx a=tx b↔a=b:=by
 constructor
 ·intro h
  have:=Xr (fun s:Str=>s.cps.toList) h
  simpa [tx] using this
 ·intro h;rw [h]
theorem PB {cs:List Nat} {j:Nat} (h:j<=cs.length):Txt.slice (tx cs) none (some (j:Int))=tx (cs.take j):=by
 have:=beq_iff_eq.mp (PyProof.Rows.slice_closes_to (x:=tx cs) (j:=(j:Int)) ⟨by rfl',by rw [sV];rfl'⟩)
 rw [this];simp [tx]
theorem Gf {cs:List Nat} {j:Nat} (h:j<=cs.length):Txt.slice (tx cs) (some (j:Int)) none=tx (cs.drop j):=by
 have:=beq_iff_eq.mp (PyProof.Rows.slice_closes_from (x:=tx cs) (i:=(j:Int)) ⟨by rfl',by rw [sV];rfl'⟩)
 rw [this,sV]
 show tx _=tx _
 rw [Yb,Xd (by rw [Xs];rfl')]
section
variable {σ:St} {H:Hp} {Q:VK} {D:Ends} {K:W.Frag} {g:TG} {κ:List (Option Nat)} {tc:TT} {te:TE}
theorem Il {s:Str} {lo hi:Option Int} (e:s.length<=1000000) (h:Q (.str (Txt.slice s lo hi)) H):Ed (.str s) lo hi H Q:=⟨s,rfl,Yk e (by decide),h⟩
noncomputable def iE (K:W.Frag) (R:It->Hp->Prop) (vs:List V) (H:Hp):Prop:= ∃a xs,vs=[.ref a]/\SqL K H a xs/\R (Rf K a) H
theorem uY {ta:TA} {R:It->Hp->Prop} (h:ta σ H (iE K R)):ut K ta σ H R:=h
end
theorem Gg {α:Type} {xs:List α} {i:Int} (h0:0<=i) (h1:i<xs.length): ∃v,v∈xs/\vH xs i=some v:=⟨_,Xh (by rfl'),Kl h0 (by rfl')⟩
section
variable {σ:St} {H:Hp} {Q:VK} {D:Ends} {K:W.Frag} {g:TG} {tb:TS}
noncomputable def iD (R:It->Hp->Prop):V->Hp->Prop:=fun x H1=> ∃a kvs,x= .ref a/\H1 a=some (.dT kvs)/\ ∀od,R (S7 od a) (upd H1 a (.frz od (.dT kvs)))
theorem Aj {td ty tv:TE} (h:tv σ H fun v H1=>td σ H1 fun x H2=>ty σ H2 fun y H3=> ∃a H4,x= .ref a/\DPut H3 a y v H4/\D.nx σ H4):p7 td ty tv D σ H:=h
theorem Ak {td ty:TE} (h:td σ H fun x H1=>ty σ H1 fun y H2=> ∃a v,x= .ref a/\DGet H2 a y (some v)/\Q v H2):j8 td ty σ H Q:=h
noncomputable def Ub (H:Hp) (zs:List (Addr×Int×Int)):Prop:= ∀z∈zs,H z.1=some (.tup [.int z.2.1, .int z.2.2])
end
end L2
namespace L2
open PySem
section
variable {σ:St} {H:Hp} {Q:VK} {D:Ends} {K:W.Frag}
theorem PJ {te:TE} {R:Bool->Hp->Prop} (h:te σ H fun x H'=> ∃k,x= .bl k/\R k H'):tB te σ H R:=h
theorem oE {p:Addr} {ys:List V} (e:SqL K H p ys) (h: ∀l,H l=none->Q (.ref l) (upd H l (.tup ys))):fP K [.ref p] H Q:=⟨p,ys,rfl, .inl ⟨e,h⟩⟩
theorem Im {ty td:TE} (h:ty σ H fun y H1=>td σ H1 fun x H2=> ∃a o,x= .ref a/\DGet H2 a y o/\Q (.bl o.isSome) H2):xR ty td σ H Q:=h
theorem qu {ty td:TE} (h:ty σ H fun y H1=>td σ H1 fun x H2=> ∃a o,x= .ref a/\DGet H2 a y o/\Q (.bl (!o.isSome)) H2):mV ty td σ H Q:=h
theorem uZ {x:V} {p:Addr} {xs:List V} (e:SqL K H p xs\/SqT K H p xs) (hx:dJ x=true) (ha:xs.all dJ=true) (h:Q (.bl (!inV x xs)) H):Nz K true x (.ref p) H Q:=⟨p,xs,rfl,e,hx,ha,h⟩
theorem v4 {a:Addr} {zs:List (Addr×Str×List V)} (hx:SqL K H a (zs.map fun z=>V.ref z.1)) (hz: ∀z∈zs,SqT K H z.1 (.str z.2.1::z.2.2)) (hd:(zs.map (·.2.1)).Nodup) (h64:zs.length<64)
  (h: ∀r (ws:List (Addr×Str×List V)),ws.Perm zs->(ws.map (·.2.1)).Pairwise (fun a b=>a.cps.toList<b.cps.toList)->H r=none->Q (.ref r) (upd H r (.lst (ws.map fun z=>V.ref z.1)))):iQ K [.ref a] H Q:=⟨a,zs,rfl,hx,hz,hd,h64,h⟩
end
theorem Gh (s:Str) (ns:List Str):inV (.str s) (ns.map V.str)=decide (s∈ns):=by
 unfold inV
 rw [List.any_map]
 induction ns with
 | nil=>simp
 | cons n r ih=>
  rw [List.any_cons,ih]
  by_cases h:n=s
  ·subst h;simp [wJ]
  ·simp [wJ,h,Ne.symm h]
theorem wG (ns:List Str):(ns.map V.str).all dJ=true:=by
 rw [List.all_map];simp [Function.comp_def,dJ]
noncomputable def ov:Option Int->V
 | none=> .non
 | some i=> .int i
noncomputable def DrT (K:W.Frag) (H:Hp) (a:Addr) (ps:List (Str×Int)):Prop:= ∃zs:List (Addr×Str×Int),zs.map (·.2)=ps/\H a=some (.tup (zs.map fun z=>V.ref z.1))/\ ∀z∈zs,H z.1=some (.tup [.str z.2.1, .int z.2.2])
theorem DrT.same {K:W.Frag} {H H':Hp} {a:Addr} {ps:List (Str×Int)} (h:DrT K H a ps) (s:Same H H'):DrT K H' a ps:=by
 obtain ⟨zs,e,h1,h2⟩:=h
 exact ⟨zs,e,s.get h1,fun z hz=>s.get (h2 z hz)⟩
noncomputable def HsT (K:W.Frag) (H:Hp) (a:Addr) (ds:List (List (Str×Int))) (es:List Int):Prop:= ∃ (d e:Addr) (rs:List (Addr×List (Str×Int))),H a=some (.tup [.ref d, .ref e])/\rs.map (·.2)=ds/\H d=some (.tup (rs.map fun r=>V.ref r.1))/\(∀r∈rs,DrT K H r.1 r.2)/\H e=some (.tup (es.map V.int))
theorem HsT.same {K:W.Frag} {H H':Hp} {a:Addr} {ds:List (List (Str×Int))} {es:List Int} (h:HsT K H a ds es) (s:Same H H'):HsT K H' a ds es:=by
 obtain ⟨d,e,rs,h1,h2,h3,h4,h5⟩:=h
 exact ⟨d,e,rs,s.get h1,h2,s.get h3,fun r hr=>(h4 r hr).same s,s.get h5⟩
noncomputable def DrG (K:W.Frag) (H:Hp) (a:Addr) (ps:List (Str×Int)):Prop:= ∃zs:List (Addr×Str×Int),zs.map (·.2)=ps/\SqT K H a (zs.map fun z=>V.ref z.1)/\ ∀z∈zs,H z.1=some (.tup [.str z.2.1, .int z.2.2])
theorem DrT.g {K:W.Frag} {H:Hp} {a:Addr} {ps:List (Str×Int)} (h:DrT K H a ps):DrG K H a ps:=by
 obtain ⟨zs,e,h1,h2⟩:=h
 exact ⟨zs,e,SqT.of h1,h2⟩
theorem DrG.same {K:W.Frag} {H H':Hp} {a:Addr} {ps:List (Str×Int)} (h:DrG K H a ps) (s:Same H H'):DrG K H' a ps:=by
 obtain ⟨zs,e,h1,h2⟩:=h
 exact ⟨zs,e,s.tup h1,fun z hz=>s.get (h2 z hz)⟩
noncomputable def Rw (K:W.Frag) (H:Hp) (a:Addr) (ds:List (List (Str×Int))) (es:List Int):Prop:= ∃ (d e:Addr) (rs:List (Addr×List (Str×Int))),H a=some (.tup [.ref d, .ref e])/\rs.map (·.2)=ds/\SqT K H d (rs.map fun r=>V.ref r.1)/\(∀r∈rs,DrG K H r.1 r.2)/\H e=some (.tup (es.map V.int))
theorem HsT.g {K:W.Frag} {H:Hp} {a:Addr} {ds:List (List (Str×Int))} {es:List Int} (h:HsT K H a ds es):Rw K H a ds es:=by
 obtain ⟨d,e,rs,h1,h2,h3,h4,h5⟩:=h
 exact ⟨d,e,rs,h1,h2,SqT.of h3,fun r hr=>(h4 r hr).g,h5⟩
theorem Dp.intsT {K:W.Frag} {H:Hp} {a:Addr} {es:List Int} (h:SqT K H a (es.map V.int)):Dp K H (.ref a) (.tuple (es.map PyData.int)):= .tup h (DpAll.ints es)
noncomputable def hsD (ds:List (List (Str×Int))) (es:List Int):PyData:= .tuple [.tuple (ds.map fun ps=> .tuple (ps.map fun s=> .tuple [.str s.1, .int s.2])), .tuple (es.map PyData.int)]
end L2
namespace Hs
open PySem L2
noncomputable def dr (ps:List (Str×Int)) (s:Str):Option Int:=(ps.find? fun p=>decide (p.1=s)).map (·.2)
noncomputable def stp (ds:List (List (Str×Int))) (o:Option Int) (s:Str):Option Int:=o.bind fun r=>dr (ds.getD r.toNat []) s
noncomputable def go (ds:List (List (Str×Int))) (cs:List Nat):Option Int:=cs.foldl (fun o c=>stp ds o (tx [c])) (some 0)
structure Wf (ds:List (List (Str×Int))):Prop where
 pos:0<ds.length
 rm: ∀ps∈ds,∀p∈ps,0<=p.2/\p.2<ds.length
noncomputable def Kq:Str:=Str.ofString " !\"#$&'()*+,-./0123456789:;<=>?@ABCDEFGHIJKLMNOPQRSTUVWXYZ[\\]^_`"++Str.ofString "abcdefghijklmnopqrstuvwxyz{|}~"
noncomputable def T9 (n:Int):Nat:=Kq.cps.toList.getD (n%94).toNat 0
noncomputable def Sg (s:Str):Prop:= ∃n:Int,s=tx [T9 n]
noncomputable def Tc (many i:Nat) (r:List (Addr×Str×Int)):Prop:=(r.map (·.2.1)).Nodup/\r.length<=i/\ ∀z∈r,Sg z.2.1/\0<=z.2.2/\z.2.2<many
end Hs
namespace L2
open PySem
noncomputable abbrev Dz:=Addr×Str×Int
noncomputable def Rws (H:Hp) (rows:List (Addr×List Dz)):Prop:=(rows.map (·.1)).Nodup/\ ∀row∈rows,H row.1=some (.lst (row.2.map fun z:Dz=>V.ref z.1))/\ ∀z∈row.2,H z.1=some (.tup [.str z.2.1, .int z.2.2])
theorem Rws.same {H H':Hp} {rows:List (Addr×List Dz)} (h:Rws H rows) (s:Same H H'):Rws H' rows:=⟨h.1,fun row hr=>⟨s.get (h.2 row hr).1,fun z hz=>s.get ((h.2 row hr).2 z hz)⟩⟩
theorem v5 {rows:List (Addr×List Dz)} {j:Nat} (hj:j<rows.length) (ys:List Dz):(rows.set j (rows[j].1,ys)).map (·.1)=rows.map (·.1):=by
 apply List.ext_getElem?
 intro k
 rw [Zd,Zd,List.getElem?_set]
 by_cases e:j=k
 ·subst e;rw [if_pos rfl,if_pos hj,Zc hj];rfl
 ·rw [if_neg e]
theorem Rws.app {H:Hp} {rows:List (Addr×List Dz)} {j:Nat} {t:Addr} {s:Str} {r:Int} (h:Rws H rows) (hj:j<rows.length) (ht:H t=some (.tup [.str s, .int r])):
  Rws (upd H rows[j].1 (.lst ((rows[j].2++[(t,s,r)]).map fun z:Dz=>V.ref z.1))) (rows.set j (rows[j].1,rows[j].2++[(t,s,r)])):=by
 refine ⟨by rw [v5 hj];exact h.1,fun row hr=> ?_⟩
 have hjm:rows[j]∈rows:=Xh hj
 have hl:=(h.2 _ hjm).1
 rcases Wj hr with m | rfl
 ·obtain ⟨k,hk,e⟩:=List.mem_iff_getElem.mp hr
  rw [List.getElem_set] at e
  by_cases q:j=k
  ·rw [if_pos q] at e
   subst e
   refine ⟨au,fun z hz=> ?_⟩
   rcases Yc.mp hz with w | w
   ·rw [aF (cO ((h.2 _ hjm).2 z w) hl (by intro q;cases q))];exact (h.2 _ hjm).2 z w
   ·rw [Zf.mp w]
    rw [aF (cO ht hl (by intro q;cases q))];exact ht
  ·rw [if_neg q] at e
   subst e
   rw [List.length_set] at hk
   have na:rows[k].1≠rows[j].1:=by
    intro z
    have:=(List.getElem_inj (h₀:=by simpa using hk) (h₁:=by simpa using hj) h.1).mp (by rw [List.getElem_map,List.getElem_map];exact z)
    exact q this.symm
   have hkm:rows[k]∈rows:=Xh hk
   refine ⟨by rw [aF na];exact (h.2 _ hkm).1,fun z hz=> ?_⟩
   rw [aF (cO ((h.2 _ hkm).2 z hz) hl (by intro q;cases q))];exact (h.2 _ hkm).2 z hz
 ·refine ⟨au,fun z hz=> ?_⟩
  rcases Yc.mp hz with w | w
  ·rw [aF (cO ((h.2 _ hjm).2 z w) hl (by intro q;cases q))];exact (h.2 _ hjm).2 z w
  ·rw [Zf.mp w]
   rw [aF (cO ht hl (by intro q;cases q))];exact ht
section
variable {σ:St} {H:Hp} {Q:VK} {g:TG} {κ:List (Option Nat)} {te:TE} {K:W.Frag}
theorem Kr {n:Int} (m:Nat) (e:n.toNat=m) (hm:m<=1000000) (hn: -1000000000<=n)
  (hs: ∀ (i:Nat) H',i<m-> ∀ (A:VK),(∀p,H' p=none->A (.ref p) (upd H' p (.lst [])))->g (.int (i:Int)) (cap κ σ) H' fun σ2 H2=>n6 (cap κ σ) σ2/\te σ2 H2 A)
  (hd: ∀p H' (as:List Addr),Same H H'->H p=none->as.length=m->as.Nodup->p∉as->(∀a∈as,H a=none/\H' a=some (.lst []))->H' p=some (.lst (as.map V.ref))->Q (.ref p) H'):iR (G9 κ g dj te σ Q) [.int n] H:=by
 refine Ga m e hm hn (fun i ys H'=> ∃as:List Addr,ys=as.map V.ref/\as.length=i/\as.Nodup/\Same H H'/\ ∀a∈as,H a=none/\H' a=some (.lst [])) ⟨[],rfl,rfl,List.nodup_nil,Same.refl H,by simp⟩ ?_ ?_ ?_
 ·rintro i ys H' ⟨as,rfl,rfl,_⟩;simp
 ·rintro i ys H' hi ⟨as,rfl,rfl,nd,sH,ha⟩
  have q:=hs as.length H' hi (fun y H4=> ∃as2:List Addr,as.map V.ref++[y]=as2.map V.ref/\as2.length=as.length+1/\as2.Nodup/\Same H H4/\ ∀a∈as2,H a=none/\H4 a=some (.lst [])) fun p hp=>by
   refine ⟨as++[p],by simp,by simp,?_,sH.new hp,fun a m=> ?_⟩
   ·rw [List.nodup_append]
    refine ⟨nd,by simp,fun a m b mb e=> ?_⟩
    rw [Zf.mp mb] at e
    subst e
    rw [(ha a m).2] at hp;cases hp
   ·rcases Yc.mp m with m | m
    ·exact ⟨(ha a m).1,aO hp (ha a m).2⟩
    ·rw [Zf.mp m];exact ⟨sH.free hp,au⟩
  simpa only [dj,if_true] using q
 ·rintro ys H' ⟨as,rfl,el,nd,sH,ha⟩ p hp
  refine hd p _ as (sH.new hp) (sH.free hp) el nd (fun m=> ?_) (fun a m=>⟨(ha a m).1,aO hp (ha a m).2⟩) au
  rw [(ha p m).2] at hp;cases hp
theorem oF {α β:Type} {g:α->β} {l out:List β} (h:l.Perm out): ∀ {zs:List α},l=zs.map g-> ∃ws:List α,ws.Perm zs/\out=ws.map g:=by
 induction h with
 | nil=>intro zs e;exact ⟨zs, .refl _,e⟩
 | cons x _ ih=>
  intro zs e
  cases zs with
  | nil=>cases e
  | cons z zs=>
   rw [Zr] at e
   injection e with e1 e2
   obtain ⟨ws,p,q⟩:=ih e2
   exact ⟨z::ws,p.cons z,by rw [Zr,q,e1]⟩
 | swap x y l=>
  intro zs e
  match zs,e with
  | z1::z2::r,e=>
   rw [Zr,Zr] at e
   injection e with e1 e2
   injection e2 with e2 e3
   exact ⟨z2::z1::r, .swap _ _ _,by rw [Zr,Zr,e1,e2,e3]⟩
 | trans _ _ ih1 ih2=>
  intro zs e
  obtain ⟨ws,p,q⟩:=ih1 e
  obtain ⟨us,p',q'⟩:=ih2 q
  exact ⟨us,p'.trans p,q'⟩
theorem jf {α β:Type} {g:α->β} {ws:List β} {zs:List α} (h:ws.Perm (zs.map g)): ∃vs:List α,vs.Perm zs/\ws=vs.map g:=oF h.symm rfl
theorem Gi {a:Addr} {zs:List Dz} (hx:SqL K H a (zs.map fun z=>V.ref z.1)) (hz: ∀z∈zs,SqT K H z.1 [.str z.2.1, .int z.2.2]) (hd:(zs.map (·.2.1)).Nodup) (h64:zs.length<64)
  (h: ∀r (ws:List Dz),ws.Perm zs->(ws.map (·.2.1)).Pairwise (fun a b=>a.cps.toList<b.cps.toList)->H r=none->Q (.ref r) (upd H r (.lst (ws.map fun z=>V.ref z.1)))):iQ K [.ref a] H Q:=by
 refine v4 (zs:=zs.map fun z:Dz=>(z.1,z.2.1,[V.int z.2.2])) (by rw [Zy];exact hx) (fun z m=> ?_) (by rw [Zy];exact hd) (by rw [Qr];exact h64) fun r ws hp hs hr=> ?_
 ·obtain ⟨y,my,rfl⟩:=Zg.mp m
  exact hz y my
 ·obtain ⟨vs,pv,rfl⟩:=jf hp
  rw [Zy] at hs
  have:=h r vs pv hs hr
  rw [Zy]
  exact this
end
noncomputable abbrev Lz:=Addr×Str×Addr×List Nat
noncomputable abbrev nv (xs:List Nat):List V:=xs.map fun i:Nat=>V.int (i:Int)
noncomputable def Td (K:W.Frag) (H:Hp) (a:Addr) (ht:Nat) (ls:List (Str×List Nat)):Prop:= ∃ (l:Addr) (zs:List Lz),H a=some (.tup [.int (ht:Int), .ref l])/\zs.map (fun z:Lz=>(z.2.1,z.2.2.2))=ls/\SqT K H l (zs.map fun z:Lz=>V.ref z.1)/\ ∀z∈zs,H z.1=some (.tup [.str z.2.1, .ref z.2.2.1])/\H z.2.2.1=some (.tup (nv z.2.2.2))
noncomputable def FnF (K:W.Frag) (H:Hp) (a:Addr) (ht:Nat) (ls:List (Str×List Nat)):Prop:= ∃ (l:Addr) (ob:PySem.Obj) (zs:List Lz),H a=some (.tup [.int (ht:Int), .ref l])/\zs.map (fun z:Lz=>(z.2.1,z.2.2.2))=ls/\ob.dict=none/\H l=some (.frz ob (.tup (zs.map fun z:Lz=>V.ref z.1)))/\ ∀z∈zs,H z.1=some (.tup [.str z.2.1, .ref z.2.2.1])/\H z.2.2.1=some (.tup (nv z.2.2.2))
theorem FnF.same {K:W.Frag} {H H':Hp} {a:Addr} {ht:Nat} {ls:List (Str×List Nat)} (h:FnF K H a ht ls) (s:Same H H'):FnF K H' a ht ls:=by
 obtain ⟨l,ob,zs,h1,h2,h5,h3,h4⟩:=h
 exact ⟨l,ob,zs,s.get h1,h2,h5,s.get h3,fun z hz=>⟨s.get (h4 z hz).1,s.get (h4 z hz).2⟩⟩
theorem FnF.t {K:W.Frag} {H:Hp} {a:Addr} {ht:Nat} {ls:List (Str×List Nat)} (h:FnF K H a ht ls):Td K H a ht ls:=by
 obtain ⟨l,ob,zs,h1,h2,h5,h3,h4⟩:=h
 exact ⟨l,zs,h1,h2, .inl (.inr ⟨ob,h3⟩),h4⟩
end L2
namespace Fo
open PySem L2
noncomputable def lk (ls:List (Str×List Nat)) (s:Str):Option (List Nat):=(ls.find? fun p=>decide (p.1=s)).map (·.2)
theorem iG (p:Str×List Nat) (r:List (Str×List Nat)) (s:Str):lk (p::r) s=if p.1=s then some p.2 else lk r s:=by
 unfold lk
 by_cases h:p.1=s
 ·simp [h]
 ·simp [h]
theorem sW {s:Str} {c:List Nat}: ∀ {ls:List (Str×List Nat)},lk ls s=some c->(s,c)∈ls
 | [],h=>by cases h
 | p::ps,h=>by
  rw [iG] at h
  by_cases e:p.1=s
  ·rw [if_pos e] at h
   cases h
   rw [<- e];exact Zq
  ·rw [if_neg e] at h
   exact Zs _ (sW h)
theorem sX {s:Str}: ∀ {ls:List (Str×List Nat)},s∈ls.map (·.1)-> ∃c,lk ls s=some c
 | p::ps,h=>by
  rw [iG]
  by_cases e:p.1=s
  ·exact ⟨_,if_pos e⟩
  ·rw [if_neg e]
   rcases Zu.mp h with h | h
   ·exact absurd h.symm e
   ·exact sX h
noncomputable def cl (ls:List (Str×List Nat)) (c:Nat):List Nat:=(lk ls (tx [c])).getD []
structure Wf (ht:Nat) (ls:List (Str×List Nat)):Prop where
 pos:0<ls.length
 le:ls.length<=40
 up:(ls.map (·.1)).Pairwise Jz
 sg: ∀p∈ls,Hs.Sg p.1
 c1: ∀p∈ls,1<=p.2.length/\p.2.length<=8
 cb: ∀p∈ls,∀x∈p.2,x<2^ht
end Fo
namespace L2
open PySem
noncomputable abbrev Kz:=Str×Addr×List Nat
noncomputable def TQ (kvs:List Kz):List (Key×V):=kvs.map fun p:Kz=>(Sum.inr p.1,V.ref p.2.1)
section
variable {σ:St} {H:Hp} {Q:VK} {D:Ends} {K:W.Frag} {g:TG} {κ:List (Option Nat)} {tc:TT} {te:TE}
theorem Ks {p:Addr} {ys:List V} (e:SqL K H p ys) (h: ∀l (ob:PySem.Obj),ob.dict=none->H l=none->Q (.ref l) (upd H l (.frz ob (.tup ys)))):ux K [.ref p] H Q:=⟨p,ys,rfl,e,h⟩
theorem qw {a:Addr} {ob:PySem.Obj} {zs:List (Addr×Str×V)} (h0:ob.dict=none) (h1:H a=some (.frz ob (.tup (zs.map fun z=>V.ref z.1)))) (h2: ∀z∈zs,SqT K H z.1 [.str z.2.1,z.2.2]) (h3:(zs.map (·.2.1)).Nodup) (h4:zs.length<=1000) (h: ∀r,H r=none->Q (.ref r) (upd H r (.dK (zs.map fun z=>(Sum.inr z.2.1,z.2.2))))):ir K [.ref a] H Q:=⟨a,ob,zs,rfl,h0,h1,h2,h3,h4,h⟩
theorem Al {i j:Int} {m n:Nat} (hi:PySem.Builtin.Int.intBits i<=m) (hj:PySem.Builtin.Int.intBits j<=n) (h:m+n<=134217728) (q:Q (.int (i*j)) H):nF (.int i) (.int j) H Q:=⟨i,j,rfl,rfl,PyProof.Rows.mulOk_of_bits hi hj h,q⟩
theorem Gj {i:Int} {k:Nat} (hk:k<9000) (q:Q (.int (i / 2^k)) H):nJ (.int i) (.int (1*2^(k:Int).toNat)) H Q:=by
 rw [Int.one_mul,Yb]
 refine ⟨_,_,rfl,rfl,⟨Int.pow_pos (by decide),?_⟩,q⟩
 rw [Int.natAbs_pow,show (2:Int).natAbs=2 from rfl,Nat.log2_two_pow]
 exact hk
theorem sY {i:Nat} (h:i<=1000000):PySem.Builtin.Int.intBits ((i:Nat):Int)<=2^20:=PySem.intBits_le_iff.mpr (by
 rw [Int.natAbs_natCast]
 exact Zz (Yg h (by decide:1000000<2^20)) (Nat.pow_le_pow_right (by decide) (by decide)))
theorem qx {i:Int} {k n:Nat} (hk:0<k) (h:PySem.Builtin.Int.intBits i<=n):PySem.Builtin.Int.intBits (i / (k:Int))<=n:=by
 refine PyProof.Rows.bits_of_natAbs_le ?_ h
 have h1:=Int.mul_ediv_add_emod i k
 have h2:=Int.emod_nonneg i (show (k:Int)≠0 by rfl')
 have h3:=Wy i (show 0<(k:Int) by rfl')
 generalize i / (k:Int)=q at h1 ⊢
 generalize i%(k:Int)=r at*
 rcases (show q<0\/0<=q by rfl') with hq | hq
 ·have:(k:Int)*q<=q:=by
   have:=Int.mul_le_mul_of_nonpos_right (show (1:Int)<=k by rfl') (Int.le_of_lt hq)
   rfl'
  have h4:(k:Int)*q<=(k:Int)*(-1):=Int.mul_le_mul_of_nonneg_left (by rfl') (by rfl')
  rcases (show (k:Int)*q+r<0\/0<=(k:Int)*q+r by rfl') with h5 | h5
  ·by_cases h6:q= -1
   ·rfl'
   ·have h7:((k:Int)-1)*(q+1)<=0:=Int.mul_nonpos_of_nonneg_of_nonpos (by rfl') (by rfl')
    have h8:((k:Int)-1)*(q+1)=(k:Int)*q+k-q-1:=by
     rw [Int.sub_mul,Int.mul_add,Int.mul_one,Int.one_mul];rfl'
    rfl'
  ·rfl'
 ·have:q<=(k:Int)*q:=by
   have:=Int.mul_le_mul_of_nonneg_right (show (1:Int)<=k by rfl') hq
   rfl'
  rfl'
theorem Ku {a b:Addr} {xs ys:List V} (h1:H a=some (.tup xs)) (h2:H b=some (.tup ys)) (hn:xs.length+ys.length<=1000000) (h: ∀p H',Same H H'->H' p=some (.tup (xs++ys))->Q (.ref p) H'):uF K (.ref a) (.ref b) H Q:=by
 refine ⟨a,b,xs,ys,rfl,rfl,SqT.of h1,SqT.of h2,Yk hn (by decide),fun e=> ?_,fun _ e=> ?_,fun _ _ p hp=>h p _ (aG hp _) au⟩
 ·subst e;exact h b H (Same.refl _) h2
 ·subst e;exact h a H (Same.refl _) (by rw [Yx];exact h1)
end
section
variable {σ:St} {H:Hp} {D:Ends} {u:TS}
theorem Kv {te:TE} {g:TG} (h:aZ te g { D with nx:=u D } σ H):aQ (aZ te g) u D σ H:=h
end
theorem kO {zs:List Lz} {s:Str} {co:List Nat} (h:Fo.lk (zs.map fun z:Lz=>(z.2.1,z.2.2.2)) s=some co): ∃z∈zs,z.2.2.2=co/\dh (zs.map fun z:Lz=>((Sum.inr z.2.1:Key),V.ref z.2.2.1)) (Sum.inr s)=some (.ref z.2.2.1):=by
 induction zs with
 | nil=>cases h
 | cons p r ih=>
  rw [Zr,Fo.iG] at h
  by_cases e:p.2.1=s
  ·rw [if_pos e] at h
   cases h
   exact ⟨p,Zq,rfl,di (p:=(Sum.inr p.2.1,V.ref p.2.2.1)) (by rw [e])⟩
  ·rw [if_neg e] at h
   obtain ⟨q,m,e1,e2⟩:=ih h
   exact ⟨q,Zs _ m,e1,(cQ (p:=((Sum.inr p.2.1:Key),V.ref p.2.2.1)) (fun z=>e (Sum.inr.inj z))).trans e2⟩
theorem sZ (a:Str): ¬Jz a a:=List.lt_irrefl _
theorem qy {ns:List Str} (h:ns.Pairwise Jz):ns.Nodup:=List.Pairwise.imp (S:=fun a b=>a≠b) (fun {a b} (z:Jz a b) (e:a=b)=>sZ a (by rw [<- e] at z;exact z)) h
section
variable {σ:St} {H:Hp} {Q:VK} {D:Ends} {K:W.Frag} {g:TG} {κ:List (Option Nat)} {tc:TT} {te:TE}
theorem Gk {α:Type} (c:α->V) {a:Addr} {zs:List α} (hx:SqT K H a (zs.map c)) (hn:zs.length<=1000000) (Pv:Nat->List V->Hp->Prop) (h0:Pv 0 [] H) (hl: ∀i ys H',Pv i ys H'->SqT K H' a (zs.map c)) (hz: ∀i ys H',Pv i ys H'->ys.length<=i)
  (hs: ∀ (i:Nat) z ys H',zs[i]? =some z->Pv i ys H'->g (c z) (cap κ σ) H' fun σ2 H2=>n6 (cap κ σ) σ2/\tc σ2 H2 fun b H3=>if b=true then te σ2 H3 fun y H4=>Pv (i+1) (ys++[y]) H4 else Pv (i+1) ys H3)
  (hd: ∀ys H',Pv zs.length ys H'-> ∀p,H' p=none->Q (.ref p) (upd H' p (.lst ys))):iT K (G9 κ g tc te σ Q) (.ref a) H:=by
 refine ⟨a,rfl,⟨_,hx⟩,fun i m ys H'=>m=zs.length-i/\i<=zs.length/\Pv i ys H',⟨zs.length,by simp,Yp _,h0⟩,?_⟩
 rintro i m ys H' ⟨rfl,hi,p⟩
 have q:=hl i ys H' p
 by_cases hlt:i<zs.length
 ·have ex:zs[i]? =some zs[i]:=Zc hlt
  refine .inr ⟨⟨_,c zs[i],q,by rw [Zd,ex];rfl⟩,?_,fun zs' H''=>Pv (i+1) zs' H'',fun zs' H'' p'=>⟨zs.length-(i+1),by rfl',rfl,hlt,p'⟩,fun x H'' y=> ?_⟩
  ·exact Yg (hz i ys H' p) (Zz hlt (Yk hn (by decide)))
  ·obtain ⟨e,y⟩:=y
   subst e
   have e1:=y _ q
   rw [Zd,ex] at e1
   cases e1
   exact hs i _ ys _ ex p
 ·have e:i=zs.length:=by rfl'
  subst e
  exact .inl ⟨⟨_,q,by simp⟩,fun p' hp=>hd ys H' p p' hp⟩
theorem PK {α:Type} (c:α->V) {a:Addr} {zs:List α} (hx:SqT K H a (zs.map c)) (hn:zs.length<=1000000) (f:α->V)
  (hs: ∀ (i:Nat) z,zs[i]? =some z-> ∀ (A:VK),A (f z) H->g (c z) (cap κ σ) H fun σ2 H2=>n6 (cap κ σ) σ2/\te σ2 H2 A)
  (hd: ∀p,H p=none->Q (.ref p) (upd H p (.lst (zs.map f)))):iT K (G9 κ g dj te σ Q) (.ref a) H:=by
 refine Gk c hx hn (fun i ys H'=>H'=H/\ys=(zs.take i).map f) ⟨rfl,rfl⟩ ?_ ?_ ?_ ?_
 ·rintro i ys _ ⟨rfl,_⟩
  exact hx
 ·rintro i ys _ ⟨rfl,rfl⟩
  rw [Qr,Yf];rfl'
 ·rintro i z ys H' hz ⟨e1,rfl⟩
  subst e1
  have et:zs.take (i+1)=zs.take i++[z]:=by rw [Yz,hz];rfl
  have q:=hs i z hz (fun y H4=>H4=H'/\(zs.take i).map f++[y]=(zs.take (i+1)).map f) ⟨rfl,by rw [et,Zw];rfl⟩
  simpa only [dj,if_true] using q
 ·rintro ys _ ⟨rfl,rfl⟩ p hp
  rw [Wp]
  exact hd p hp
end
section
variable {σ:St} {H:Hp} {Q:VK} {D:Ends} {K:W.Frag}
theorem Io {a:Addr} {bs:List Bool} (e:SqL K H a (bs.map V.bl)) (h:Q (.bl (bs.all id)) H):ym K [.ref a] H Q:=⟨a,bs,rfl,e,h⟩
theorem tu {a:Addr} {zs:List (Addr×bL)} (e:SqL K H a (zs.map fun z=>V.ref z.1)) (hk: ∀z∈zs,iJ H z.1 z.2) (hn:zs.length<=2600) (h: ∀r (ws:List (Addr×bL)),(∀p∈ws,p∈zs)->(∀z∈zs,z.2∈ws.map (·.2))->(ws.map (·.2)).Pairwise (fun a b=>Ck.bU a b=true)->H r=none->Q (.ref r) (upd H r (.lst (ws.map fun z=>V.ref z.1)))):gG K [.ref a] H Q:=⟨a,zs,rfl,e,hk,hn,h⟩
theorem Am (h: ∀p,H p=none->Q (.ref p) (upd H p (qj p []))):zQ σ H Q:=h
theorem Ao {td ty tv:TE} (h:tv σ H fun v H1=>td σ H1 fun x H2=>ty σ H2 fun y H3=> ∃a H4,x= .ref a/\Kh H3 a y v H4/\D.nx σ H4):zR td ty tv D σ H:=h
theorem Aq {a:Addr} {kvs:List (Addr×bL×V)} (e:H a=some (qj a kvs)) (hk: ∀p∈kvs,iJ H p.1 p.2.1) (hn:kvs.length<100000) (h: ∀r (zs:List (Addr×bL)),zs.Perm (kvs.map fun p=>(p.1,p.2.1))->(zs.map (·.2)).Pairwise (fun a b=>Ck.bU a b=true)->H r=none->Q (.ref r) (upd H r (.lst (zs.map fun z=>V.ref z.1)))):nW [.ref a] H Q:=⟨a,kvs,rfl,e,hk,hn,h⟩
end
theorem gf {α:Type} {f:α->Key} {g:α->V} {zs:List α} {k:Key} (h:k∉zs.map f):dh (zs.map fun z=>(f z,g z)) k=none:=by
 induction zs with
 | nil=>rfl
 | cons z r ih=>
  rw [Zr] at h ⊢
  rw [cQ (fun e=>h (by rw [<- e];exact Zq))]
  exact ih (fun m=>h (Zs _ m))
noncomputable def Uc (K:W.Frag) (H:Hp) (a:Addr) (ht:Nat) (ls:List (Str×List Nat)):Prop:= ∃ (l:Addr) (zs:List Lz),H a=some (.tup [.int (ht:Int), .ref l])/\zs.map (fun z:Lz=>(z.2.1,z.2.2.2))=ls/\H l=some (.tup (zs.map fun z:Lz=>V.ref z.1))/\ ∀z∈zs,H z.1=some (.tup [.str z.2.1, .ref z.2.2.1])/\H z.2.2.1=some (.tup (nv z.2.2.2))
noncomputable def Ud (ht:Nat) (ls:List (Str×List Nat)):PyData:= .tuple [.int (ht:Int), .tuple (ls.map fun p=> .tuple [.str p.1, .tuple ((p.2.map fun i:Nat=>(i:Int)).map PyData.int)])]
noncomputable def Ue (H:Hp) (p:Addr) (zs:List Lz):Prop:=H p=some (.lst (zs.map fun z:Lz=>V.ref z.1))/\ ∀z∈zs,H z.1=some (.tup [.str z.2.1, .ref z.2.2.1])/\H z.2.2.1=some (.lst (nv z.2.2.2))
noncomputable def Ug (ls:List (Str×List Nat)):PyData:= .list (ls.map fun p=> .tuple [.str p.1, .list ((p.2.map fun i:Nat=>(i:Int)).map PyData.int)])
end L2
namespace Fo
open PySem L2
structure GoodL (ht:Nat) (zs:List Lz):Prop where
 pos:1<=zs.length
 le:zs.length<=40
 nd:(zs.map fun z:Lz=>z.2.1).Nodup
 sg: ∀z∈zs,Hs.Sg z.2.1
 c1: ∀z∈zs,1<=z.2.2.2.length/\z.2.2.2.length<=8
 cb: ∀z∈zs,∀x∈z.2.2.2,x<2^ht
noncomputable def Of (zs:List Lz) (ls:List (Str×List Nat)):Prop:=ls.Perm (zs.map fun z:Lz=>(z.2.1,z.2.2.2))/\(ls.map (·.1)).Pairwise Jz
end Fo
namespace L2
open PySem
noncomputable abbrev Gz:=Addr×V×Addr×List V
noncomputable def Uh (H:Hp) (p:Addr) (gs:List Gz):Prop:=H p=some (.lst (gs.map fun g:Gz=>V.ref g.1))/\ ∀g∈gs,H g.1=some (.tup [g.2.1, .ref g.2.2.1])/\H g.2.2.1=some (.lst g.2.2.2)/\Thing H g.2.1/\(∀v∈g.2.2.2,Thing H v)/\g.2.2.2.length<=1000
noncomputable def Ui (z:Lz):Gz:=(z.1,V.str z.2.1,z.2.2.1,nv z.2.2.2)
theorem Ar {H:Hp} {Q:VK} {c:Int} {n m:Nat} (h0:0<n) (e:c%(n:Int)=(m:Int)) (h:Q (.int (m:Int)) H):bM (.int c) (.int (n:Int)) H Q:=⟨c,n,rfl,rfl,by rfl',by show Q (.int (c%(n:Int))) H;rw [e];exact h⟩
section
variable {σ:St} {H:Hp} {Q:VK} {D:Ends} {K:W.Frag} {g:TG} {tb:TS} {κ:List (Option Nat)} {tc:TT} {te:TE}
noncomputable def Uj (K:W.Frag) (R:It->Hp->Prop) (vs:List V) (H:Hp):Prop:= ∃a b xs ys,vs=[.ref a, .ref b]/\SqT K H a xs/\SqL K H b ys/\R (O6 K a b) H
noncomputable def Uk (R:It->Hp->Prop) (vs:List V) (H:Hp):Prop:= ∃i j:Int,vs=[.int i, .int j, .int (-1)]/\(-(2^62)<=i/\i<2^62/\ -(2^62)<=j/\j<2^62)/\R (O7 i (i-j).toNat) H
noncomputable def Ul (K:W.Frag) (R:It->Hp->Prop) (vs:List V) (H:Hp):Prop:= ∃a b xs ys,vs=[.ref a, .ref b]/\SqL K H a xs/\SqT K H b ys/\R (Ol K a b) H
noncomputable def Um (K:W.Frag) (R:It->Hp->Prop) (vs:List V) (H:Hp):Prop:= ∃a xs,vs=[.ref a]/\SqL K H a xs/\R (Oa K a xs.length) H
noncomputable def Uo (K:W.Frag) (R:It->Hp->Prop) (vs:List V) (H:Hp):Prop:= ∃a xs,vs=[.ref a]/\SqT K H a xs/\R (Ob K a xs.length) H
end
theorem ar1 {α:Type} {P:List α->Prop} (h: ∀a0:α,P [a0]): ∀us:List α,us.length=1->P us
 | [a0],_=>h a0
theorem ar2 {α:Type} {P:List α->Prop} (h: ∀a0 a1:α,P [a0,a1]): ∀us:List α,us.length=2->P us
 | [a0,a1],_=>h a0 a1
theorem TV {α:Type} {P:List α->Prop} (h: ∀a0 a1 a2:α,P [a0,a1,a2]): ∀us:List α,us.length=3->P us
 | [a0,a1,a2],_=>h a0 a1 a2
theorem TX {α:Type} {P:List α->Prop} (h: ∀a0 a1 a2 a3:α,P [a0,a1,a2,a3]): ∀us:List α,us.length=4->P us
 | [a0,a1,a2,a3],_=>h a0 a1 a2 a3
theorem TY {α:Type} {P:List α->Prop} (h: ∀a0 a1 a2 a3 a4:α,P [a0,a1,a2,a3,a4]): ∀us:List α,us.length=5->P us
 | [a0,a1,a2,a3,a4],_=>h a0 a1 a2 a3 a4
structure RefN (K:W.Frag) (C B D1 D2:Addr):Prop where
 ex:ExcK K C
 em:PySem.W.exmOne K (.ref C) (.ref C)=some true
 kb:PySem.W.kitOne K (.ref C) (.ref B)=some true
 kv:PySem.W.kitOne K (.ref C) (.type "ValueError")=some true
 k1:PySem.W.kitOne K (.ref C) (.ref D1)=some false
 k2:PySem.W.kitOne K (.ref C) (.ref D2)=some false
namespace Tn
noncomputable def Ng (c:Nat):List Nat->List (List Nat)
 | []=>[[]]
 | x::r=>if x=c then []::Ng c r else match Ng c r with
  | []=>[[x]]
  | p::ps=>(x::p)::ps
noncomputable def Av (c:Nat):List (List Nat)->List Nat
 | []=>[]
 | [p]=>p
 | p::q::r=>p++c::Av c (q::r)
end Tn
structure RefC (K:W.Frag) (C B D1 D2:Addr) (b1 b2:Bool):Prop where
 ex:ExcK K C
 em:PySem.W.exmOne K (.ref C) (.ref B)=some true
 kv:PySem.W.kitOne K (.ref C) (.type "ValueError")=some true
 k1:PySem.W.kitOne K (.ref C) (.ref D1)=some b1
 k2:PySem.W.kitOne K (.ref C) (.ref D2)=some b2
noncomputable def Te (R:It->Hp->Prop):V->Hp->Prop:=fun x H1=> ∃a kvs,x= .ref a/\((H1 a=some (.dK kvs)/\ ∀od,R (vW od a) (upd H1 a (.frz od (.dK kvs))))\/ ∃od,H1 a=some (.frz od (.dK kvs))/\R (vW od a) H1)
section
variable {σ:St} {H:Hp} {Q:VK} {D:Ends} {K:W.Frag} {g:TG} {κ:List (Option Nat)} {tc:TT} {te:TE}
theorem qz {tl:TE} {R:It->Hp->Prop} (h:tl σ H (Te R)):rK tl σ H R:=h
end
noncomputable def kz (kvs:List Kz):List (Str×List Nat):=kvs.map fun p:Kz=>(p.1,p.2.2)
noncomputable def LtL (H:Hp) (d:Addr) (ls:List (Str×List Nat)):Prop:= ∃kvs:List Kz,Rd H d (.dK (TQ kvs))/\(∀p∈kvs,H p.2.1=some (.tup (nv p.2.2)))/\(∀s,Fo.lk (kz kvs) s=Fo.lk ls s)
structure RefD (K:W.Frag) (C B D1 D2 D3:Addr) (b1 b2 b3:Bool) (ds es:List Addr):Prop where
 ex:ExcK K C
 em:PySem.W.exmOne K (.ref C) (.ref B)=some true
 k1:PySem.W.kitOne K (.ref C) (.ref D1)=some b1
 k2:PySem.W.kitOne K (.ref C) (.ref D2)=some b2
 k3:PySem.W.kitOne K (.ref C) (.ref D3)=some b3
 ka:PySem.W.kitAny K (.ref C) (ds.map Value.ref)=some false
 kb:PySem.W.kitAny K (.ref C) (es.map Value.ref)=some false
 kv:PySem.W.kitOne K (.ref C) (.type "ValueError")=some true
namespace Tn
structure GR (W:List Nat->Nat) (wide:Int) (ws rows:List (List Nat)):Prop where
 nil:rows=[]↔ws=[]
 eq:Av 32 rows=Av 32 ws
 ok: ∀r∈rows,r≠[]/\(W r:Int)<=wide
 mx: ∀k (h:k+1<rows.length),wide<(W (rows[k]++32::(Ng 32 rows[k+1]).headD []):Int)
end Tn
noncomputable def KL (K:W.Frag) (C:Addr):List (Addr×Bool)->Prop
 | []=>True
 | p::r=>PySem.W.kitOne K (.ref C) (.ref p.1)=some p.2/\KL K C r
structure RefG (K:W.Frag) (C B:Addr) (ks:List (Addr×Bool)):Prop where
 ex:ExcK K C
 em:PySem.W.exmOne K (.ref C) (.ref B)=some true
 kv:PySem.W.kitOne K (.ref C) (.type "ValueError")=some true
 kl:KL K C ks
noncomputable def KA (K:W.Frag) (C:Addr):List (List Addr)->Prop
 | []=>True
 | p::r=>PySem.W.kitAny K (.ref C) (p.map Value.ref)=some false/\KA K C r
structure RefH (K:W.Frag) (C B:Addr) (ks:List (Addr×Bool)) (ls:List (List Addr)):Prop where
 ex:ExcK K C
 em:PySem.W.exmOne K (.ref C) (.ref B)=some true
 kv:PySem.W.kitOne K (.ref C) (.type "ValueError")=some true
 kl:KL K C ks
 ka:KA K C ls
structure RefE (K:W.Frag) (C B D1 D2:Addr) (b1 b2:Bool) (ds:List Addr):Prop where
 ex:ExcK K C
 em:PySem.W.exmOne K (.ref C) (.ref B)=some true
 k1:PySem.W.kitOne K (.ref C) (.ref D1)=some b1
 k2:PySem.W.kitOne K (.ref C) (.ref D2)=some b2
 kv:PySem.W.kitOne K (.ref C) (.type "ValueError")=some true
 ka:PySem.W.kitAny K (.ref C) (ds.map Value.ref)=some false
noncomputable def LL (H:Hp) (p:Addr) (rows:List (Addr×List Nat)):Prop:=H p=some (.lst (rows.map fun r:Addr×List Nat=>V.ref r.1))/\ ∀r∈rows,H r.1=some (.lst (nv r.2))
theorem Kw {H:Hp} {Q:VK} {l:Addr} {xs:List V} {y:V} (e:H l=some (.lst (y::xs))) (h:Q y (upd H l (.lst xs))):qX (.ref l) [.int 0] H Q:=⟨l,y::xs,0,0,y,rfl,rfl,e,by decide,by decide,by
 unfold seqIndex?
 simp,rfl,h⟩
section
variable {σ:St} {H:Hp} {Q:VK} {D:Ends} {K:W.Frag} {g:TG} {tb:TS}
noncomputable def Uq (r:V->V->Hp->VK->Prop) (Q:VK) (vs ks:List V) (H:Hp):Prop:= ∃x y,vs=[x]/\ks=[y]/\r x y H Q
noncomputable def Ur (K:W.Frag) (R:It->Hp->Prop) (vs ks:List V) (H:Hp):Prop:= ∃a xs o,vs=[.ref a]/\ks=[.int ((o:Nat):Int)]/\o<=1000000000/\SqL K H a xs/\R (SM K a o) H
noncomputable def Us (K:W.Frag) (R:It->Hp->Prop) (vs:List V) (H:Hp):Prop:= ∃a xs,vs=[.ref a]/\SqT K H a xs/\R (Oj K a) H
noncomputable def Ut (R:It->Hp->Prop) (vs ks:List V) (H:Hp):Prop:= ∃x o,vs=[.str x]/\ks=[.int ((o:Nat):Int)]/\o<=1000000000/\R (Oi x o) H
end
noncomputable def Uu (H:Hp) (p:Addr) (rows:List (List Nat)):Prop:= ∃as:List Addr,as.length=rows.length/\H p=some (.lst (as.map V.ref))/\ ∀ (i:Nat) a r,as[i]? =some a->rows[i]? =some r->H a=some (.lst (nv r))
theorem Ky {σ:St} {H:Hp} {D:Ends} {g:TG} {tb:TS} {a:Addr} {kvs:List (Key×V)} (ea:Rd H a (.dK kvs)) (Pv:PySem.Obj->Nat->St->Hp->Prop) (h0: ∀od H1,Sb [a] H H1->H1 a=some (.frz od (.dK kvs))->Pv od 0 σ H1) (hl: ∀od i σ H',Pv od i σ H'->H' a=some (.frz od (.dK kvs)))
  (hs: ∀od (i:Nat) z σ H',kvs[i]? =some z->Pv od i σ H'->g (kV z.1) σ H' fun σ2 H2=>tb { D with nx:=Pv od (i+1),ct:=Pv od (i+1),bk:=D.nx } σ2 H2) (hd: ∀od σ H',Pv od kvs.length σ H'->D.nx σ H'):Te (sJ g tb D σ) (.ref a) H:=by
 have key: ∀od H1,Sb [a] H H1->H1 a=some (.frz od (.dK kvs))->sJ g tb D σ (vW od a) H1:=by
  intro od H1 sb e1
  refine ⟨fun i m σ H=>m=kvs.length-i/\i<=kvs.length/\Pv od i σ H,⟨kvs.length,by simp,Yp _,h0 od H1 sb e1⟩,?_⟩
  rintro i m σ H' ⟨rfl,hi,p⟩
  have e:=hl od i σ H' p
  by_cases hlt:i<kvs.length
  ·refine .inr ⟨⟨kvs,e,hlt⟩,Pv od (i+1),fun σ' H' p'=>⟨kvs.length-(i+1),by rfl',rfl,hlt,p'⟩,fun x H'' y=> ?_⟩
   obtain ⟨rfl,y2⟩:=y
   obtain ⟨k,x',h1,rfl⟩:=y2 kvs e
   exact hs od i (k,x') σ _ h1 p
  ·have ei:i=kvs.length:=by rfl'
   subst ei
   exact .inl ⟨⟨kvs,e,Zh _⟩,hd od σ H' p⟩
 rcases ea with e | ⟨od,e⟩
 ·refine ⟨a,kvs,rfl, .inl ⟨e,fun od=>key od _ ?_ au⟩⟩
  intro b o nb q
  rw [aF (by simpa using nb)]
  exact q
 ·exact ⟨a,kvs,rfl, .inr ⟨od,e,key od H (fun b o _ q=>q) e⟩⟩
section
variable {σ:St} {H:Hp} {Q:VK} {D:Ends} {K:W.Frag} {g:TG} {κ:List (Option Nat)} {tc:TT} {te:TE}
noncomputable def Tf (K:W.Frag) (R:It->Hp->Prop) (vs:List V) (H:Hp):Prop:= ∃a b xs ys,vs=[.ref a, .ref b]/\SqT K H a xs/\SqT K H b ys/\R (JD K a b) H
theorem v6 {ta:TA} {R:It->Hp->Prop} (h:ta σ H (Tf K R)):uy K ta σ H R:=h
theorem PN {α β:Type} (c:α->V) (d:β->V) {a b:Addr} {xs:List α} {ys:List β} (hx:SqT K H a (xs.map c)) (hy:SqT K H b (ys.map d)) (hl:xs.length=ys.length) (hn:xs.length<=1000000) (f:α->β->V)
  (hs: ∀ (i:Nat) x y p H',xs[i]? =some x->ys[i]? =some y->Same H H'->H' p=some (.tup [c x,d y])-> ∀A:VK,(∀H4,Same H' H4->A (f x y) H4)->g (.ref p) (cap κ σ) H' fun σ2 H2=>n6 (cap κ σ) σ2/\te σ2 H2 A)
  (hd: ∀p H',Same H H'->H' p=some (.lst (List.zipWith f xs ys))->Q (.ref p) H'):Tf K (G9 κ g dj te σ Q) [.ref a, .ref b] H:=by
 refine ⟨a,b,_,_,rfl,hx,hy,fun i m zs H'=>m=xs.length-i/\i<=xs.length/\Same H H'/\zs=List.zipWith f (xs.take i) (ys.take i),⟨xs.length,by simp,Yp _,Same.refl H,rfl⟩,?_⟩
 rintro i m zs H' ⟨rfl,hi,sH,rfl⟩
 by_cases hlt:i<xs.length
 ·have ex:xs[i]? =some xs[i]:=Zc hlt
  have ey:ys[i]? =some (ys[i]'(by rfl')):=Zc (by rfl')
  refine .inr ⟨⟨_,_,c xs[i],d (ys[i]'(by rfl')),sH.tup hx,sH.tup hy,by rw [Zd,ex];rfl,by rw [Zd,ey];rfl⟩,?_,fun zs' H''=>Same H H''/\zs'=List.zipWith f (xs.take (i+1)) (ys.take (i+1)),fun zs' H'' p'=>⟨xs.length-(i+1),by rfl',rfl,hlt,p'.1,p'.2⟩,fun v H'' y=> ?_⟩
  ·have:(List.zipWith f (xs.take i) (ys.take i)).length<=i:=by
    rw [List.length_zipWith,Yf];rfl'
   exact Yg this (Zz hlt (Yk hn (by decide)))
  ·obtain ⟨p,x,z,hp,rfl,rfl,q1,q2⟩:=y
   have e1:=q1 _ (sH.tup hx)
   have e2:=q2 _ (sH.tup hy)
   rw [Zd,ex] at e1
   rw [Zd,ey] at e2
   cases e1
   cases e2
   have q:=hs i _ _ p (upd H' p (.tup [c xs[i],d (ys[i]'(by rfl'))])) ex ey (sH.new hp) au (fun y H4=>Same H H4/\List.zipWith f (xs.take i) (ys.take i)++[y]=List.zipWith f (xs.take (i+1)) (ys.take (i+1))) (fun H4 s4=>⟨(sH.new hp).trans s4,?_⟩)
   ·simpa only [dj,if_true] using q
   ·rw [Yz,Yz,ex,ey,List.zipWith_append (by rw [Yf,Yf];rfl')];rfl
 ·have e:i=xs.length:=by rfl'
  subst e
  refine .inl ⟨⟨_,_,sH.tup hx,sH.tup hy, .inl (by simp)⟩,fun p hp=>hd p _ (sH.new hp) ?_⟩
  rw [au,Wp,hl,Wp]
theorem Aw {te:TE} (h:te σ H fun x H1=> ∃n:Nat,x= .int (n:Int)/\n<=1000000/\ ∀p,H1 p=none->Q (.ref p) (upd H1 p (.tup ((List.range n).map fun i:Nat=>V.int (i:Int))))):yz te σ H Q:=h
end
theorem Ip {K:W.Frag} {H:Hp} {Q:VK} {a:Addr} {xs:List V} {lo hi:Option Int} (e:SqT K H a xs) (h: ∀p H',Same H H'->SqT K H' p (dY xs lo hi)->Q (.ref p) H'):jQ K (.ref a) lo hi H Q:=⟨a,xs,rfl,e,fun p H' c hp=>h p H' (by
 rcases c with ⟨rfl,rfl,_⟩ | ⟨hn,rfl⟩
 ·exact Same.refl _
 ·exact aG hn _) hp⟩
theorem kW {K:W.Frag} {H:Hp} {Q:VK} {a:Addr} {xs:List V} {lo hi:Option Int} (e:H a=some (.tup xs)) (h: ∀p H',Same H H'->H' p=some (.tup (dY xs lo hi))->Q (.ref p) H'):jQ K (.ref a) lo hi H Q:=⟨a,xs,rfl,SqT.of e,fun p H' c hp=>by
 rcases c with ⟨rfl,rfl,z⟩ | ⟨hn,rfl⟩
 ·exact h _ _ (Same.refl _) (by rw [z];exact e)
 ·exact h _ _ (aG hn _) au⟩
section
variable {σ:St} {H:Hp} {Q:VK} {D:Ends} {K:W.Frag} {g:TG} {tb:TS}
theorem KD {α:Type} (c:α->V) {a:Addr} {xs:List α} (hx:SqL K H a (xs.map c)) (Pv:Nat->St->Hp->Prop) (h0:Pv 0 σ H)
  (hk: ∀i σ H',Pv i σ H'->SqL K H' a (xs.map c))
  (hs: ∀ (i:Nat) x p σ H',xs[i]? =some x->Pv i σ H'->H' p=none->g (.ref p) σ (upd H' p (.tup [.int (i:Int),c x])) fun σ2 H2=>tb { D with nx:=Pv (i+1),ct:=Pv (i+1),bk:=D.nx } σ2 H2)
  (hd: ∀σ H',Pv xs.length σ H'->D.nx σ H'):iE K (sJ g tb D σ) [.ref a] H:=by
 refine ⟨a,_,rfl,hx,fun i m σ H=>m=xs.length-i/\i<=xs.length/\Pv i σ H,⟨xs.length,by simp,Yp _,h0⟩,?_⟩
 rintro i m σ H ⟨rfl,hi,p⟩
 have q1:=hk i σ H p
 by_cases hlt:i<xs.length
 ·have e1:(xs.map c)[i]? =some (c xs[i]):=by rw [Zd,Zc hlt];rfl
  refine .inr ⟨⟨_,_,q1,e1⟩,Pv (i+1),fun σ' H' p'=>⟨xs.length-(i+1),by rfl',rfl,hlt,p'⟩,fun v H' y=> ?_⟩
  obtain ⟨r,x',hr,rfl,rfl,f1⟩:=y
  have g1:=f1 _ q1
  rw [e1] at g1
  cases g1
  exact hs i _ r σ H (Zc hlt) p hr
 ·have e:i=xs.length:=by rfl'
  subst e
  exact .inl ⟨⟨_,q1,by rw [Qr];exact Zh _⟩,hd σ H p⟩
end
theorem cM {H:Hp} {p q:Addr} {xs ys:List V} {o:HO} (h:H p=some (.tup xs)) (e:H q=some (.lst ys)):upd H q o p=some (.tup xs):=by
 rw [aF fun z=>by rw [z,e] at h;cases h];exact h
theorem Ax {σ:St} {H:Hp} {D:Ends} {c:TT} {tb:TS} (Pv:Nat->St->Hp->Prop) (m0:Nat) (h0:Pv m0 σ H)
  (hs: ∀m σ H (N:St->Hp->Prop),Pv m σ H->(∀m' σ' H',m'<m->Pv m' σ' H'->N σ' H')->c σ H fun b H1=>if b=true then tb { D with nx:=N,ct:=N,bk:=D.nx } σ H1 else D.nx σ H1)
  (mono: ∀σ H Q Q',(∀b H1,Q b H1->Q' b H1)->c σ H Q->c σ H Q'):fJ c tb D σ H:=by
 classical
 have least: ∀ (P:Nat->Prop),(∃m,P m)-> ∃m,P m/\ ∀k,P k->m<=k:=fun P ⟨m,hm⟩=>by
  induction m using Nat.strongRecOn with
  | ind m ih=>
   by_cases h: ∃k,k<m/\P k
   ·obtain ⟨k,hk,pk⟩:=h
    exact ih k hk pk
   ·exact ⟨m,hm,fun k pk=>Nat.le_of_not_lt fun hk=>h ⟨k,hk,pk⟩⟩
 refine oh (fun σ H=> ∃m,Pv m σ H) (fun σ H=>if h: ∃m,Pv m σ H then (least (fun m=>Pv m σ H) h).choose else 0) ⟨m0,h0⟩ ?_ mono
 intro σ H h
 obtain ⟨p1,p2⟩:=(least (fun m=>Pv m σ H) h).choose_spec
 refine hs _ σ H _ p1 fun m' σ' H' hm hp=>⟨⟨m',hp⟩,?_⟩
 rw [dif_pos h,dif_pos ⟨m',hp⟩]
 exact Yg ((least (fun m=>Pv m σ' H') ⟨m',hp⟩).choose_spec.2 m' hp) hm
end L2
namespace Mm
section
variable {α:Type}
inductive Rch (bs:List α) (nx:α->List α):α->Prop
 | base {x:α} (h:x∈bs):Rch bs nx x
 | step {x y:α} (h:Rch bs nx x) (m:y∈nx x):Rch bs nx y
structure Clo (bs:List α) (nx:α->List α) (F W:List α):Prop where
 nd:F.Nodup
 rF: ∀x∈F,Rch bs nx x
 rW: ∀x∈W,Rch bs nx x
 b: ∀x∈bs,x∈F\/x∈W
 c: ∀x∈F,∀y∈nx x,y∈F\/y∈W
end
end Mm
namespace L2
open PySem
noncomputable def PP (t:TE):Prop:= ∀σ H (Q Q':VK),(∀v H1,Q v H1->Q' v H1)->t σ H Q->t σ H Q'
noncomputable def U0 (t:TT):Prop:= ∀σ H (Q Q':Bool->Hp->Prop),(∀v H1,Q v H1->Q' v H1)->t σ H Q->t σ H Q'
noncomputable def Tg (r:R2):Prop:= ∀x y H (Q Q':VK),(∀v H1,Q v H1->Q' v H1)->r x y H Q->r x y H Q'
theorem KH (i:Nat):PP (ao i):=fun σ H Q Q' h ⟨v,e,z⟩=>⟨v,e,h _ _ z⟩
theorem PQ {r:R2} {a b:TE} (hr:Tg r) (ha:PP a) (hb:PP b):PP (aX r a b):=fun σ H Q Q' h z=>ha _ _ _ _ (fun x H1 z=>hb _ _ _ _ (fun y H2 z=>hr _ _ _ _ _ h z) z) z
theorem KJ (g:Int->Int->V):Tg (oJ g):=fun x y H Q Q' h ⟨i,j,e1,e2,z⟩=>⟨i,j,e1,e2,h _ _ z⟩
theorem Gm {t:TE} (ht:PP t):U0 (bT t):=fun σ H Q Q' h z=>ht _ _ _ _ (fun x H1 ⟨k,e,z⟩=>⟨k,e,h _ _ z⟩) z
end L2
end
set_option Elab.async false
set_option linter.all false
set_option maxRecDepth 100000
open L2
local macro_rules | `(tactic| walk_at "si") => `(tactic| first | assumption | (with_reducible exact Mm.big_pos) | (with_reducible exact Int.pow_pos (by decide)) | rfl' | (dsimp only; rfl') | exact ⟨by rfl', by rfl'⟩ | exact Or.inr ⟨by rfl', by rfl'⟩ | exact Or.inl ⟨by rfl', by rfl'⟩ | exact ⟨by rfl', by rfl', by rfl'⟩ | exact ⟨by rfl', by rfl', by decide⟩ | (dsimp only; decide) | exact Mm.G6 _ | exact Mm.big_pos | exact Int.pow_pos (by decide))
local macro_rules | `(tactic| walk_at "gp") => `(tactic| repeat (first | walk_at "st" | (with_reducible (refine s_lenA (xs := ?xs) ?e ?_; case e => assumption))))
local macro_rules | `(tactic| walk_at "go") => `(tactic| repeat walk_at "st")
local macro_rules | `(tactic| walk_at "st") => `(tactic| with_reducible first
 | refine s_bitlen ?_ | refine Hx ?_ | refine Hy ?_ | refine Hz ?_ | refine zV ?_ | refine HB ?_ | refine P0 ?_ | (refine HD (v:= ?v) ?e ?_;case e=>with_unfolding_all exact rfl) | refine T7 ?_ | refine uP ?_
 | refine s_call ?_ | refine s_callD ?_ | refine zX ?_ | refine HF ?_ | refine HX ?_ | (refine Pk ?_ ?_;(with_unfolding_all walk_at "si")) | refine HY ?_ | refine Ia ?_
 | refine zY ?_ | refine PJ ?_ | refine s_isN ?_ | refine s_revS ?_ | refine s_sortIt ?_ | refine s_sortItB ?_ | refine s_notN ?_ | refine Im ?_ | refine s_sin ?_ | refine s_snotin ?_ | refine s_sget ?_ | refine s_snew ?_ | refine Am ?_ | refine qu ?_ | refine Pb ?_ | refine HN ?_ | refine HH ?_ | refine HJ ?_ | refine s_tint ?_ | (refine uX (b:= ?b) (c:= ?c) ?h1 ?h2 ?_;(case h1=>(intro R h;(with_unfolding_all walk_at "gp");exact h));(case h2=>(intro R h;(with_unfolding_all walk_at "gp");exact h))) | refine HQ ?_ | (refine s_ortp (b:= ?b) (c:= ?c) ?h1 ?h2 ?_;(case h1=>(intro R h;(with_unfolding_all walk_at "gp");exact h));(case h2=>(intro R h;(with_unfolding_all walk_at "gp");exact h))) | refine Ph ?_ | (refine s_andp (b:= ?b) (c:= ?c) ?h1 ?h2 ?_;(case h1=>(intro R h;(with_unfolding_all walk_at "gp");exact h));(case h2=>(intro R h;(with_unfolding_all walk_at "gp");exact h))) | refine zZ ?_ | (refine s_orp (b:= ?b) (c:= ?c) ?h1 ?h2 ?_;(case h1=>(intro R h;(with_unfolding_all walk_at "gp");exact h));(case h2=>(intro R h;(with_unfolding_all walk_at "gp");exact h))) | refine s_orv ?_ | refine Aa ?_ | refine s_if ?_ | refine HR ?_
 | refine xP ?_ | refine xO ?_ | refine Hu ?_ | refine Hv ?_ | refine iteDR ?_ | refine iteNDR ?_
 | refine Pa ?_ | refine s_un ?_ | refine s_rU ?_ | (refine s_chainp (b:= ?b) (c:= ?c) (x:= ?x) (y:= ?y) (z:= ?z) ?h1 ?h2 ?h3 ?h4 ?h5 ?_;(case h1=>(intro R h;(with_unfolding_all walk_at "gp");exact h));(case h2=>(intro R h;(with_unfolding_all walk_at "gp");exact h));(case h3=>(intro R h;(with_unfolding_all walk_at "gp");exact h));(case h4=>(intro R h;(with_unfolding_all walk_at "gp");exact h));(case h5=>(intro R h;(with_unfolding_all walk_at "gp");exact h))) | refine s_chain ?_ | refine zW ?_ | refine s_beh ?_ | refine s_raise ?_ | refine s_retN ?_ | refine s_cont ?_ | refine s_break ?_
 | refine uQ ?_ | refine Ab ?_ | refine Ac ?_ | (refine HW (x:= ?v) ?e ?_;case e=>with_unfolding_all exact rfl) | refine Pj ?_
 | refine s_eqb ?_ | refine s_eqs ?_ | refine s_nes ?_
 | (refine s_eq ?_ ?_;with_unfolding_all exact rfl) | (refine s_ne ?_ ?_;with_unfolding_all exact rfl)
 | refine s_les ?_ | refine s_gts ?_ | refine s_ges ?_ | refine Ij ?_ | refine s_max ?_ | refine uV ?_ | refine s_dnewT ?_ | refine s_dispT ?_ | refine uW ?_ | refine s_dget1 ?_ | refine s_dget2 ?_
 | refine Ib ?_ | refine Ie ?_ | (refine Ih ?_ ?_;(with_unfolding_all first | decide | (simp;rfl') | simp)) | refine Pn ?_ | refine qt ?_ | refine Ad ?_ | refine Ae ?_
 | refine Pq ?_ | refine s_bm0 ?_ | refine s_tyi ?_ | refine s_tys ?_
 | refine Ii ?_ | refine Pr ?_ | refine uR ?_ | refine Af ?_ | refine uT ?_ | refine s_irng2 ?_ | refine s_irng3 ?_ | refine s_istr ?_ | refine s_izip ?_ | refine s_izipT ?_ | refine v6 ?_ | refine s_izipL ?_ | refine Aw ?_ | refine s_irngD ?_ | refine s_irevL ?_ | refine s_irevT ?_ | refine uY ?_ | refine s_ienF ?_ | refine s_ienS ?_ | refine s_ienT ?_ | refine s_md ?_ | refine s_augS ?_ | refine s_ikeys ?_ | refine qz ?_ | refine s_jr ?_ | refine Aj ?_ | refine s_sput ?_ | refine Ao ?_ | refine Ak ?_ | refine s_dget2 ?_
 | (refine Ig ?_ ?_;(with_unfolding_all first | exact OJ | exact ext2 | exact ext3)))
local macro_rules | `(tactic| walk_at "sj") => `(tactic| with_reducible first
 | refine s_bitlen ?_ | refine Kv ?_ | refine s_seqF ?_ | refine s_seqD ?_ | refine s_seqP ?_ | refine s_seqS ?_ | refine s_seqC ?_ | refine s_seqU ?_ | refine Hy ?_ | refine Hz ?_ | refine zV ?_ | refine HB ?_ | refine P0 ?_ | (refine HD (v:= ?v) ?e ?_;case e=>with_unfolding_all exact rfl) | refine T7 ?_ | refine uP ?_
 | refine s_call ?_ | refine s_callD ?_ | refine zX ?_ | refine HF ?_ | refine HX ?_ | (refine Pk ?_ ?_;(with_unfolding_all walk_at "si")) | refine HY ?_ | refine Ia ?_
 | refine zY ?_ | refine PJ ?_ | refine s_isN ?_ | refine s_revS ?_ | refine s_sortIt ?_ | refine s_sortItB ?_ | refine s_notN ?_ | refine Im ?_ | refine s_sin ?_ | refine s_snotin ?_ | refine s_sget ?_ | refine s_snew ?_ | refine Am ?_ | refine qu ?_ | refine Pb ?_ | refine HN ?_ | refine HH ?_ | refine HJ ?_ | refine s_tint ?_ | (refine uX (b:= ?b) (c:= ?c) ?h1 ?h2 ?_;(case h1=>(intro R h;(with_unfolding_all walk_at "gp");exact h));(case h2=>(intro R h;(with_unfolding_all walk_at "gp");exact h))) | refine HQ ?_ | (refine s_ortp (b:= ?b) (c:= ?c) ?h1 ?h2 ?_;(case h1=>(intro R h;(with_unfolding_all walk_at "gp");exact h));(case h2=>(intro R h;(with_unfolding_all walk_at "gp");exact h))) | refine Ph ?_ | (refine s_andp (b:= ?b) (c:= ?c) ?h1 ?h2 ?_;(case h1=>(intro R h;(with_unfolding_all walk_at "gp");exact h));(case h2=>(intro R h;(with_unfolding_all walk_at "gp");exact h))) | refine zZ ?_ | (refine s_orp (b:= ?b) (c:= ?c) ?h1 ?h2 ?_;(case h1=>(intro R h;(with_unfolding_all walk_at "gp");exact h));(case h2=>(intro R h;(with_unfolding_all walk_at "gp");exact h))) | refine s_orv ?_ | refine Aa ?_ | refine s_if ?_ | refine HR ?_
 | refine xP ?_ | refine xO ?_ | refine Hu ?_ | refine Hv ?_ | refine iteDR ?_ | refine iteNDR ?_
 | refine Pa ?_ | refine s_un ?_ | refine s_rU ?_ | (refine s_chainp (b:= ?b) (c:= ?c) (x:= ?x) (y:= ?y) (z:= ?z) ?h1 ?h2 ?h3 ?h4 ?h5 ?_;(case h1=>(intro R h;(with_unfolding_all walk_at "gp");exact h));(case h2=>(intro R h;(with_unfolding_all walk_at "gp");exact h));(case h3=>(intro R h;(with_unfolding_all walk_at "gp");exact h));(case h4=>(intro R h;(with_unfolding_all walk_at "gp");exact h));(case h5=>(intro R h;(with_unfolding_all walk_at "gp");exact h))) | refine s_chain ?_ | refine zW ?_ | refine s_beh ?_ | refine s_raise ?_ | refine s_retN ?_ | refine s_cont ?_ | refine s_break ?_
 | refine uQ ?_ | refine Ab ?_ | refine Ac ?_ | (refine HW (x:= ?v) ?e ?_;case e=>with_unfolding_all exact rfl) | refine Pj ?_
 | refine s_eqb ?_ | refine s_eqs ?_ | refine s_nes ?_
 | (refine s_eq ?_ ?_;with_unfolding_all exact rfl) | (refine s_ne ?_ ?_;with_unfolding_all exact rfl)
 | refine s_les ?_ | refine s_gts ?_ | refine s_ges ?_ | refine Ij ?_ | refine s_max ?_ | refine uV ?_ | refine s_dnewT ?_ | refine s_dispT ?_ | refine uW ?_ | refine s_dget1 ?_ | refine s_dget2 ?_
 | refine Ib ?_ | refine Ie ?_ | (refine Ih ?_ ?_;(with_unfolding_all first | decide | (simp;rfl') | simp)) | refine Pn ?_ | refine qt ?_ | refine Ad ?_ | refine Ae ?_
 | refine Pq ?_ | refine s_bm0 ?_ | refine s_tyi ?_ | refine s_tys ?_
 | refine Ii ?_ | refine Pr ?_ | refine uR ?_ | refine Af ?_ | refine uT ?_ | refine s_irng2 ?_ | refine s_irng3 ?_ | refine s_istr ?_ | refine s_izip ?_ | refine s_izipT ?_ | refine v6 ?_ | refine s_izipL ?_ | refine Aw ?_ | refine s_irngD ?_ | refine s_irevL ?_ | refine s_irevT ?_ | refine uY ?_ | refine s_ienF ?_ | refine s_ienS ?_ | refine s_ienT ?_ | refine s_md ?_ | refine s_augS ?_ | refine s_ikeys ?_ | refine qz ?_ | refine s_jr ?_ | refine Aj ?_ | refine s_sput ?_ | refine Ao ?_ | refine Ak ?_ | refine s_dget2 ?_
 | (refine Ig ?_ ?_;(with_unfolding_all first | exact OJ | exact ext2 | exact ext3)))
local macro_rules | `(tactic| walk_at "gj") => `(tactic| repeat walk_at "sj")
local macro_rules | `(tactic| walk_at "hp") => `(tactic| first
 | assumption
 | exact au
 | (refine SqL.of ?_;walk_at "hp")
 | (refine SqT.of ?_;walk_at "hp")
 | (refine uO (by assumption) ?_;walk_at "hp")
 | (refine tup_new (by assumption) ?_;walk_at "hp")
 | (refine aO (by assumption) ?_;walk_at "hp")
 | (refine Same.seq (by assumption) ?_;walk_at "hp")
 | (refine Same.tup (by assumption) ?_;walk_at "hp")
 | (refine Same.get (by assumption) ?_;walk_at "hp"))
local macro_rules | `(tactic| walk_at "sm") => `(tactic| first
 | assumption
 | exact Same.refl _
 | (refine Same.new ?_ (by assumption);walk_at "sm")
 | (refine Same.trans ?_ (by assumption);walk_at "sm"))
local macro_rules | `(tactic| walk_at "ns") => `(tactic| try dsimp only [L2.start, List.map, List.length, Nat.reduceAdd, Nat.reduceSub, List.reduceReplicate, List.cons_append, List.nil_append, List.set])
namespace Pg
inductive An2 (A0 A1:Prop):Prop
 | mk (a0:A0) (a1:A1):An2 A0 A1
inductive An3 (A0 A1 A2:Prop):Prop
 | mk (a0:A0) (a1:A1) (a2:A2):An3 A0 A1 A2
inductive An4 (A0 A1 A2 A3:Prop):Prop
 | mk (a0:A0) (a1:A1) (a2:A2) (a3:A3):An4 A0 A1 A2 A3
inductive An5 (A0 A1 A2 A3 A4:Prop):Prop
 | mk (a0:A0) (a1:A1) (a2:A2) (a3:A3) (a4:A4):An5 A0 A1 A2 A3 A4
inductive An6 (A0 A1 A2 A3 A4 A5:Prop):Prop
 | mk (a0:A0) (a1:A1) (a2:A2) (a3:A3) (a4:A4) (a5:A5):An6 A0 A1 A2 A3 A4 A5
inductive An7 (A0 A1 A2 A3 A4 A5 A6:Prop):Prop
 | mk (a0:A0) (a1:A1) (a2:A2) (a3:A3) (a4:A4) (a5:A5) (a6:A6):An7 A0 A1 A2 A3 A4 A5 A6
inductive An9 (A0 A1 A2 A3 A4 A5 A6 A7 A8:Prop):Prop
 | mk (a0:A0) (a1:A1) (a2:A2) (a3:A3) (a4:A4) (a5:A5) (a6:A6) (a7:A7) (a8:A8):An9 A0 A1 A2 A3 A4 A5 A6 A7 A8
inductive Ex1 {α0:Type} (P:α0->Prop):Prop
 | mk (a0:α0) (h:P a0):Ex1 P
inductive Ex2 {α0 α1:Type} (P:α0->α1->Prop):Prop
 | mk (a0:α0) (a1:α1) (h:P a0 a1):Ex2 P
inductive Ex3 {α0 α1 α2:Type} (P:α0->α1->α2->Prop):Prop
 | mk (a0:α0) (a1:α1) (a2:α2) (h:P a0 a1 a2):Ex3 P
inductive Ex4 {α0 α1 α2 α3:Type} (P:α0->α1->α2->α3->Prop):Prop
 | mk (a0:α0) (a1:α1) (a2:α2) (a3:α3) (h:P a0 a1 a2 a3):Ex4 P
inductive Ex5 {α0 α1 α2 α3 α4:Type} (P:α0->α1->α2->α3->α4->Prop):Prop
 | mk (a0:α0) (a1:α1) (a2:α2) (a3:α3) (a4:α4) (h:P a0 a1 a2 a3 a4):Ex5 P
inductive Ex6 {α0 α1 α2 α3 α4 α5:Type} (P:α0->α1->α2->α3->α4->α5->Prop):Prop
 | mk (a0:α0) (a1:α1) (a2:α2) (a3:α3) (a4:α4) (a5:α5) (h:P a0 a1 a2 a3 a4 a5):Ex6 P
inductive Ex7 {α0 α1 α2 α3 α4 α5 α6:Type} (P:α0->α1->α2->α3->α4->α5->α6->Prop):Prop
 | mk (a0:α0) (a1:α1) (a2:α2) (a3:α3) (a4:α4) (a5:α5) (a6:α6) (h:P a0 a1 a2 a3 a4 a5 a6):Ex7 P
open PySem L2
variable {aK0 aK1:Addr}
variable {K:W.Frag} {vs:List V} {H:Hp} {Q:VK} {E:XK}
inductive sp_f19 (aK0 aK1:Addr) (K:W.Frag) (vs:List V) (H:Hp) (Q:VK) (E:XK):Prop
 | mk (n:Nat) (h0:vs=[.int n]) (h1:Q (.int (Bm.pop n)) H):sp_f19 aK0 aK1 K vs H Q E
noncomputable def tD (aK0 aK1:Addr) (K:W.Frag) (E:XK) (Eh:XK):TS:=
  (aQ (aZ (tC (V.int 0)) (aC 1))
  (aQ (fJ (bT (aX Jy (ao 0) (tC (V.int 0)))) (aQ (aZ (aX NZ (ao 0) (aX ye (ao 0) (tC (V.int 1)))) (aC 0))
  (J7 1 (tC (V.int 1)) Ec)))
  (bO (ao 1))))
theorem KN (h:sp_f19 aK0 aK1 K vs H Q E): ∃Eh,tD aK0 aK1 K E Eh { nx:=fun _ H'=>Q .non H',rt:=Q } (start ["column","dots"] vs) H:=by
 obtain ⟨n,rfl,q⟩:=h
 refine ⟨E0,?_⟩
 unfold tD
 refine Hx ?_
 walk_at "go"
 refine oW (fun σ H'=>(Ex2 fun (m d:Nat)=>(An3 (σ=[some (.int (m:Int)),some (.int (d:Int))]) (H'=H) (d+Bm.pop m=Bm.pop n)))) (fun σ _=>match σ with | some (.int m)::_=>m.toNat | _=>0) ⟨n,0,rfl,rfl,by walk_at "m"⟩ ?_ ?_
 ·rintro _ _ ⟨m,d,rfl,rfl,e⟩
  walk_at "go"
  refine iY (fun c=> ?_) (fun c=> ?_)
  ·have hm:0<m:=by walk_at "m"
   have ex:Builtin.bitAnd (m:Int) ((m:Int)-1)=((m&&& (m-1):Nat):Int):=by
    rw [show (m:Int)-1=((m-1:Nat):Int) by walk_at "m",Bx.gU]
   walk_at "go"
   rw [ex]
   have lt:=Bm.Jt m hm
   have pl:=Bm.DQ m hm
   refine ⟨⟨m&&& (m-1),d+1,rfl,rfl,by walk_at "m"⟩,?_⟩
   show ((m&&& (m-1):Nat):Int).toNat<(m:Int).toNat
   walk_at "m"
  ·have hm:m=0:=by walk_at "m"
   subst hm
   rw [Bm.jF] at e
   walk_at "go"
   rw [show d=Bm.pop n by walk_at "m"]
   exact q
 ·rintro σ H Q Q' hq ⟨v,hv,i,j,e1,e2,k,e3,z⟩
  exact ⟨v,hv,i,j,e1,e2,k,e3,hq _ _ z⟩
theorem KQ (h:sp_f19 aK0 aK1 K vs H Q E):vs.length=1:=by
 obtain ⟨_,rfl,_⟩:=h
 rfl
inductive sp_f21 (aK0 aK1:Addr) (K:W.Frag) (vs:List V) (H:Hp) (Q:VK) (E:XK):Prop
 | mk (a b:Nat) (h0:vs=[.int a, .int b]) (h1:Q (.int (Bm.pop (a^^^b):Nat)) H):sp_f21 aK0 aK1 K vs H Q E
noncomputable def tE (aK0 aK1:Addr) (K:W.Frag) (E:XK) (Eh:XK):TS:=
  (bO (bu (sp_f19 aK0 aK1 K) [] E0 (aj (aX Ho (ao 0) (ao 1)) aH)))
theorem KR (h:sp_f21 aK0 aK1 K vs H Q E): ∃Eh,tE aK0 aK1 K E Eh { nx:=fun _ H'=>Q .non H',rt:=Q } (start ["one","other"] vs) H:=by
 obtain ⟨a,b,rfl,q⟩:=h
 refine ⟨E0,?_⟩
 unfold tE
 walk_at "go"
 rw [Bx.jG]
 exact ⟨_,rfl,q⟩
theorem KY (h:sp_f21 aK0 aK1 K vs H Q E):vs.length=2:=by
 obtain ⟨_,_,rfl,_⟩:=h
 rfl
inductive sp_f5 (aK0 aK1:Addr) (K:W.Frag) (vs:List V) (H:Hp) (Q:VK) (E:XK):Prop
 | mk (p q:Addr) (xs ys:List V) (h0:vs=[.ref p, .ref q]) (h1:SqT K H p xs) (h2:SqT K H q ys) (h3:xs.length=ys.length) (h4:Q .non H):sp_f5 aK0 aK1 K vs H Q E
noncomputable def Ay (aK0 aK1:Addr) (K:W.Frag) (E:XK) (Eh:XK):TS:=
  (eX (bT (aX Nt (cV (cu K) (aj (ao 0) aH)) (cV (cu K) (aj (ao 1) aH)))) wR cA)
theorem PX (h:sp_f5 aK0 aK1 K vs H Q E): ∃Eh,Ay aK0 aK1 K E Eh { nx:=fun _ H'=>Q .non H',rt:=Q } (start ["one","other"] vs) H:=by
 obtain ⟨p1,p2,xs,ys,rfl,h1,h2,hl,q⟩:=h
 refine ⟨E0,?_⟩
 unfold Ay
 walk_at "go"
 refine c7 h1 ?_
 walk_at "go"
 refine c7 h2 ?_
 walk_at "go"
 refine sI (by rw [hl]) ?_
 walk_at "go"
 exact q
theorem Q0 (h:sp_f5 aK0 aK1 K vs H Q E):vs.length=2:=by
 obtain ⟨_,_,_,_,rfl,_⟩:=h
 rfl
inductive sp_f22 (aK0 aK1:Addr) (K:W.Frag) (vs:List V) (H:Hp) (Q:VK) (E:XK):Prop
 | mk (p q:Addr) (xs ys:List Nat) (h0:vs=[.ref p, .ref q]) (h1:SqT K H p (nv xs)) (h2:SqT K H q (nv ys)) (h3:xs.length=ys.length) (h4:xs.length<=1000) (h5: ∀H',Same H H'->Q (.int (Mm.fZ xs ys:Nat)) H'):sp_f22 aK0 aK1 K vs H Q E
noncomputable def tG (aK0 aK1:Addr) (K:W.Frag) (E:XK) (Eh:XK):TS:=
  (aQ (gK (bu (sp_f5 aK0 aK1 K) [] E0 (aj (ao 0) (aj (ao 1) aH))))
  (bO (cV (Jx K) (aj (qG [none,none] (uy K (aj (ao 0) (aj (ao 1) aH))) (jq K 2 (cB (aC 0) (cB (aC 1) lw))) dj (bu (sp_f21 aK0 aK1 K) [] E0 (aj (ao 0) (aj (ao 1) aH)))) aH))))
theorem KZ (h:sp_f22 aK0 aK1 K vs H Q E): ∃Eh,tG aK0 aK1 K E Eh { nx:=fun _ H'=>Q .non H',rt:=Q } (start ["one","other"] vs) H:=by
 obtain ⟨p1,p2,xs,ys,rfl,h1,h2,hl,hn,q⟩:=h
 refine ⟨E0,?_⟩
 unfold tG
 walk_at "go"
 refine ⟨_,_,_,_,rfl,h1,h2,by rw [Qr,Qr,hl],?_⟩
 walk_at "go"
 refine PN (fun i:Nat=>V.int (i:Int)) (fun i:Nat=>V.int (i:Int)) h1 h2 hl (by walk_at "m") (fun x y=>V.int ((Bm.pop (x^^^y):Nat):Int)) ?_ ?_
 ·intro i x y p H' hx hy sH hp A kA
  refine gb (SqT.of hp) rfl ?_
  walk_at "go"
  exact ⟨x,y,rfl,kA _ (Same.refl _)⟩
 ·intro p H' sH hp
  walk_at "go"
  refine Pz (ns:=List.zipWith (fun x y=>((Bm.pop (x^^^y):Nat):Int)) xs ys) (SqL.of ?_) ?_
  ·rw [hp,List.map_zipWith]
  ·rw [Mm.qp]
   exact q _ sH
theorem La (h:sp_f22 aK0 aK1 K vs H Q E):vs.length=2:=by
 obtain ⟨_,_,_,_,rfl,_⟩:=h
 rfl
noncomputable abbrev Wz:=Addr×Str×List Nat×Int
noncomputable def WyT (H:Hp) (z:Wz):Prop:= ∃ca,H z.1=some (.tup [.str z.2.1, .ref ca, .int z.2.2.2])/\H ca=some (.tup (nv z.2.2.1))
theorem WyT.same {H H':Hp} {z:Wz} (h:WyT H z) (s:Same H H'):WyT H' z:=by
 obtain ⟨ca,h1,h2⟩:=h
 exact ⟨ca,s.get h1,s.get h2⟩
noncomputable def LdT (H:Hp) (p:Addr) (ws:List (Str×List Nat×Int)):Prop:= ∃zs:List Wz,zs.map (·.2)=ws/\H p=some (.lst (zs.map fun z:Wz=>V.ref z.1))/\ ∀z∈zs,WyT H z
theorem LdT.same {H H':Hp} {p:Addr} {ws:List (Str×List Nat×Int)} (h:LdT H p ws) (s:Same H H'):LdT H' p ws:=by
 obtain ⟨zs,h1,h2,h3⟩:=h
 exact ⟨zs,h1,s.get h2,fun z mz=>(h3 z mz).same s⟩
noncomputable def aW (ls:List (Str×List Nat)) (ps:List (Str×Int)):List (Str×List Nat×Int):=ps.filterMap fun p=>(Fo.lk ls p.1).map fun co=>(p.1,co,p.2)
theorem j0 (ls:List (Str×List Nat)) (ps:List (Str×Int)) (p:Str×Int):aW ls (ps++[p])=aW ls ps++(match Fo.lk ls p.1 with | none=>[] | some co=>[(p.1,co,p.2)]):=by
 unfold aW
 rw [List.filterMap_append]
 congr 1
 rw [List.filterMap_cons,List.filterMap_nil]
 cases Fo.lk ls p.1<;>rfl
inductive sp_f16 (aK0 aK1:Addr) (K:W.Frag) (vs:List V) (H:Hp) (Q:VK) (E:XK):Prop
 | mk (tb da:Addr) (zs:List Lz) (ps:List (Str×Int)) (h0:vs=[.ref tb, .ref da]) (h1:H tb=some (.dK (zs.map fun z:Lz=>((Sum.inr z.2.1:Key),V.ref z.2.2.1)))) (h2:(∀z∈zs,H z.2.2.1=some (.tup (nv z.2.2.2)))) (h3:DrG K H da ps) (h4:ps.length<=1000) (h5: ∀p H',Same H H'->H p=none->LdT H' p (aW (zs.map fun z:Lz=>(z.2.1,z.2.2.2)) ps)->Q (.ref p) H'):sp_f16 aK0 aK1 K vs H Q E
noncomputable def tH (aK0 aK1:Addr) (K:W.Frag) (E:XK) (Eh:XK):TS:=
  (bO (qG [none,none,some 0] (lz K (ao 1)) (jq K 2 (cB (aC 0) (cB (aC 1) lw))) (tB (xR (ao 0) (ao 2))) (cW (aj (ao 0) (aj (j8 (ao 2) (ao 0)) (aj (ao 1) aH))))))
theorem Lb (h:sp_f16 aK0 aK1 K vs H Q E): ∃Eh,tH aK0 aK1 K E Eh { nx:=fun _ H'=>Q .non H',rt:=Q } (start ["letters","doors"] vs) H:=by
 obtain ⟨tb,da,zs,ps,rfl,etb,hz,⟨dz,edz,h2,h3⟩,hpl,q⟩:=h
 refine ⟨E0,?_⟩
 unfold tH
 have hdl:dz.length=ps.length:=by rw [<- edz,Qr]
 walk_at "go"
 refine Gk (fun z:Addr×Str×Int=>V.ref z.1) (zs:=dz) h2 (by walk_at "m") (fun i ys H'=>(Ex1 fun (wz:List Wz)=>(An5 (ys=wz.map (fun z:Wz=>V.ref z.1)) (wz.map (·.2)=aW (zs.map fun z:Lz=>(z.2.1,z.2.2.2)) (ps.take i)) (wz.length<=i) (Same H H') (∀z∈wz,WyT H' z)))) ⟨[],rfl,rfl,by simp,Same.refl _,by simp⟩ ?_ ?_ ?_ ?_
 ·rintro i ys H' ⟨wz,rfl,_,_,s',_⟩
  exact s'.tup h2
 ·rintro i ys H' ⟨wz,rfl,_,hl,_⟩
  rw [Qr];exact hl
 ·rintro i ⟨b,s,room⟩ ys H' hi ⟨wz,rfl,ew,hl,s',hw⟩
  have hpi:ps[i]? =some (s,room):=by rw [<- edz,Zd,hi];rfl
  have etk:ps.take (i+1)=ps.take i++[(s,room)]:=by rw [Yz,hpi];rfl
  have tz:=s'.get (h3 _ (Zj hi))
  dsimp only at tz
  refine gb (SqT.of tz) rfl ?_
  walk_at "go"
  refine ⟨tb,_,rfl,DGet.k (k:=Sum.inr s) (s'.get etb),?_⟩
  cases hlk:Fo.lk (zs.map fun z:Lz=>(z.2.1,z.2.2.2)) s with
  | none=>
   have hv:dh (zs.map fun z:Lz=>((Sum.inr z.2.1:Key),V.ref z.2.2.1)) (Sum.inr s)=none:=gf (f:=fun z:Lz=>(Sum.inr z.2.1:Key)) (g:=fun z:Lz=>V.ref z.2.2.1) fun m=>by
    obtain ⟨z,mz,e⟩:=Zg.mp m
    obtain ⟨c,ec⟩:=Fo.sX (ls:=zs.map fun z:Lz=>(z.2.1,z.2.2.2)) (s:=s) (by rw [Zy];exact Zg.mpr ⟨z,mz,Sum.inr.inj e⟩)
    rw [hlk] at ec
    cases ec
   rw [hv]
   walk_at "go"
   show if false=true then _ else _
   walk_at "go"
   exact ⟨wz,rfl,by rw [etk,j0,ew];show _=_++(match Fo.lk (zs.map fun z:Lz=>(z.2.1,z.2.2.2)) s with | none=>[] | some co=>[(s,co,room)]);rw [hlk,Yx],by walk_at "m",s',hw⟩
  | some co=>
   obtain ⟨z,mz,e1,e2⟩:=kO hlk
   rw [e2]
   walk_at "go"
   show if true=true then _ else _
   walk_at "go"
   refine ⟨tb, .ref z.2.2.1,rfl,by rw [<- e2];exact DGet.k (k:=Sum.inr s) (s'.get etb),?_⟩
   walk_at "go"
   intro t ht
   refine ⟨wz++[(t,s,co,room)],by simp,?_,by simp;walk_at "m",s'.new ht,fun y my=> ?_⟩
   ·rw [etk,j0,Zw,ew]
    show _=_++(match Fo.lk (zs.map fun z:Lz=>(z.2.1,z.2.2.2)) s with | none=>[] | some co=>[(s,co,room)])
    rw [hlk];rfl
   ·rcases Yc.mp my with my | my
    ·exact (hw y my).same (aG ht _)
    ·rw [Zf.mp my]
     exact ⟨z.2.2.1,au,by rw [<- e1];exact aO ht (s'.get (hz z mz))⟩
 ·rintro ys H' ⟨wz,rfl,ew,hl,s',hw⟩ p hp
  rw [Xd (by walk_at "m")] at ew
  exact q p _ (s'.new hp) (s'.free hp) ⟨wz,ew,au,fun z mz=>(hw z mz).same (aG hp _)⟩
theorem Ld (h:sp_f16 aK0 aK1 K vs H Q E):vs.length=2:=by
 obtain ⟨_,_,_,_,rfl,_⟩:=h
 rfl
noncomputable def WsT (H:Hp) (p:Addr) (wss:List (List (Str×List Nat×Int))):Prop:= ∃rs:List (Addr×List (Str×List Nat×Int)),rs.map (·.2)=wss/\H p=some (.lst (rs.map fun r=>V.ref r.1))/\ ∀r∈rs,LdT H r.1 r.2
theorem WsT.same {H H':Hp} {p:Addr} {wss:List (List (Str×List Nat×Int))} (h:WsT H p wss) (s:Same H H'):WsT H' p wss:=by
 obtain ⟨rs,h1,h2,h3⟩:=h
 exact ⟨rs,h1,s.get h2,fun r mr=>(h3 r mr).same s⟩
inductive sp_f17 (aK0 aK1:Addr) (K:W.Frag) (vs:List V) (H:Hp) (Q:VK) (E:XK):Prop
 | mk (f ha:Addr) (h:Nat) (ls:List (Str×List Nat)) (ds:List (List (Str×Int))) (es:List Int) (h0:vs=[.ref f, .ref ha]) (h1:FnF K H f h ls) (h2:Fo.Wf h ls) (h3:Rw K H ha ds es) (h4:ds.length<=1000) (h5:(∀ps∈ds,ps.length<=1000)) (h6: ∀p H',Same H H'->H p=none->WsT H' p (ds.map (aW ls))->Q (.ref p) H'):sp_f17 aK0 aK1 K vs H Q E
noncomputable def tK (aK0 aK1:Addr) (K:W.Frag) (E:XK) (Eh:XK):TS:=
  (aQ (aZ (cV (ir K) (aj (aX (bQ K) (ao 0) (tC (V.int 1))) aH)) (aC 2))
  (bO (qG [none,some 2] (lz K (aX (bQ K) (ao 1) (tC (V.int 0)))) (aC 0) dj (bu (sp_f16 aK0 aK1 K) [] E0 (aj (ao 1) (aj (ao 0) aH))))))
theorem Le (h:sp_f17 aK0 aK1 K vs H Q E): ∃Eh,tK aK0 aK1 K E Eh { nx:=fun _ H'=>Q .non H',rt:=Q } (start ["font","house","letters"] vs) H:=by
 obtain ⟨f,ha,h,ls,ds,es,rfl,hF,wf,⟨d,e,rs,a1,a2,a3,a4,a5⟩,hdl,hpl,q⟩:=h
 refine ⟨E0,?_⟩
 unfold tK
 obtain ⟨l,ob,zs,h1,ez,hob,h3,h4⟩:=id hF
 have hl:zs.length=ls.length:=by rw [<- ez,Qr]
 have hrl:rs.length=ds.length:=by rw [<- a2,Qr]
 have hnd:(zs.map (·.2.1)).Nodup:=by
  have:=qy wf.up
  rw [<- ez,Zy] at this
  exact this
 walk_at "go"
 refine bD (SqT.of h1) (aK (j:=1) (v:= .ref l) rfl) ?_
 walk_at "go"
 refine qw (zs:=zs.map fun z:Lz=>(z.1,z.2.1,V.ref z.2.2.1)) hob (by rw [Zy];exact h3) (fun z m=> ?_) (by rw [Zy];exact hnd) (by rw [Qr];have:=wf.le;walk_at "m") fun tb htb=> ?_
 ·obtain ⟨y,my,rfl⟩:=Zg.mp m
  exact SqT.of (h4 y my).1
 rw [Zy]
 have S1:Same H (upd H tb (HO.dK (zs.map ((fun z:Addr×Str×V=>((Sum.inr z.2.1:Key),z.2.2))∘fun z:Lz=>(z.1,z.2.1,V.ref z.2.2.1))))):=aG htb _
 have etb:upd H tb (HO.dK (zs.map ((fun z:Addr×Str×V=>((Sum.inr z.2.1:Key),z.2.2))∘fun z:Lz=>(z.1,z.2.1,V.ref z.2.2.1)))) tb=some (.dK (zs.map fun z:Lz=>((Sum.inr z.2.1:Key),V.ref z.2.2.1))):=au
 generalize upd H tb (HO.dK (zs.map ((fun z:Addr×Str×V=>((Sum.inr z.2.1:Key),z.2.2))∘fun z:Lz=>(z.1,z.2.1,V.ref z.2.2.1))))=H1 at S1 etb
 walk_at "go"
 refine bD (SqT.of (S1.get a1)) (aK (j:=0) (v:= .ref d) rfl) ?_
 refine Gk (fun r:Addr×List (Str×Int)=>V.ref r.1) (zs:=rs) (S1.tup a3) (by walk_at "m") (fun i ys H'=>(Ex1 fun (wr:List (Addr×List (Str×List Nat×Int)))=>(An4 (ys=wr.map (fun r=>V.ref r.1)) (wr.map (·.2)=(ds.take i).map (aW ls)) (Same H1 H') (∀r∈wr,LdT H' r.1 r.2)))) ⟨[],rfl,rfl,Same.refl _,by simp⟩ ?_ ?_ ?_ ?_
 ·rintro i ys H' ⟨wr,rfl,_,s',_⟩
  exact s'.tup (S1.tup a3)
 ·rintro i ys H' ⟨wr,rfl,ew,_⟩
  have:=Xr List.length ew
  rw [Qr,Qr,Yf] at this
  rw [Qr];walk_at "m"
 ·rintro i ⟨ra,ps⟩ ys H' hi ⟨wr,rfl,ew,s',hw⟩
  have hdi:ds[i]? =some ps:=by rw [<- a2,Zd,hi];rfl
  have S':=S1.trans s'
  walk_at "go"
  refine ⟨tb,ra,zs,ps,rfl,s'.get etb,fun z mz=>S'.get (h4 z mz).2,(a4 _ (Zj hi)).same S',hpl ps (Zj hdi),fun p H2 s2 hp hL=> ?_⟩
  walk_at "go"
  rw [ez] at hL
  refine ⟨wr++[(p,aW ls ps)],by simp,by rw [Zw,ew,Yz,hdi,Zw];rfl,s'.trans s2,fun r mr=> ?_⟩
  rcases Yc.mp mr with mr | mr
  ·exact (hw r mr).same s2
  ·rw [Zf.mp mr];exact hL
 ·rintro ys H' ⟨wr,rfl,ew,s',hw⟩ p hp
  rw [Xd (by walk_at "m")] at ew
  exact q p _ ((S1.trans s').new hp) ((S1.trans s').free hp) ⟨wr,ew,au,fun r mr=>(hw r mr).same (aG hp _)⟩
theorem Lf (h:sp_f17 aK0 aK1 K vs H Q E):vs.length=2:=by
 obtain ⟨_,_,_,_,_,_,rfl,_⟩:=h
 rfl
noncomputable def cst (ys co:List Nat):Nat:=Mm.fZ (co.take (min co.length ys.length)) (ys.take (min co.length ys.length))
noncomputable def Gp (ys:List Nat) (ls:List (Str×List Nat)):List (Str×Nat):=ls.map fun p=>(p.1,cst ys p.2)
noncomputable def Gq (cs:List (Str×Nat)):List (Key×V):=cs.map fun p=>(Sum.inr p.1,V.int (p.2:Nat))
theorem Az {ys:List Nat} {s:Str} {co:List Nat}: ∀ {ls:List (Str×List Nat)},Fo.lk ls s=some co->dh (Gq (Gp ys ls)) (Sum.inr s)=some (V.int (cst ys co:Nat))
 | [],h=>by cases h
 | p::r,h=>by
  rw [Fo.iG] at h
  show dh ((Sum.inr p.1,V.int (cst ys p.2:Nat))::Gq (Gp ys r)) (Sum.inr s)=_
  by_cases e:p.1=s
  ·rw [if_pos e] at h
   cases h
   rw [di (by show Sum.inr _=Sum.inr _;rw [e])]
  ·rw [if_neg e] at h
   rw [cQ (by intro z;exact e (Sum.inr.inj z))]
   exact Az h
inductive sp_f6 (aK0 aK1:Addr) (K:W.Frag) (vs:List V) (H:Hp) (Q:VK) (E:XK):Prop
 | mk (f o:Addr) (h:Nat) (ls:List (Str×List Nat)) (ys:List Nat) (h0:vs=[.ref f, .ref o]) (h1:Td K H f h ls) (h2:Fo.Wf h ls) (h3:SqT K H o (nv ys)) (h4:ys.length<=1000) (h5: ∀r H',Same H H'->H r=none->H' r=some (.dK (Gq (Gp ys ls)))->Q (.ref r) H'):sp_f6 aK0 aK1 K vs H Q E
noncomputable abbrev Gr (aK0:Addr) (aK1:Addr) (K:W.Frag):TS:=
  (aQ (aZ (cV rC (aj (cV (cu K) (aj (ao 4) aH)) (aj (cV (cu K) (aj (ao 1) aH)) aH))) (aC 5))
  (p7 (ao 2) (ao 3) (bu (sp_f22 aK0 aK1 K) [] E0 (aj (vG (jQ K) (ao 4) bW (dI (ao 5))) (aj (vG (jQ K) (ao 1) bW (dI (ao 5))) aH)))))
noncomputable def Ba (aK0 aK1:Addr) (K:W.Frag) (E:XK) (Eh:XK):TS:=
  (aQ (aZ mX (aC 2))
  (aQ (fL (lz K (aX (bQ K) (ao 0) (tC (V.int 1)))) (jq K 2 (cB (aC 3) (cB (aC 4) lw))) (Gr aK0 aK1 K))
  (bO (ao 2))))
theorem Q3 (h:sp_f6 aK0 aK1 K vs H Q E): ∃Eh,Ba aK0 aK1 K E Eh { nx:=fun _ H'=>Q .non H',rt:=Q } (start ["font","over","costs","sign","columns","wide"] vs) H:=by
 obtain ⟨f,o,h,ls,ys,rfl,hF,wf,hO,hyl,q⟩:=h
 refine ⟨E0,?_⟩
 unfold Ba
 have hnd:(ls.map (·.1)).Nodup:=wf.up.imp fun hlt e=>by subst e;exact List.lt_irrefl _ hlt
 obtain ⟨l,zs,t1,ezs,t3,t4⟩:=id hF
 have hzl:zs.length=ls.length:=by rw [<- ezs,Qr]
 have hle:=wf.le
 walk_at "go"
 intro r hr
 walk_at "go"
 refine bD (SqT.of (aO hr t1)) (aK (j:=1) (v:= .ref l) rfl) ?_
 have hfr: ∀p'∈[r],H p'=none:=fun p' hp'=>by rw [Zf.mp hp'];exact hr
 walk_at "ns"
 refine Ag (fun z:Lz=>V.ref z.1) ((aG hr _).tup t3) (fun i σ H'=>(An3 (Sb [r] H H') (H' r=some (.dK (Gq (Gp ys (ls.take i))))) (Ex3 fun o1 o2 o3=>σ=[some (.ref f),some (.ref o),some (.ref r),o1,o2,o3]))) ⟨Sb.of (aG hr _),au,_,_,_,rfl⟩ ?_ ?_ ?_
 ·rintro i σ H' ⟨sb,_⟩
  exact (sb.off hfr).tup t3
 ·rintro i ⟨za,s,ca,co⟩ σ H' hi ⟨sb,er,o1,o2,o3,rfl⟩
  have S:=sb.off hfr
  have mz:=Zj hi
  obtain ⟨u1,u2⟩:=t4 _ mz
  dsimp only at u1 u2
  have hli:ls[i]? =some (s,co):=by rw [<- ezs,Zd,hi];rfl
  have c1:=wf.c1 _ (Zj hli)
  dsimp only at c1
  have hil:i<ls.length:=(Xa.mp hli).1
  have etk:ls.take (i+1)=ls.take i++[(s,co)]:=by rw [Yz,hli];rfl
  have hkey:s∉(ls.take i).map (·.1):=by
   have h1:((ls.take (i+1)).map (·.1)).Nodup:=List.Nodup.sublist ((List.take_sublist _ _).map _) hnd
   rw [etk,Zw,List.nodup_append] at h1
   exact fun m=>h1.2.2 s m s (by simp) rfl
  refine gb (SqT.of (S.get u1)) rfl ?_
  walk_at "go"
  refine c7 (SqT.of (S.get u2)) ?_
  rw [Qr]
  walk_at "go"
  refine c7 (S.tup hO) ?_
  rw [Qr]
  walk_at "go"
  rw [show (if (ys.length:Int)<(co.length:Int) then (ys.length:Int) else (co.length:Int))=((min co.length ys.length:Nat):Int) by split<;>walk_at "m"]
  walk_at "ns"
  refine Ip (SqT.of (S.get u2)) fun p1 H1 s1 e1=> ?_
  rw [nY (by walk_at "m"),Yb,nv,<- List.map_take] at e1
  walk_at "go"
  refine Ip ((S.trans s1).tup hO) fun p2 H2 s2 e2=> ?_
  rw [nY (by walk_at "m"),Yb,nv,<- List.map_take] at e2
  walk_at "go"
  refine ⟨p1,p2,_,_,rfl,s2.tup e1,e2,by rw [Yf,Yf];walk_at "m",by rw [Yf];walk_at "m",fun H3 s3=> ?_⟩
  have T3:=(s1.trans s2).trans s3
  have er3:=T3.get er
  have hv:dh (Gq (Gp ys (ls.take i))) (Sum.inr s)=none:=gf (f:=fun p:Str×Nat=>(Sum.inr p.1:Key)) (g:=fun p:Str×Nat=>V.int (p.2:Nat)) fun m=>by
   obtain ⟨p,mp,e⟩:=Zg.mp m
   obtain ⟨y,my,rfl⟩:=Zg.mp mp
   exact hkey (Zg.mpr ⟨y,my,Sum.inr.inj e⟩)
  walk_at "go"
  refine ⟨r,_,rfl,DPut.k (k:=Sum.inr s) er3 (Yg (by unfold Gq Gp;rw [Qr,Qr,Yf];walk_at "m":_<=40) (by decide)),?_⟩
  rw [jC _ hv]
  walk_at "go"
  refine ⟨(sb.same T3).set (by simp),?_,_,_,_,rfl⟩
  rw [au,etk]
  unfold Gp Gq
  rw [Zw,Zw];rfl
 ·rintro σ H' ⟨sb,er,o1,o2,o3,rfl⟩
  rw [hzl,Wp] at er
  walk_at "go"
  exact q r H' (sb.off hfr) hr er
theorem Q4 (h:sp_f6 aK0 aK1 K vs H Q E):vs.length=2:=by
 obtain ⟨_,_,_,_,_,rfl,_⟩:=h
 rfl
section
variable {α:Type} [DecidableEq α]
noncomputable def dF (L qs:List α):List α:=qs.foldl (fun L q=>if q∈L then L else L++[q]) L
theorem kY (L:List α):dF L []=L:=rfl
theorem mG (L qs:List α) (q:α):dF L (qs++[q])=if q∈dF L qs then dF L qs else dF L qs++[q]:=by
 unfold dF;rw [List.foldl_append];rfl
theorem kZ: ∀ (qs L:List α),∃E,dF L qs=L++E
 | [],L=>⟨[],by rw [kY,Yx]⟩
 | q::qs,L=>by
  show ∃E,dF (if q∈L then L else L++[q]) qs=L++E
  split
  ·exact kZ qs L
  ·obtain ⟨E,e⟩:=kZ qs (L++[q])
   exact ⟨q::E,by rw [e,Ye];rfl⟩
theorem cT: ∀ {qs L:List α} {x:α},x∈dF L qs↔x∈L\/x∈qs
 | [],L,x=>by rw [kY];simp
 | q :: qs, L, x => by
  show x∈dF (if q∈L then L else L++[q]) qs↔_
  rw [cT]
  split
  ·rename_i h
   constructor
   ·rintro (m | m)
    ·exact .inl m
    ·exact .inr (Zs _ m)
   ·rintro (m | m)
    ·exact .inl m
    ·rcases Zu.mp m with rfl | m
     ·exact .inl h
     ·exact .inr m
  ·rw [Yc,Zf,Zu,or_assoc]
theorem iH: ∀ {qs L:List α},L.Nodup->(dF L qs).Nodup
 | [],L,h=>h
 | q::qs,L,h=>by
  show (dF (if q∈L then L else L++[q]) qs).Nodup
  split
  ·exact iH h
  ·rename_i hq
   refine iH (List.nodup_append.mpr ⟨h,by simp,fun a m b mb e=>hq ?_⟩)
   rw [Zf.mp mb] at e
   rw [<- e];exact m
noncomputable def cF (nx:α->List α) (st:α):Nat->List α
 | 0=>[st]
 | k+1=>match (cF nx st k)[k]? with
  | none=>cF nx st k
  | some p=>dF (cF nx st k) (nx p)
theorem eV {nx:α->List α} {st:α} {k:Nat} {p:α} (h:(cF nx st k)[k]? =some p):cF nx st (k+1)=dF (cF nx st k) (nx p):=by
 rw [cF,h]
theorem Bb {nx:α->List α} {st:α} {k:Nat} (h:(cF nx st k).length<=k):cF nx st (k+1)=cF nx st k:=by
 rw [cF,Xi h]
theorem wH (nx:α->List α) (st:α) (k:Nat): ∃E,cF nx st (k+1)=cF nx st k++E:=by
 cases h:(cF nx st k)[k]? with
 | none=>exact ⟨[],by rw [cF,h,Yx]⟩
 | some p=>rw [eV h];exact kZ _ _
theorem cN (nx:α->List α) (st:α): ∀k,(cF nx st k).Nodup
 | 0=>by rw [cF];simp
 | k+1=>by
  cases h:(cF nx st k)[k]? with
  | none=>rw [cF,h];exact cN nx st k
  | some p=>rw [eV h];exact iH (cN nx st k)
theorem j4 {nx:α->List α} {st:α} {k:Nat} (h:(cF nx st k).length<=k): ∀j,cF nx st (k+j)=cF nx st k
 | 0=>rfl
 | j+1=>by
  have e:=j4 h j
  rw [<- Nat.add_assoc,Bb (by rw [e];walk_at "m"),e]
theorem cU {nx:α->List α} {st:α} {P:α->Prop} (h0:P st) (hs: ∀p q,P p->q∈nx p->P q): ∀k,∀p∈cF nx st k,P p
 | 0,p,m=>by rw [cF,Zf] at m;rw [m];exact h0
 | k+1,p,m=>by
  cases h:(cF nx st k)[k]? with
  | none=>rw [cF,h] at m;exact cU h0 hs k p m
  | some p'=>
   rw [eV h] at m
   rcases cT.mp m with m | m
   ·exact cU h0 hs k p m
   ·exact hs p' p (cU h0 hs k p' (Zj h)) m
end
theorem qC (a b:Str):(a++b).length=a.length+b.length:=by
 show (Str.append a b).length=_
 simp [Str.append,Str.length]
theorem gh {α:Type} [DecidableEq α]: ∀ {l m:List α},l.Nodup->(∀x∈l,x∈m)->l.length<=m.length
 | [],m,_,_=>Yp _
 | x::l,m,hn,hs=>by
  have hx:=hs x Zq
  obtain ⟨n1,n2⟩:=Xn.mp hn
  have:=gh (l:=l) (m:=m.erase x) n2 fun y my=>(List.mem_erase_of_ne (fun (e:y=x)=>n1 (by rw [<- e];exact my))).mpr (hs y (Zs _ my))
  rw [List.length_erase_of_mem hx] at this
  have:=List.length_pos_of_mem hx
  rw [Yv];walk_at "m"
noncomputable def bG (wss:List (List (Str×List Nat×Int))) (k:Nat):List Int:=cF (fun r=>(wss.getD r.toNat []).map (·.2.2)) 0 k
theorem tL: ∀ {ps:List (Int×Str)} {r:Int},r∈ps.map (·.1)-> ∃t,(r,t)∈ps/\dh (ps.map fun p=>((Sum.inl p.1:Key),V.str p.2)) (Sum.inl r)=some (V.str t)
 | p::ps,r,m=>by
  rw [Zr]
  by_cases e:p.1=r
  ·exact ⟨p.2,by rw [<- e];exact Zq,by rw [di (by rw [e])]⟩
  ·obtain ⟨t,h1,h2⟩:=tL (ps:=ps) (r:=r) (by rcases Zu.mp m with z | z;exact absurd z.symm e;exact z)
   exact ⟨t,Zs _ h1,by rw [cQ (by intro z;exact e (Sum.inl.inj z))];exact h2⟩
theorem Gs {ps:List (Int×Str)} {r:Int} (h:r∉ps.map (·.1)):dh (ps.map fun p=>((Sum.inl p.1:Key),V.str p.2)) (Sum.inl r)=none:=gf (f:=fun p:Int×Str=>(Sum.inl p.1:Key)) (g:=fun p=>V.str p.2) fun m=>by
 obtain ⟨p,mp,e⟩:=Zg.mp m
 exact h (Zg.mpr ⟨p,mp,Sum.inl.inj e⟩)
inductive sp_f0 (aK0 aK1:Addr) (K:W.Frag) (vs:List V) (H:Hp) (Q:VK) (E:XK):Prop
 | mk (wa:Addr) (wss:List (List (Str×List Nat×Int))) (h0:vs=[.ref wa]) (h1:WsT H wa wss) (h2:0<wss.length) (h3:wss.length<=100) (h4:(∀ws∈wss,ws.length<=1000/\ ∀w∈ws,w.1.length<=1/\0<=w.2.2/\w.2.2<wss.length)) (h5: ∀r H' (N:Nat) (ps:List (Int×Str)),Same H H'->H r=none->ps.map (·.1)=bG wss N->H' r=some (.dK (ps.map fun p=>((Sum.inl p.1:Key),V.str p.2)))->(bG wss N).length<=N->Q (.ref r) H'):sp_f0 aK0 aK1 K vs H Q E
noncomputable abbrev Gu (K:W.Frag):TS:=
  (aQ (aZ (xK K "list" qX (ao 2) (aj (tC (V.int 0)) aH)) (aC 3))
  (fL (fK K (aX (dC K) (ao 0) (ao 3))) (jq K 3 (cB (aC 4) (cB (aC 5) (cB (aC 6) lw)))) (eX (tB (mV (ao 6) (ao 1))) (aQ (p7 (ao 1) (ao 6) (aX gr (j8 (ao 1) (ao 3)) (ao 4)))
  (gK (xK K "list" cY (ao 2) (aj (ao 6) aH)))) cA)))
noncomputable def Bd (aK0 aK1:Addr) (K:W.Frag) (E:XK) (Eh:XK):TS:=
  (aQ (aZ (xU [((tC (V.int 0)),(tC (V.str (Str.ofString ""))))]) (aC 1))
  (aQ (aZ (jh (aj (tC (V.int 0)) aH)) (aC 2))
  (aQ (fJ (bT (aX Jy (cV (cu K) (aj (ao 2) aH)) (tC (V.int 0)))) (Gu K))
  (bO (ao 1)))))
theorem Q5 (h:sp_f0 aK0 aK1 K vs H Q E): ∃Eh,Bd aK0 aK1 K E Eh { nx:=fun _ H'=>Q .non H',rt:=Q } (start ["ways","texts","waiting","here","sign","columns","room"] vs) H:=by
 obtain ⟨wa,wss,rfl,hW,hw0,hw1,hws,q⟩:=h
 refine ⟨E0,?_⟩
 unfold Bd
 have hrm: ∀k,∀r∈bG wss k,0<=r/\r<wss.length:=fun k=>cU (P:=fun r:Int=>0<=r/\r<wss.length) ⟨by decide,by walk_at "m"⟩ (fun p q' hp hq=>by
  obtain ⟨w,mw,rfl⟩:=Zg.mp hq
  have:wss.getD p.toNat []∈wss:=by rw [Zx,Zc (by walk_at "m")];exact Xh _
  exact ((hws _ this).2 w mw).2) k
 have hrl: ∀k,(bG wss k).length<=wss.length:=fun k=>by
  have:=gh (l:=bG wss k) (m:=(List.range wss.length).map fun i:Nat=>(i:Int)) (cN _ _ k) fun r mr=>by
   obtain ⟨h0,h1⟩:=hrm k r mr
   exact Zg.mpr ⟨r.toNat,Xe.mpr (by walk_at "m"),by walk_at "m"⟩
  rw [Qr,Ys] at this
  exact this
 obtain ⟨rs,hW1,hW2,hW3⟩:=id hW
 have hrs:rs.length=wss.length:=by rw [<- hW1,Qr]
 walk_at "go"
 intro te hte
 walk_at "go"
 refine ⟨au,[(Sum.inl 0,V.str (Str.ofString ""))],rfl,by simp,?_⟩
 have sb0:Sb [te] H (upd (upd H te (HO.dK [])) te (HO.dK (eZ [] [(Sum.inl 0,V.str (Str.ofString ""))]))):=(Sb.of (aG hte _)).set (by simp)
 have ete0:upd (upd H te (HO.dK [])) te (HO.dK (eZ [] [(Sum.inl 0,V.str (Str.ofString ""))])) te=some (.dK ([((0:Int),(Str.ofString ""))].map fun p=>((Sum.inl p.1:Key),V.str p.2))):=by rw [au];rfl
 generalize upd (upd H te (HO.dK [])) te (HO.dK (eZ [] [(Sum.inl 0,V.str (Str.ofString ""))]))=H0 at sb0 ete0
 walk_at "go"
 intro wl hwl
 have n1:te≠wl:=fun e=>by rw [<- e,ete0] at hwl;cases hwl
 have hwl0:H wl=none:=(sb0.off fun p hp=>by rw [Zf.mp hp];exact hte).free hwl
 have hfr: ∀p∈[te,wl],H p=none:=fun p hp=>by
  simp only [Zu,Xb,or_false] at hp
  rcases hp with rfl | rfl
  ·exact hte
  ·exact hwl0
 walk_at "go"
 walk_at "ns"
 refine oh (fun σ H'=>(An2 (Sb [te,wl] H H') (Ex6 fun (k:Nat) (ps:List (Int×Str)) (o1 o2 o3 o4:Option V)=>(An6 (k<=(bG wss k).length) (ps.map (·.1)=bG wss k) (∀p∈ps,p.2.length<=ps.length) (H' te=some (.dK (ps.map fun p=>((Sum.inl p.1:Key),V.str p.2)))) (H' wl=some (.lst (((bG wss k).drop k).map V.int))) (σ=[some (.ref wa),some (.ref te),some (.ref wl),o1,o2,o3,o4]))))) (fun _ H'=>match H' wl with | some (.lst l)=>(match H' te with | some (.dK m)=>1000-(m.length-l.length) | _=>0) | _=>0) ⟨(Sb.more sb0 (by simp)).new hwl,0,[(0,Str.ofString "")],_,_,_,_,Yp _,rfl,fun p mp=>by rw [Zf.mp mp];decide,aO hwl ete0,au,rfl⟩ ?_ ?_
 ·rintro σ H' ⟨sb,k,ps,o1,o2,o3,o4,hk,eps,hpl,ete,ewl,rfl⟩
  have S':=sb.off hfr
  have hpsl:ps.length=(bG wss k).length:=by rw [<- eps,Qr]
  have hrk:=hrl k
  walk_at "go"
  refine fC (SqL.of ewl) ?_
  rw [Qr,Xs]
  walk_at "go"
  refine iY (fun c1=> ?_) fun c1=> ?_
  ·have hkl:k<(bG wss k).length:=by walk_at "m"
   obtain ⟨r,hr⟩: ∃r,(bG wss k)[k]? =some r:=⟨_,Zc hkl⟩
   have hdr:(bG wss k).drop k=r::(bG wss k).drop (k+1):=by rw [List.drop_eq_getElem_cons hkl,(Xa.mp hr).2]
   have mr:=Zj hr
   obtain ⟨r0,r1⟩:=hrm k r mr
   obtain ⟨j,rfl⟩: ∃j:Nat,r=(j:Int):=⟨r.toNat,by walk_at "m"⟩
   obtain ⟨rz,hrz⟩: ∃rz,rs[j]? =some rz:=⟨_,Zc (by walk_at "m")⟩
   have hwj:wss[j]? =some rz.2:=by rw [<- hW1,Zd,hrz];rfl
   have hgd:wss.getD j []=rz.2:=by rw [Zx,hwj];rfl
   have hnx:bG wss (k+1)=dF (bG wss k) (rz.2.map (·.2.2)):=by
    have:=eV hr
    show cF _ _ (k+1)=_
    rw [this]
    show dF _ ((wss.getD ((j:Int)).toNat []).map _)=_
    rw [Yb,hgd];rfl
   obtain ⟨hz1000,hzw⟩:=hws rz.2 (Zj hwj)
   obtain ⟨zs,ez,ezl,hz⟩:=hW3 rz (Zj hrz)
   have hzl:zs.length=rz.2.length:=by rw [<- ez,Qr]
   walk_at "go"
   refine je (SqL.of ewl) ?_
   walk_at "go"
   rw [hdr,Zr] at ewl
   refine Kw ewl ?_
   walk_at "go"
   have n2:wl≠te:=n1.symm
   have ete1:upd H' wl (HO.lst (((bG wss k).drop (k+1)).map V.int)) te=some (.dK (ps.map fun p=>((Sum.inl p.1:Key),V.str p.2))):=by rw [aF n1];exact ete
   have sb1:=sb.set (p:=wl) (o:=HO.lst (((bG wss k).drop (k+1)).map V.int)) (by simp)
   have S1:=sb1.off hfr
   have ewl1:upd H' wl (HO.lst (((bG wss k).drop (k+1)).map V.int)) wl=some (.lst (((bG wss k).drop (k+1)).map V.int)):=au
   generalize upd H' wl (HO.lst (((bG wss k).drop (k+1)).map V.int))=H1 at sb1 S1 ete1 ewl1
   refine dB (SqL.of (S1.get hW2)) (aK (j:=j) (v:= .ref rz.1) (by rw [Zd,hrz];rfl)) ?_
   walk_at "ns"
   refine uU (fun z:Wz=>V.ref z.1) (zs:=zs) (SqL.of (S1.get ezl)) (fun i σ H2=>(An2 (Sb [te,wl] H H2) (Ex5 fun (ps':List (Int×Str)) (E:List Int) (o2 o3 o4:Option V)=>(An6 (ps'.map (·.1)=dF (bG wss k) ((rz.2.map (·.2.2)).take i)) (ps'.map (·.1)=bG wss k++E) (∀p∈ps',p.2.length<=ps'.length) (H2 te=some (.dK (ps'.map fun p=>((Sum.inl p.1:Key),V.str p.2)))) (H2 wl=some (.lst (((bG wss k).drop (k+1)++E).map V.int))) (σ=[some (.ref wa),some (.ref te),some (.ref wl),some (.int (j:Nat)),o2,o3,o4]))))) ⟨sb1,ps,[],_,_,_,by rw [List.take_zero,kY];exact eps,by rw [Yx];exact eps,hpl,ete1,by rw [Yx];exact ewl1,rfl⟩ ?_ ?_ ?_
   ·rintro i σ H2 ⟨sb2,_⟩
    exact SqL.of ((sb2.off hfr).get ezl)
   ·rintro i ⟨za,s,co,room⟩ σ H2 hi ⟨sb2,ps',E,o2,o3,o4,ea,eE,hpl',ete2,ewl2,rfl⟩
    have S2:=sb2.off hfr
    obtain ⟨ca,v1,v2⟩:=hz _ (Zj hi)
    dsimp only at v1 v2
    have hwi:rz.2[i]? =some (s,co,room):=by rw [<- ez,Zd,hi];rfl
    have hsl:=(hzw _ (Zj hwi)).1
    dsimp only at hsl
    have etk:(rz.2.map (·.2.2)).take (i+1)=(rz.2.map (·.2.2)).take i++[room]:=by rw [Yz,Zd,hwi];rfl
    have hpl2:ps'.length<=100:=by
     have h1:=gh (l:=ps'.map (·.1)) (m:=bG wss (k+1)) (by rw [ea];exact iH (cN _ _ k)) fun x mx=>by
      rw [ea] at mx
      rw [hnx]
      rcases cT.mp mx with m | m
      ·exact cT.mpr (.inl m)
      ·exact cT.mpr (.inr (List.mem_of_mem_take m))
     have h2:=hrl (k+1)
     rw [Qr] at h1
     walk_at "m"
    rw [etk,mG]
    refine gb (SqT.of (S2.get v1)) rfl ?_
    walk_at "go"
    refine ⟨te,_,rfl,DGet.k (k:=Sum.inl room) ete2,?_⟩
    by_cases m:room∈dF (bG wss k) ((rz.2.map (·.2.2)).take i)
    ·obtain ⟨tt,_,ev⟩:=tL (ps:=ps') (r:=room) (by rw [ea];exact m)
     rw [ev,if_pos m]
     walk_at "go"
     show if (!true)=true then _ else _
     walk_at "go"
     exact ⟨sb2,ps',E,_,_,_,ea,eE,hpl',ete2,ewl2,rfl⟩
    ·have ev:=Gs (ps:=ps') (r:=room) (by rw [ea];exact m)
     rw [ev,if_neg m]
     obtain ⟨tj,mtj,evj⟩:=tL (ps:=ps') (r:=(j:Int)) (by rw [eE];exact Xf _ mr)
     have htl:=hpl' _ mtj
     dsimp only at htl
     walk_at "go"
     show if (!false)=true then _ else _
     walk_at "go"
     refine ⟨te,V.str tj,rfl,by rw [<- evj];exact DGet.k (k:=Sum.inl (j:Int)) ete2,?_⟩
     walk_at "go"
     refine sO (by walk_at "m") ?_
     walk_at "go"
     refine ⟨te,_,rfl,DPut.k (k:=Sum.inl room) ete2 (Yg (by rw [Qr];walk_at "m":_<=2000) (by decide)),?_⟩
     rw [jC _ ev]
     walk_at "go"
     have ewl3: ∀w,upd H2 te w wl=some (.lst (((bG wss k).drop (k+1)++E).map V.int)):=fun w=>by rw [aF n2];exact ewl2
     refine je (SqL.of (ewl3 _)) ?_
     walk_at "go"
     refine kJ (ewl3 _) (by rw [Qr,Zn,Xs];have:=Xr List.length eE;rw [Qr,Zn] at this;walk_at "m") ?_
     walk_at "go"
     refine ⟨(sb2.set (by simp)).set (by simp),ps'++[(room,tj++s)],E++[room],_,_,_,by rw [Zw,ea];rfl,by rw [Zw,eE,Ye];rfl,fun p mp=> ?_,by rw [aF n1,au,Zw];rfl,by rw [au,<- Ye,Zw (l₂:=[room])];rfl,rfl⟩
     rw [Zn,We]
     rcases Yc.mp mp with mp | mp
     ·have:=hpl' p mp;walk_at "m"
     ·rw [Zf.mp mp]
      show (tj++s).length<=_
      rw [show (tj++s).length=tj.length+s.length from qC _ _]
      walk_at "m"
   ·rintro σ H2 ⟨sb2,ps',E,o2,o3,o4,ea,eE,hpl',ete2,ewl2,rfl⟩
    rw [Xd (by rw [Qr];walk_at "m"),<- hnx] at ea
    have eD:(bG wss k).drop (k+1)++E=(bG wss (k+1)).drop (k+1):=by
     rw [<- ea,eE,List.drop_append_of_le_length (by walk_at "m")]
    rw [eD] at ewl2
    have hl2:ps'.length=(bG wss (k+1)).length:=by rw [<- ea,Qr]
    have hk1:k+1<=(bG wss (k+1)).length:=by
     rw [<- hl2]
     have:=Xr List.length eE
     rw [Qr,Zn] at this
     walk_at "m"
    have hrk1:=hrl (k+1)
    refine ⟨⟨sb2,k+1,ps',_,_,_,_,hk1,ea,hpl',ete2,ewl2,rfl⟩,?_⟩
    show (match H2 wl with | some (.lst l)=>(match H2 te with | some (.dK m)=>1000-(m.length-l.length) | _=>0) | _=>0)<(match H' wl with | some (.lst l)=>(match H' te with | some (.dK m)=>1000-(m.length-l.length) | _=>0) | _=>0)
    rw [ewl2,ete2,ewl,ete]
    dsimp only
    simp only [Qr,Yv,Xs]
    rw [show ps'.length-((bG wss (k+1)).length-(k+1))=k+1 by walk_at "m",show ps.length-((bG wss k).length-(k+1)+1)=k by walk_at "m"]
    exact Nat.sub_lt_sub_left (by walk_at "m") (Nat.lt_succ_self k)
  ·walk_at "go"
   exact q te H' k ps S' hte eps ete (by walk_at "m")
 ·rintro σ H Q Q' hq ⟨v,hv,x,n,e,hl,i,j,e1,e2,k,e3,z⟩
  exact ⟨v,hv,x,n,e,hl,i,j,e1,e2,k,e3,hq _ _ z⟩
theorem Q6 (h:sp_f0 aK0 aK1 K vs H Q E):vs.length=1:=by
 obtain ⟨_,_,rfl,_⟩:=h
 rfl
noncomputable def CT (w:Str×List Nat×Int) (ah:Int) (ys:List Nat):Int×Int×List Nat:=if w.2.1.length<=ys.length then (w.2.2,ah,ys.drop w.2.1.length) else (ah,w.2.2,w.2.1.drop ys.length)
noncomputable def StT (K:W.Frag) (H:Hp) (a:Addr) (st:Int×Int×List Nat):Prop:= ∃c,H a=some (.tup [.int st.1, .int st.2.1, .ref c])/\H c=some (.tup (nv st.2.2))
theorem StT.same {K:W.Frag} {H H':Hp} {a:Addr} {st:Int×Int×List Nat} (h:StT K H a st) (s:Same H H'):StT K H' a st:=by
 obtain ⟨c,h1,h2⟩:=h
 exact ⟨c,s.get h1,s.get h2⟩
inductive sp_f3 (aK0 aK1:Addr) (K:W.Frag) (vs:List V) (H:Hp) (Q:VK) (E:XK):Prop
 | mk (wa o:Addr) (w:Str×List Nat×Int) (ah:Int) (ys:List Nat) (h0:vs=[.ref wa, .int ah, .ref o]) (h1:WyT H (wa,w)) (h2:H o=some (.tup (nv ys))) (h3: ∀r H',Same H H'->H r=none->StT K H' r (CT w ah ys)->Q (.ref r) H'):sp_f3 aK0 aK1 K vs H Q E
noncomputable abbrev Gv (K:W.Frag):TS:=
  (aQ (eX (bT (aX O2 (ao 3) (cV (cu K) (aj (ao 2) aH)))) (bO (cW (aj (aX (bQ K) (ao 0) (tC (V.int 2))) (aj (ao 1) (aj (vG (jQ K) (ao 2) (dI (ao 3)) bW) aH))))) cA)
  (bO (cW (aj (ao 1) (aj (aX (bQ K) (ao 0) (tC (V.int 2))) (aj (vG (jQ K) (aX (bQ K) (ao 0) (tC (V.int 1))) (dI (cV (cu K) (aj (ao 2) aH))) bW) aH))))))
noncomputable def Be (aK0 aK1:Addr) (K:W.Frag) (E:XK) (Eh:XK):TS:=
  (aQ (aZ (cV (cu K) (aj (aX (bQ K) (ao 0) (tC (V.int 1))) aH)) (aC 3))
  (Gv K))
theorem Q7 (h:sp_f3 aK0 aK1 K vs H Q E): ∃Eh,Be aK0 aK1 K E Eh { nx:=fun _ H'=>Q .non H',rt:=Q } (start ["way","ahead","over","wide"] vs) H:=by
 obtain ⟨wa,o,⟨s,co,room⟩,ah,ys,rfl,⟨ca,w1,w2⟩,hO,q⟩:=h
 refine ⟨E0,?_⟩
 unfold Be
 dsimp only at w1 w2
 walk_at "go"
 refine bD (SqT.of w1) (aK (j:=1) (v:= .ref ca) rfl) ?_
 walk_at "go"
 refine c7 (SqT.of w2) ?_
 rw [Qr]
 walk_at "go"
 refine c7 (SqT.of hO) ?_
 rw [Qr]
 walk_at "go"
 refine iY (fun c=> ?_) fun c=> ?_
 ·walk_at "go"
  refine bD (SqT.of w1) (aK (j:=2) (v:= .int room) rfl) ?_
  walk_at "go"
  refine kW hO fun p1 H1 s1 e1=> ?_
  rw [iC (by walk_at "m"),Yb,nv,<- List.map_drop] at e1
  walk_at "go"
  intro r hr
  refine q r _ (s1.new hr) (s1.free hr) ?_
  unfold CT
  rw [if_pos (show co.length<=ys.length by walk_at "m")]
  exact ⟨p1,au,aO hr e1⟩
 ·walk_at "go"
  refine bD (SqT.of w1) (aK (j:=2) (v:= .int room) rfl) ?_
  walk_at "go"
  refine bD (SqT.of w1) (aK (j:=1) (v:= .ref ca) rfl) ?_
  walk_at "go"
  refine c7 (SqT.of hO) ?_
  rw [Qr]
  walk_at "go"
  refine kW w2 fun p1 H1 s1 e1=> ?_
  rw [iC (by walk_at "m"),Yb,nv,<- List.map_drop] at e1
  walk_at "go"
  intro r hr
  refine q r _ (s1.new hr) (s1.free hr) ?_
  unfold CT
  rw [if_neg (show ¬co.length<=ys.length by walk_at "m")]
  exact ⟨p1,au,aO hr e1⟩
theorem Q8 (h:sp_f3 aK0 aK1 K vs H Q E):vs.length=3:=by
 obtain ⟨_,_,_,_,_,rfl,_⟩:=h
 rfl
noncomputable def Ir (wss:List (List (Str×List Nat×Int))) (r:Int):List ((Str×List Nat×Int)×(Str×List Nat×Int)×Int):=(List.range (wss.getD r.toNat []).length).flatMap fun j=>(List.range j).map fun k=>((wss.getD r.toNat []).getD k default,(wss.getD r.toNat []).getD j default,r)
noncomputable def lq (wss:List (List (Str×List Nat×Int))) (rs:List Int):List ((Str×List Nat×Int)×(Str×List Nat×Int)×Int):=rs.flatMap (Ir wss)
noncomputable abbrev Fz:=Addr×Addr×Addr×Addr×((Str×List Nat×Int)×(Str×List Nat×Int)×Int)
noncomputable def FkA (K:W.Frag) (H:Hp) (z:Fz):Prop:=H z.1=some (.tup [.int (cst z.2.2.2.2.2.1.2.1 z.2.2.2.2.1.2.1:Nat), .ref z.2.1, .int z.2.2.2.2.2.2, .ref z.2.2.1, .ref z.2.2.2.1])/\StT K H z.2.1 (CT z.2.2.2.2.1 z.2.2.2.2.2.1.2.2 z.2.2.2.2.2.1.2.1)/\WyT H (z.2.2.1,z.2.2.2.2.1)/\WyT H (z.2.2.2.1,z.2.2.2.2.2.1)
theorem FkA.same {K:W.Frag} {H H':Hp} {z:Fz} (h:FkA K H z) (s:Same H H'):FkA K H' z:=⟨s.get h.1,h.2.1.same s,h.2.2.1.same s,h.2.2.2.same s⟩
theorem FkA.app {K:W.Frag} {H:Hp} {z:Fz} {q:Addr} {ys:List V} {o:HO} (h:FkA K H z) (e:H q=some (.lst ys)):FkA K (upd H q o) z:=by
 obtain ⟨h1,⟨c,h2,h3⟩,⟨d,h4,h5⟩,⟨f,h6,h7⟩⟩:=h
 exact ⟨cM h1 e,⟨c,cM h2 e,cM h3 e⟩,⟨d,cM h4 e,cM h5 e⟩,⟨f,cM h6 e,cM h7 e⟩⟩
theorem Bg {wss:List (List (Str×List Nat×Int))} {j:Nat} {ws:List (Str×List Nat×Int)} (h:wss[j]? =some ws):Ir wss (j:Int)=(List.range ws.length).flatMap fun b=>(List.range b).map fun a=>(ws.getD a default,ws.getD b default,(j:Int)):=by
 unfold Ir
 rw [Yb,Zx,h];rfl
noncomputable def Nh (K:W.Frag) (H:Hp) (a:Addr) (fs:List ((Str×List Nat×Int)×(Str×List Nat×Int)×Int)):Prop:= ∃zs:List Fz,zs.map (fun z:Fz=>z.2.2.2.2)=fs/\H a=some (.lst (zs.map fun z:Fz=>V.ref z.1))/\ ∀z∈zs,FkA K H z
inductive sp_f20 (aK0 aK1:Addr) (K:W.Frag) (vs:List V) (H:Hp) (Q:VK) (E:XK):Prop
 | mk (f wa:Addr) (h:Nat) (ls:List (Str×List Nat)) (wss:List (List (Str×List Nat×Int))) (h0:vs=[.ref f, .ref wa]) (h1:FnF K H f h ls) (h2:Fo.Wf h ls) (h3:WsT H wa wss) (h4:0<wss.length) (h5:wss.length<=100) (h6:(∀ws∈wss,ws.length<=100/\ ∀w∈ws,Fo.lk ls w.1=some w.2.1/\0<=w.2.2/\w.2.2<wss.length)) (h7: ∀p H' N,Same H H'->H p=none->(bG wss N).length<=N->Nh K H' p (lq wss (bG wss N))->Q (.ref p) H'):sp_f20 aK0 aK1 K vs H Q E
noncomputable abbrev Bh (aK0:Addr) (aK1:Addr) (K:W.Frag):TS:=
  (aQ (aZ (bu (sp_f3 aK0 aK1 K) [] E0 (aj (ao 9) (aj (aX (bQ K) (ao 8) (tC (V.int 2))) (aj (aX (bQ K) (ao 8) (tC (V.int 1))) aH)))) (aC 10))
  (gK (xK K "list" cY (ao 5) (aj (cW (aj (j8 (j8 (ao 2) (aX (bQ K) (ao 8) (tC (V.int 0)))) (aX (bQ K) (ao 9) (tC (V.int 0)))) (aj (ao 10) (aj (ao 6) (aj (ao 9) (aj (ao 8) aH)))))) aH))))
noncomputable abbrev Bj (aK0:Addr) (aK1:Addr) (K:W.Frag):TS:=
  (aQ (fL (rK (bu (sp_f0 aK0 aK1 K) [] E0 (aj (ao 1) aH))) (aC 6) (fL (ut K (aj (aX (dC K) (ao 1) (ao 6)) aH)) (jq K 2 (cB (aC 7) (cB (aC 8) lw))) (fL (fK K (vG (xH K) (aX (dC K) (ao 1) (ao 6)) bW (dI (ao 7)))) (aC 9) (Bh aK0 aK1 K))))
  (bO (ao 5)))
noncomputable abbrev Bk (aK0:Addr) (aK1:Addr) (K:W.Frag):TS:=
  (aQ (fL (lz K (aX (bQ K) (ao 0) (tC (V.int 1)))) (jq K 2 (cB (aC 3) (cB (aC 4) lw))) (p7 (ao 2) (ao 3) (bu (sp_f6 aK0 aK1 K) [] E0 (aj (ao 0) (aj (ao 4) aH)))))
  (aQ (aZ (jh aH) (aC 5))
  (Bj aK0 aK1 K)))
noncomputable def tM (aK0 aK1:Addr) (K:W.Frag) (E:XK) (Eh:XK):TS:=
  (aQ (aZ mX (aC 2))
  (Bk aK0 aK1 K))
theorem Lg (h:sp_f20 aK0 aK1 K vs H Q E): ∃Eh,tM aK0 aK1 K E Eh { nx:=fun _ H'=>Q .non H',rt:=Q } (start ["font","ways","costs","sign","columns","found","room","place","later","way","stand"] vs) H:=by
 obtain ⟨f,wa,h,ls,wss,rfl,hF,wf,hW,hw0,hw1,hws,q⟩:=h
 refine ⟨E0,?_⟩
 unfold tM
 have hnd:(ls.map (·.1)).Nodup:=wf.up.imp fun hlt e=>by subst e;exact List.lt_irrefl _ hlt
 obtain ⟨l,zs,t1,ezs,t3,t4⟩:=id hF.t
 have hzl:zs.length=ls.length:=by rw [<- ezs,Qr]
 have hle:=wf.le
 have hrm: ∀k,∀r∈bG wss k,0<=r/\r<wss.length:=fun k=>cU (P:=fun r:Int=>0<=r/\r<wss.length) ⟨by decide,by walk_at "m"⟩ (fun p q' hp hq=>by
  obtain ⟨w,mw,rfl⟩:=Zg.mp hq
  have:wss.getD p.toNat []∈wss:=by rw [Zx,Zc (by walk_at "m")];exact Xh _
  exact ((hws _ this).2 w mw).2) k
 have hrl: ∀k,(bG wss k).length<=wss.length:=fun k=>by
  have:=gh (l:=bG wss k) (m:=(List.range wss.length).map fun i:Nat=>(i:Int)) (cN _ _ k) fun r mr=>by
   obtain ⟨h0,h1⟩:=hrm k r mr
   exact Zg.mpr ⟨r.toNat,Xe.mpr (by walk_at "m"),by walk_at "m"⟩
  rw [Qr,Ys] at this
  exact this
 walk_at "go"
 intro ca hca
 walk_at "go"
 refine bD (SqT.of (aO hca t1)) (aK (j:=1) (v:= .ref l) rfl) ?_
 have hfr: ∀p'∈[ca],H p'=none:=fun p' hp'=>by rw [Zf.mp hp'];exact hca
 walk_at "ns"
 refine Ag (fun z:Lz=>V.ref z.1) ((aG hca _).tup t3) (fun i σ H'=>(An2 (Sb [ca] H H') (Ex3 fun (ks:List (Str×Addr×List Nat)) (o3 o4:Option V)=>(An4 (ks.map (fun k=>(k.1,k.2.2))=ls.take i) (H' ca=some (.dK (ks.map fun k=>((Sum.inr k.1:Key),V.ref k.2.1)))) (∀k∈ks,k.2.1≠ca/\H' k.2.1=some (.dK (Gq (Gp k.2.2 ls)))) (σ=[some (.ref f),some (.ref wa),some (.ref ca),o3,o4,none,none,none,none,none,none]))))) ⟨Sb.of (aG hca _),[],_,_,rfl,au,fun k mk=>(by cases mk),rfl⟩ ?_ ?_ ?_
 ·rintro i σ H' ⟨sb,_⟩
  exact (sb.off hfr).tup t3
 ·rintro i ⟨za,s,cz,co⟩ σ H' hi ⟨sb,ks,o3,o4,eks,eca,hks,rfl⟩
  have S:=sb.off hfr
  obtain ⟨u1,u2⟩:=t4 _ (Zj hi)
  dsimp only at u1 u2
  have hli:ls[i]? =some (s,co):=by rw [<- ezs,Zd,hi];rfl
  have c1:=wf.c1 _ (Zj hli)
  dsimp only at c1
  have hil:i<ls.length:=(Xa.mp hli).1
  have etk:ls.take (i+1)=ls.take i++[(s,co)]:=by rw [Yz,hli];rfl
  have hkey:s∉(ls.take i).map (·.1):=by
   have h1:((ls.take (i+1)).map (·.1)).Nodup:=List.Nodup.sublist ((List.take_sublist _ _).map _) hnd
   rw [etk,Zw,List.nodup_append] at h1
   exact fun m=>h1.2.2 s m s (by simp) rfl
  have hkl:ks.length<=94:=by
   have:=Xr List.length eks
   rw [Qr,Yf] at this
   walk_at "m"
  refine gb (SqT.of (S.get u1)) rfl ?_
  walk_at "go"
  refine ⟨f,cz,h,ls,co,rfl,(hF.same S).t,wf,SqT.of (S.get u2),by walk_at "m",fun r H2 s2 hr er=> ?_⟩
  have hrc:r≠ca:=fun e=>by rw [e,eca] at hr;cases hr
  have hv:dh (ks.map fun k=>((Sum.inr k.1:Key),V.ref k.2.1)) (Sum.inr s)=none:=gf (f:=fun k:Str×Addr×List Nat=>(Sum.inr k.1:Key)) (g:=fun k:Str×Addr×List Nat=>V.ref k.2.1) fun m=>by
   obtain ⟨k,mk,e⟩:=Zg.mp m
   exact hkey (by rw [<- eks,Zy];exact Zg.mpr ⟨k,mk,Sum.inr.inj e⟩)
  walk_at "go"
  refine ⟨ca,_,rfl,DPut.k (k:=Sum.inr s) (s2.get eca) (Yg (by rw [Qr];exact hkl:_<=94) (by decide)),?_⟩
  rw [jC _ hv]
  walk_at "go"
  refine ⟨(sb.same s2).set (by simp),ks++[(s,r,co)],_,_,by rw [Zw,eks,etk];rfl,by rw [au,Zw];rfl,fun k mk=> ?_,rfl⟩
  rcases Yc.mp mk with mk | mk
  ·exact ⟨(hks k mk).1,by rw [aF (hks k mk).1];exact s2.get (hks k mk).2⟩
  ·rw [Zf.mp mk]
   exact ⟨hrc,by rw [aF hrc];exact er⟩
 ·rintro σ Hc ⟨sb,ks,o3,o4,eks,eca,hks',rfl⟩
  rw [hzl,Wp] at eks
  have hks: ∀k∈ks,Hc k.2.1=some (.dK (Gq (Gp k.2.2 ls))):=fun k mk=>(hks' k mk).2
  have SH:=sb.off hfr
  have hWc:=hW.same SH
  have hcost: ∀ {s co},Fo.lk ls s=some co-> ∃k∈ks,k.2.2=co/\dh (ks.map fun k=>((Sum.inr k.1:Key),V.ref k.2.1)) (Sum.inr s)=some (V.ref k.2.1):=by
   rw [<- eks]
   clear eca hks hks' eks
   induction ks with
   | nil=>intro s co h;cases h
   | cons k ks ih=>
    intro s co h
    rw [Zr,Fo.iG] at h
    rw [Zr]
    by_cases e:k.1=s
    ·rw [if_pos e] at h
     cases h
     exact ⟨k,Zq,rfl,by rw [di (by rw [e])]⟩
    ·rw [if_neg e] at h
     obtain ⟨k',m',e1,e2⟩:=ih h
     exact ⟨k',Zs _ m',e1,by rw [cQ (by intro z;exact e (Sum.inr.inj z))];exact e2⟩
  walk_at "go"
  intro fo hfo
  walk_at "go"
  walk_at "ns"
  have S0:Same Hc (upd Hc fo (HO.lst [])):=aG hfo _
  refine ⟨wa,wss,rfl,hWc.same S0,hw0,hw1,fun ws mws=>⟨by have:=(hws ws mws).1;walk_at "m",fun w mw=>⟨?_,((hws ws mws).2 w mw).2⟩⟩,fun td H1 N ps s1 htd eps etd hN=> ?_⟩
  ·obtain ⟨n,en⟩:=wf.sg _ (Fo.sW ((hws ws mws).2 w mw).1)
   dsimp only at en
   rw [en]
   exact Zh 1
  have htd0:Hc td=none:=S0.free htd
  have hne:fo≠td:=fun e=>by rw [<- e,au] at htd;cases htd
  have efo1:H1 fo=some (.lst []):=s1.get au
  have S1:Same Hc H1:=S0.trans s1
  have hfr2: ∀p'∈[fo,td],Hc p'=none:=fun p' hp'=>by
   simp only [Zu,Xb,or_false] at hp'
   rcases hp' with rfl | rfl
   ·exact hfo
   ·exact htd0
  have hpsl:ps.length=(bG wss N).length:=by rw [<- eps,Qr]
  have hrN:=hrl N
  refine Ky (.inl etd) (fun od i σ H'=>(An5 (Sb [fo,td] Hc H') (H' td=some (.frz od (.dK (ps.map fun p=>((Sum.inl p.1:Key),V.str p.2))))) (Nh K H' fo (lq wss ((bG wss N).take i))) ((lq wss ((bG wss N).take i)).length<=i*10000) (Ex5 fun (o6 o7 o8 o9 o10:Option V)=>σ=[some (.ref f),some (.ref wa),some (.ref ca),o3,o4,some (.ref fo),o6,o7,o8,o9,o10]))) (fun od H2 sb2 e2=>⟨fun b o n q'=>sb2 b o (fun z=>n (by simp only [Zf] at z;rw [z];simp)) (S1 b o q'),e2,⟨[],rfl,sb2.get (by simpa using hne) efo1,fun z m=>(by cases m)⟩,Yp _,_,_,_,_,_,rfl⟩) (fun od i σ H' h=>by obtain ⟨_,h,_⟩:=h;exact h) ?_ ?_
  ·rintro od i z σ H' hz ⟨sb',etd',hT,hTl,o6,o7,o8,o9,o10,rfl⟩
   obtain ⟨p,hp,rfl⟩: ∃p,ps[i]? =some p/\z=((Sum.inl p.1:Key),V.str p.2):=by
    rw [Zd] at hz
    obtain ⟨p,hp,e⟩:=Yn.mp hz
    exact ⟨p,hp,e.symm⟩
   have hri:(bG wss N)[i]? =some p.1:=by rw [<- eps,Zd,hp];rfl
   obtain ⟨r0,r1⟩:=hrm N p.1 (Zj hri)
   obtain ⟨j,hj⟩: ∃j:Nat,p.1=(j:Int):=⟨p.1.toNat,by walk_at "m"⟩
   have hil:i<(bG wss N).length:=(Xa.mp hri).1
   obtain ⟨rs,w1,w2,w3⟩:=id hWc
   have hrs:rs.length=wss.length:=by rw [<- w1,Qr]
   obtain ⟨rz,hrz⟩: ∃rz,rs[j]? =some rz:=⟨_,Zc (by walk_at "m")⟩
   have hwj:wss[j]? =some rz.2:=by rw [<- w1,Zd,hrz];rfl
   obtain ⟨wz,ewz,z1,z2⟩:=w3 rz (Zj hrz)
   obtain ⟨hw100,hww⟩:=hws rz.2 (Zj hwj)
   have hwl:wz.length=rz.2.length:=by rw [<- ewz,Qr]
   have etk:lq wss ((bG wss N).take (i+1))=lq wss ((bG wss N).take i)++(List.range rz.2.length).flatMap fun b=>(List.range b).map fun a=>(rz.2.getD a default,rz.2.getD b default,(j:Int)):=by
    rw [Yz,hri]
    unfold lq
    rw [List.flatMap_append]
    congr 1
    show [p.1].flatMap _=_
    rw [List.flatMap_singleton,hj,Bg hwj]
   rw [etk]
   generalize hA:lq wss ((bG wss N).take i)=A at hT hTl ⊢
   show aC 6 (V.int p.1) _ _ _
   rw [hj]
   walk_at "go"
   have S':=sb'.off hfr2
   refine dB (SqL.of (S'.get w2)) (aK (j:=j) (v:= .ref rz.1) (by rw [Zd,hrz];rfl)) ?_
   walk_at "ns"
   refine KD (fun z:Wz=>V.ref z.1) (xs:=wz) (SqL.of (S'.get z1)) (fun b σ H2=>(An5 (Sb [fo,td] Hc H2) (H2 td=some (.frz od (.dK (ps.map fun p=>((Sum.inl p.1:Key),V.str p.2))))) (Nh K H2 fo (A++(List.range b).flatMap fun b=>(List.range b).map fun a=>(rz.2.getD a default,rz.2.getD b default,(j:Int)))) ((A++(List.range b).flatMap fun b=>(List.range b).map fun a=>(rz.2.getD a default,rz.2.getD b default,(j:Int))).length<=i*10000+b*100) (Ex4 fun (o7 o8 o9 o10:Option V)=>σ=[some (.ref f),some (.ref wa),some (.ref ca),o3,o4,some (.ref fo),some (.int (j:Nat)),o7,o8,o9,o10]))) ⟨sb',etd',by rw [List.range_zero,List.flatMap_nil,Yx];exact hT,by rw [List.range_zero,List.flatMap_nil,Yx];walk_at "m",_,_,_,_,rfl⟩ ?_ ?_ ?_
   ·rintro b σ H2 ⟨sb2,_⟩
    exact SqL.of ((sb2.off hfr2).get z1)
   ·rintro b ⟨wb,sw,cw,rw'⟩ tp σ H2 hb ⟨sb2,etd2,hT2,hTl2,o7,o8,o9,o10,rfl⟩ htp
    have hwb:rz.2[b]? =some (sw,cw,rw'):=by rw [<- ewz,Zd,hb];rfl
    have hbl:b<rz.2.length:=(Xa.mp hwb).1
    have egb:rz.2.getD b default=(sw,cw,rw'):=by rw [Zx,hwb];rfl
    have hWb:=z2 _ (Zj hb)
    obtain ⟨cb,b1,b2⟩:=id hWb
    dsimp only at b1 b2
    have hlb:=((hww _ (Zj hwb)).1)
    dsimp only at hlb
    obtain ⟨kb,mkb,ekb,evb⟩:=hcost hlb
    have ntd:tp≠td:=fun e=>by rw [e,etd2] at htp;cases htp
    have sb3:=sb2.new (o:= .tup [.int (b:Int), .ref wb]) htp
    refine gb (SqT.of au) rfl ?_
    walk_at "go"
    have etd3:upd H2 tp (.tup [.int (b:Int), .ref wb]) td=some (.frz od (.dK (ps.map fun p=>((Sum.inl p.1:Key),V.str p.2)))):=by rw [aF ntd.symm];exact etd2
    have hT3:Nh K (upd H2 tp (.tup [.int (b:Int), .ref wb])) fo (A++(List.range b).flatMap fun b=>(List.range b).map fun a=>(rz.2.getD a default,rz.2.getD b default,(j:Int))):=by
     obtain ⟨us,u1,u2,u3⟩:=hT2
     exact ⟨us,u1,aO htp u2,fun z mz=>(u3 z mz).same (aG htp _)⟩
    generalize upd H2 tp (.tup [.int (b:Int), .ref wb])=H3 at sb3 etd3 hT3 ⊢
    rw [List.range_succ,List.flatMap_append,List.flatMap_singleton,<- Ye,egb]
    generalize hB:A++(List.range b).flatMap (fun b=>(List.range b).map fun a=>(rz.2.getD a default,rz.2.getD b default,(j:Int)))=B at hT3 hTl2 ⊢
    have S3:=sb3.off hfr2
    refine dB (SqL.of (S3.get w2)) (aK (j:=j) (v:= .ref rz.1) (by rw [Zd,hrz];rfl)) ?_
    walk_at "go"
    refine Ik (SqL.of (S3.get z1)) fun sl hsl=> ?_
    rw [nY (by walk_at "m"),Yb,<- List.map_take]
    walk_at "ns"
    have S4:Same H3 (upd H3 sl (HO.lst ((wz.take b).map fun z:Wz=>V.ref z.1))):=aG hsl _
    have nsl:sl≠td:=fun e=>by rw [e,etd3] at hsl;cases hsl
    have nslf:sl≠fo:=fun e=>by obtain ⟨us,u1,u2,u3⟩:=hT3;rw [e,u2] at hsl;cases hsl
    have nslc:Hc sl=none:=S3.free hsl
    have hfr3: ∀p'∈[fo,td],upd H3 sl (HO.lst ((wz.take b).map fun z:Wz=>V.ref z.1)) p'≠none->True:=fun _ _ _=>trivial
    have sb4:=sb3.new (o:=HO.lst ((wz.take b).map fun z:Wz=>V.ref z.1)) hsl
    have esl:upd H3 sl (HO.lst ((wz.take b).map fun z:Wz=>V.ref z.1)) sl=some (.lst ((wz.take b).map fun z:Wz=>V.ref z.1)):=au
    have etd4:=S4.get etd3
    have hT4:Nh K (upd H3 sl (HO.lst ((wz.take b).map fun z:Wz=>V.ref z.1))) fo B:=by
     obtain ⟨us,u1,u2,u3⟩:=hT3
     exact ⟨us,u1,S4.get u2,fun z mz=>(u3 z mz).same S4⟩
    generalize upd H3 sl (HO.lst ((wz.take b).map fun z:Wz=>V.ref z.1))=H4 at S4 sb4 esl etd4 hT4 ⊢
    refine uU (fun z:Wz=>V.ref z.1) (zs:=wz.take b) (SqL.of esl) (fun a σ H5=>(An5 (Sb [fo,td] Hc H5) (H5 sl=some (.lst ((wz.take b).map fun z:Wz=>V.ref z.1))) (H5 td=some (.frz od (.dK (ps.map fun p=>((Sum.inl p.1:Key),V.str p.2))))) (Nh K H5 fo (B++(List.range a).map fun a=>(rz.2.getD a default,(sw,cw,rw'),(j:Int)))) (Ex2 fun (o9 o10:Option V)=>σ=[some (.ref f),some (.ref wa),some (.ref ca),o3,o4,some (.ref fo),some (.int (j:Nat)),some (.int (b:Nat)),some (.ref wb),o9,o10]))) ⟨sb4,esl,etd4,by rw [List.range_zero,List.map_nil,Yx];exact hT4,_,_,rfl⟩ ?_ ?_ ?_
    ·rintro a σ H5 ⟨_,h,_⟩
     exact SqL.of h
    ·rintro a ⟨wq,sq,cq,rq⟩ σ H5 ha ⟨sb5,esl5,etd5,⟨us,u1,u2,u3⟩,o9,o10,rfl⟩
     have hal:a<b:=by
      have:=(Xa.mp ha).1
      rw [Yf] at this
      walk_at "m"
     have hqa:wz[a]? =some (wq,sq,cq,rq):=by rw [List.getElem?_take,if_pos hal] at ha;exact ha
     have hwq:rz.2[a]? =some (sq,cq,rq):=by rw [<- ewz,Zd,hqa];rfl
     have ega:rz.2.getD a default=(sq,cq,rq):=by rw [Zx,hwq];rfl
     have hWq:=z2 _ (Zj hqa)
     obtain ⟨cc,q1,q2⟩:=id hWq
     dsimp only at q1 q2
     have hlq:=((hww _ (Zj hwq)).1)
     dsimp only at hlq
     have S5:=sb5.off hfr2
     have hul:us.length<=1000000:=by
      have:=Xr List.length u1
      rw [Qr,Zn,Qr,Ys] at this
      walk_at "m"
     walk_at "go"
     refine bD (SqT.of (S5.get b1)) (aK (j:=2) (v:= .int rw') rfl) ?_
     walk_at "go"
     refine bD (SqT.of (S5.get b1)) (aK (j:=1) (v:= .ref cb) rfl) ?_
     walk_at "go"
     refine ⟨wq,cb,(sq,cq,rq),rw',cw,rfl,hWq.same S5,S5.get b2,fun st H6 s6 hst hS=> ?_⟩
     have S6:=S5.trans s6
     walk_at "go"
     refine je (SqL.of (s6.get u2)) ?_
     walk_at "go"
     refine bD (SqT.of (S6.get b1)) (aK (j:=0) (v:= .str sw) rfl) ?_
     walk_at "go"
     refine ⟨ca, .ref kb.2.1,rfl,by rw [<- evb];exact DGet.k (k:=Sum.inr sw) (S6.get eca),?_⟩
     walk_at "go"
     refine bD (SqT.of (S6.get q1)) (aK (j:=0) (v:= .str sq) rfl) ?_
     walk_at "go"
     refine ⟨kb.2.1,V.int (cst cw cq:Nat),rfl,by have:=DGet.k (k:=Sum.inr sq) (S6.get (hks kb mkb));rw [ekb,Az hlq] at this;exact this,?_⟩
     walk_at "go"
     intro tq htq
     have s7:Same H6 (upd H6 tq (HO.tup [.int (cst cw cq:Nat), .ref st, .int (j:Nat), .ref wq, .ref wb])):=aG htq _
     have e7:upd H6 tq (HO.tup [.int (cst cw cq:Nat), .ref st, .int (j:Nat), .ref wq, .ref wb]) tq=some (.tup [.int (cst cw cq:Nat), .ref st, .int (j:Nat), .ref wq, .ref wb]):=au
     generalize upd H6 tq (HO.tup [.int (cst cw cq:Nat), .ref st, .int (j:Nat), .ref wq, .ref wb])=H7 at s7 e7 ⊢
     have u7:=s7.get (s6.get u2)
     walk_at "go"
     refine kJ u7 (by rw [Qr];walk_at "m") ?_
     walk_at "go"
     have hz:FkA K H7 (tq,st,wq,wb,((sq,cq,rq),(sw,cw,rw'),(j:Int))):=⟨e7,hS.same s7,(hWq.same S6).same s7,(hWb.same S6).same s7⟩
     refine ⟨((sb5.same s6).same s7).set (by simp),by rw [aF nslf];exact s7.get (s6.get esl5),by rw [aF hne.symm];exact s7.get (s6.get etd5),⟨us++[(tq,st,wq,wb,((sq,cq,rq),(sw,cw,rw'),(j:Int)))],by rw [Zw,u1,List.range_succ,Zw,<- Ye,List.map_singleton,List.map_singleton,ega],by rw [au,Zw];rfl,fun z mz=> ?_⟩,_,_,rfl⟩
     rcases Yc.mp mz with mz | mz
     ·exact (((u3 z mz).same s6).same s7).app u7
     ·rw [Zf.mp mz]
      exact hz.app u7
    ·rintro σ H5 ⟨sb5,esl5,etd5,hT5,o9,o10,rfl⟩
     have eb:(wz.take b).length=b:=by rw [Yf];walk_at "m"
     rw [eb] at hT5
     exact ⟨sb5,etd5,hT5,by rw [Zn,Qr,Ys];walk_at "m",_,_,_,_,rfl⟩
   ·rintro σ H2 ⟨sb2,etd2,hT2,hTl2,o7,o8,o9,o10,rfl⟩
    rw [hwl] at hT2 hTl2
    exact ⟨sb2,etd2,hT2,by walk_at "m",_,_,_,_,_,rfl⟩
  ·rintro od σ H' ⟨sb',etd',hT,_,o6,o7,o8,o9,o10,rfl⟩
   rw [Xd (by rw [Qr];walk_at "m")] at hT
   walk_at "go"
   refine q fo H' N (SH.trans (sb'.off hfr2)) (SH.free hfo) hN hT
theorem Lh (h:sp_f20 aK0 aK1 K vs H Q E):vs.length=2:=by
 obtain ⟨_,_,_,_,_,rfl,_⟩:=h
 rfl
noncomputable abbrev Sd:=Int×Int×List Nat
noncomputable def Rx (x:Sd):Sk:=(x.1,x.2.1,x.2.2.map fun n:Nat=>(n:Int))
theorem StT.a {K:W.Frag} {H:Hp} {a:Addr} {st:Sd} (h:StT K H a st):JX H a (Rx st):=by
 obtain ⟨c,h1,h2⟩:=h
 exact ⟨c,h1,by rw [h2];unfold nv Rx;rw [Zy];rfl⟩
theorem wK {H H':Hp} {b:Addr} {k:bL} (h:iJ H b k) (s:Same H H'):iJ H' b k:=by
 obtain ⟨c,h1,d,h2,h3⟩:=h
 exact ⟨c,s.get h1,d,s.get h2,s.get h3⟩
noncomputable def CV (z:(Str×List Nat×Int)×(Str×List Nat×Int)×Int):bL:=((cst z.2.1.2.1 z.1.2.1:Nat),Rx (CT z.1 z.2.1.2.2 z.2.1.2.1))
theorem qD {wss:List (List (Str×List Nat×Int))} (hw: ∀ws∈wss,ws.length<=42): ∀rs:List Int,(lq wss rs).length<=rs.length*1764
 | []=>by simp [lq]
 | r :: rs => by
  have ih:=qD hw rs
  unfold lq at ih ⊢
  rw [List.flatMap_cons,Zn,Yv]
  have h1:(Ir wss r).length<=1764:=by
   unfold Ir
   have hl:(wss.getD r.toNat []).length<=42:=by
    by_cases c:r.toNat<wss.length
    ·rw [Zx,Zc c];exact hw _ (Xh c)
    ·rw [Zx,Xi (by walk_at "m")];simp
   have h2: ∀ (m:Nat) (g:Nat->Nat->(Str×List Nat×Int)×(Str×List Nat×Int)×Int),m<=42->((List.range m).flatMap fun j=>(List.range j).map fun k=>g j k).length<=m*42:=by
    intro m g hm
    induction m with
    | zero=>simp
    | succ m ih=>
     rw [List.range_succ,List.flatMap_append,Zn,List.flatMap_singleton,Qr,Ys]
     have:=ih (by walk_at "m")
     walk_at "m"
   have:=h2 _ (fun j k=>((wss.getD r.toNat []).getD k default,(wss.getD r.toNat []).getD j default,r)) hl
   walk_at "m"
  walk_at "m"
noncomputable def Q9 (ds:List (List (Str×Int))):Prop:=0<ds.length/\ds.length<=50/\(∀ps∈ds,ps.length<=42/\ ∀p∈ps,0<=p.2/\p.2<ds.length)/\(ds.length<=3\/(ds.map List.length).sum<=60)
inductive sp_f18 (aK0 aK1:Addr) (K:W.Frag) (vs:List V) (H:Hp) (Q:VK) (E:XK):Prop
 | mk (f ha:Addr) (h:Nat) (ls:List (Str×List Nat)) (ds:List (List (Str×Int))) (es:List Int) (h0:vs=[.ref f, .ref ha]) (h1:FnF K H f h ls) (h2:Fo.Wf h ls) (h3:Rw K H ha ds es) (h4:Q9 ds) (h5:(∀N,(lq (ds.map (aW ls)) (bG (ds.map (aW ls)) N)).length<=2600)) (h6: ∀r H' N (zs:List (Addr×bL)),Same H H'->H r=none->(bG (ds.map (aW ls)) N).length<=N->H' r=some (.lst (zs.map fun z=>V.ref z.1))->(∀z∈zs,iJ H' z.1 z.2)->(zs.map (·.2)).Pairwise (fun a b=>Ck.bU a b=true)->(∀k,k∈zs.map (·.2)↔k∈(lq (ds.map (aW ls)) (bG (ds.map (aW ls)) N)).map CV)->Q (.ref r) H'):sp_f18 aK0 aK1 K vs H Q E
noncomputable def tO (aK0 aK1:Addr) (K:W.Frag) (E:XK) (Eh:XK):TS:=
  (bO (cV (gG K) (aj (qG [none] (fK K (bu (sp_f20 aK0 aK1 K) [] E0 (aj (ao 0) (aj (bu (sp_f17 aK0 aK1 K) [] E0 (aj (ao 0) (aj (ao 1) aH))) aH)))) (aC 0) dj (vG (jQ K) (ao 0) bW (dI (tC (V.int 2))))) aH)))
theorem Li (h:sp_f18 aK0 aK1 K vs H Q E): ∃Eh,tO aK0 aK1 K E Eh { nx:=fun _ H'=>Q .non H',rt:=Q } (start ["font","house"] vs) H:=by
 obtain ⟨f,ha,h,ls,ds,es,rfl,hF,wf,hH,⟨sz1,sz2,sz3,_⟩,h26,q⟩:=h
 refine ⟨E0,?_⟩
 unfold tO
 have hws: ∀ws∈ds.map (aW ls),ws.length<=100/\ ∀w∈ws,Fo.lk ls w.1=some w.2.1/\0<=w.2.2/\w.2.2<ds.length:=fun ws mws=>by
  obtain ⟨ps,mps,rfl⟩:=Zg.mp mws
  refine ⟨Nat.le_trans (List.length_filterMap_le ..) (Yk (sz3 ps mps).1 (by decide)),fun w mw=> ?_⟩
  obtain ⟨p,mp,ep⟩:=Wl.mp (show w∈ps.filterMap _ from mw)
  obtain ⟨co,eco,rfl⟩:=Yn.mp ep
  exact ⟨eco,(sz3 ps mps).2 p mp⟩
 walk_at "go"
 refine ⟨f,ha,h,ls,ds,es,rfl,hF,wf,hH,by walk_at "m",fun ps mps=>by have:=(sz3 ps mps).1;walk_at "m",fun wa H1 s1 hwa hW=> ?_⟩
 have hwl:(ds.map (aW ls)).length=ds.length:=Qr _
 generalize ds.map (aW ls)=wss at hws hW q hwl h26
 rw [<- hwl] at hws sz1 sz2
 walk_at "go"
 refine ⟨f,wa,h,ls,wss,rfl,hF.same s1,wf,hW,sz1,by walk_at "m",hws,fun fk H2 N s2 hfk hN hT=> ?_⟩
 obtain ⟨fz,efz,fz1,fz2⟩:=hT
 have hfl:fz.length<=2600:=by
  have:=Xr List.length efz
  rw [Qr] at this
  rw [this];exact h26 N
 walk_at "go"
 refine Gb (fun z:Fz=>V.ref z.1) (zs:=fz) (SqL.of fz1) (by walk_at "m") (fun i ys H'=>(An2 (Same H2 H') (Ex1 fun (us:List (Addr×bL))=>(An3 (ys=us.map (fun u=>V.ref u.1)) (us.map (·.2)=(fz.take i).map (fun z:Fz=>CV z.2.2.2.2)) (∀u∈us,iJ H' u.1 u.2))))) ⟨Same.refl _,[],rfl,rfl,by simp⟩ ?_ ?_ ?_ ?_
 ·rintro i ys H' ⟨s',_⟩
  exact SqL.of (s'.get fz1)
 ·rintro i ys H' ⟨_,us,rfl,eu,_⟩
  have:=Xr List.length eu
  rw [Qr,Qr,Yf] at this
  rw [Qr];walk_at "m"
 ·rintro i z ys H' hi ⟨s',us,rfl,eu,hu⟩
  have hz:=(fz2 z (Zj hi)).same s'
  walk_at "go"
  refine kW hz.1 fun p H3 s3 ep=> ?_
  rw [nY (by decide)] at ep
  walk_at "go"
  refine ⟨s'.trans s3,us++[(p,CV z.2.2.2.2)],by rw [Zw];rfl,by rw [Zw,eu,Yz,hi,Zw];rfl,fun u mu=> ?_⟩
  rcases Yc.mp mu with mu | mu
  ·exact wK (hu u mu) s3
  ·rw [Zf.mp mu]
   exact ⟨z.2.1,ep,(hz.2.1.same s3).a⟩
 rintro ys H3 ⟨s3,us,rfl,eu,hu⟩ ll hll
 rw [Wp] at eu
 have hul:us.length=fz.length:=by
  have:=Xr List.length eu
  rw [Qr,Qr] at this
  exact this
 walk_at "go"
 refine tu (zs:=us) (SqL.of au) (fun z mz=>wK (hu z mz) (aG hll _)) (by walk_at "m") fun r ws h1 h2 h3 hr=> ?_
 walk_at "go"
 have S:Same H3 (upd (upd H3 ll (HO.lst (us.map fun u=>V.ref u.1))) r (HO.lst (ws.map fun z=>V.ref z.1))):=(aG hll _).new hr
 have S2:Same H H3:=(s1.trans s2).trans s3
 refine q r _ N ws (S2.trans S) (S2.free ((aG hll _).free hr)) hN au (fun z mz=>wK (hu z (h1 z mz)) S) h3 fun k=> ?_
 have e:(lq wss (bG wss N)).map CV=us.map (·.2):=by rw [eu,<- efz,Zy];rfl
 rw [e]
 constructor
 ·intro m
  obtain ⟨z,mz,rfl⟩:=Zg.mp m
  exact List.mem_map_of_mem (h1 z mz)
 ·intro m
  obtain ⟨z,mz,rfl⟩:=Zg.mp m
  exact h2 z mz
theorem Lj (h:sp_f18 aK0 aK1 K vs H Q E):vs.length=2:=by
 obtain ⟨_,_,_,_,_,_,rfl,_⟩:=h
 rfl
inductive sp_f1 (aK0 aK1:Addr) (K:W.Frag) (vs:List V) (H:Hp) (Q:VK) (E:XK):Prop
 | mk (a:Addr) (ns:List Int) (k:Nat) (h0:vs=[.ref a, .int k]) (h1:SqL K H a (ns.map V.int)) (h2:Q (.int (Mm.cellAt ns k)) H):sp_f1 aK0 aK1 K vs H Q E
noncomputable def Bo (aK0 aK1:Addr) (K:W.Frag) (E:XK) (Eh:XK):TS:=
  (aQ (eX (bT (aX O1 (ao 1) (cV (cu K) (aj (ao 0) aH)))) (bO (aX (dC K) (ao 0) (ao 1))) cA)
  (bO (tC (V.int 0))))
theorem Qa (h:sp_f1 aK0 aK1 K vs H Q E): ∃Eh,Bo aK0 aK1 K E Eh { nx:=fun _ H'=>Q .non H',rt:=Q } (start ["script","k"] vs) H:=by
 obtain ⟨a,ns,k,rfl,hS,q⟩:=h
 refine ⟨E0,?_⟩
 unfold Bo
 walk_at "go"
 refine fC hS ?_
 walk_at "go"
 rw [Qr]
 refine iY (fun c=> ?_) fun c=> ?_
 ·walk_at "go"
  refine dB hS (aK (v:=V.int (Mm.cellAt ns k)) ?_) ?_
  ·rw [Zd,Zc (by walk_at "m"),Option.map_some,Mm.getD_some (Zc (by walk_at "m"))]
  ·exact q
 ·walk_at "go"
  rw [Mm.getD_none (by walk_at "m")] at q
  exact q
theorem Qc (h:sp_f1 aK0 aK1 K vs H Q E):vs.length=2:=by
 obtain ⟨_,_,_,rfl,_⟩:=h
 rfl
inductive sp_f8 (aK0 aK1:Addr) (K:W.Frag) (vs:List V) (H:Hp) (Q:VK) (E:XK):Prop
 | mk (i:Int) (h0:vs=[.int i]) (h1:Q (.bl true) H):sp_f8 aK0 aK1 K vs H Q E
noncomputable def Bp (aK0 aK1:Addr) (K:W.Frag) (E:XK) (Eh:XK):TS:=
  (bO (wO (cV (dO K) (aj (ao 0) (aj (tC (V.ty "int")) aH))) (wQ (cV (dO K) (aj (ao 0) (aj (tC (V.ty "bool")) aH))))))
theorem Qd (h:sp_f8 aK0 aK1 K vs H Q E): ∃Eh,Bp aK0 aK1 K E Eh { nx:=fun _ H'=>Q .non H',rt:=Q } (start ["found"] vs) H:=by
 obtain ⟨i,rfl,q⟩:=h
 refine ⟨E0,?_⟩
 unfold Bp
 walk_at "go"
 refine ⟨_,_,_,_,rfl, .int i,rfl,?_⟩
 walk_at "go"
 refine ⟨_,_,_,_,rfl, .int i,rfl,?_⟩
 walk_at "go"
 exact q
theorem Qe (h:sp_f8 aK0 aK1 K vs H Q E):vs.length=1:=by
 obtain ⟨_,rfl,_⟩:=h
 rfl
theorem Lk: ∀c∈Hs.Kq.cps.toList,Hs.Sg (tx [c]):=fun c mc=>by
 obtain ⟨k,hk,rfl⟩:=List.mem_iff_getElem.mp mc
 have hl:Hs.Kq.cps.toList.length=94:=by decide+kernel
 refine ⟨(k:Int),?_⟩
 unfold Hs.T9
 rw [show ((k:Int)%94).toNat=k by walk_at "m",Zx,Zc hk];rfl
theorem Gw {fs cs:List Nat} {j:Nat} (hj:j<cs.length) (h:(fs++cs).Nodup):((fs++[cs[j]])++(cs.take j++cs.drop (j+1))).Nodup:=by
 have e:cs=cs.take j++cs[j]::cs.drop (j+1):=by rw [<- List.drop_eq_getElem_cons hj,Ws]
 have p:((fs++[cs[j]])++(cs.take j++cs.drop (j+1))).Perm (fs++cs):=by
  rw [Ye]
  refine List.Perm.append_left _ ?_
  conv=>rhs;rw [e]
  exact (List.perm_middle (a:=cs[j]) (l₁:=cs.take j) (l₂:=cs.drop (j+1))).symm
 exact p.nodup_iff.mpr h
theorem Gx {fs cs:List Nat} {j:Nat} (hj:j<cs.length):((fs++[cs[j]])++(cs.take j++cs.drop (j+1))).Perm (fs++cs):=by
 have e:cs=cs.take j++cs[j]::cs.drop (j+1):=by rw [<- List.drop_eq_getElem_cons hj,Ws]
 rw [Ye]
 refine List.Perm.append_left _ ?_
 conv=>rhs;rw [e]
 exact (List.perm_middle (a:=cs[j]) (l₁:=cs.take j) (l₂:=cs.drop (j+1))).symm
inductive sp_f10 (aK0 aK1:Addr) (K:W.Frag) (vs:List V) (H:Hp) (Q:VK) (E:XK):Prop
 | mk (c:Int) (n:Nat) (h0:vs=[.int c, .int (n:Nat)]) (h1:PySem.Builtin.Int.intBits c<=2^20) (h2:n<=94) (h3: ∀p H' (ss:List Str),Same H H'->H p=none->H' p=some (.lst (ss.map V.str))->ss.length=n->ss.Nodup->(∀s∈ss,Hs.Sg s)->Q (.ref p) H'):sp_f10 aK0 aK1 K vs H Q E
noncomputable abbrev Bq (K:W.Frag):TS:=
  (aQ (aZ (aX cX (ao 3) (cV (cu K) (aj (ao 2) aH))) (aC 3))
  (aQ (gK (xK K "list" cY (ao 4) (aj (aX Jl (ao 2) (ao 6)) aH)))
  (aZ (aX gr (vG Ed (ao 2) bW (dI (ao 6))) (vG Ed (ao 2) (dI (aX dU (ao 6) (tC (V.int 1)))) bW)) (aC 2))))
noncomputable abbrev Br (K:W.Frag):TS:=
  (aQ (eX (bT (aX Dm (aX bM (ao 0) (tC (V.int 2))) (tC (V.int 1)))) (aZ (aX dU (aX nF (ao 3) (aX Hn (tC (V.int 48271)) (tC (V.int 32)))) (tC (V.int 48271))) (aC 3)) cA)
  (aQ (aZ (jh aH) (aC 4))
  (aQ (fL (fG (aj (ao 1) aH)) (aC 5) (aQ (aZ (aX bM (ao 3) (cV (cu K) (aj (ao 2) aH))) (aC 6))
  (Bq K)))
  (bO (ao 4)))))
noncomputable def tQ (aK0 aK1:Addr) (K:W.Frag) (E:XK) (Eh:XK):TS:=
  (aQ (aZ (tC (V.str (Str.ofString " !\"#$&'()*+,-./0123456789:;<=>?@ABCDEFGHIJKLMNOPQRSTUVWXYZ[\\]^_`"))) (aC 2))
  (aQ (aZ (aX gr (ao 2) (tC (V.str (Str.ofString "abcdefghijklmnopqrstuvwxyz{|}~")))) (aC 2))
  (aQ (aZ (aX cX (ao 0) (tC (V.int 2))) (aC 3))
  (Br K))))
theorem Ln (h:sp_f10 aK0 aK1 K vs H Q E): ∃Eh,tQ aK0 aK1 K E Eh { nx:=fun _ H'=>Q .non H',rt:=Q } (start ["cell","many","some","number","found","k","at"] vs) H:=by
 obtain ⟨c,n,rfl,hb,hn,q⟩:=h
 refine ⟨E0,?_⟩
 unfold tQ
 have hl:Hs.Kq.cps.toList.length=94:=by decide+kernel
 have hnd:Hs.Kq.cps.toList.Nodup:=by decide+kernel
 walk_at "go"
 refine sO (by decide) ?_
 walk_at "gj"
 walk_at "ns"
 with_reducible refine oA (fun σ' H'=>(An2 (H'=H) (Ex1 fun (w:Int)=>σ'=[some (.int c),some (.int (n:Nat)),some (.str Hs.Kq),some (.int w),none,none,none]))) ?_ ?_
 ·rintro σ' _ ⟨rfl,w,rfl⟩
  rename_i H
  walk_at "go"
  intro fo hfo
  have hfr: ∀p∈[fo],H p=none:=fun p hp=>by rw [Zf.mp hp];exact hfo
  walk_at "go"
  refine mF n (Yb _) (by walk_at "m") (by walk_at "m") (fun i σ H'=>(An2 (Sb [fo] H H') (Ex5 fun (fs cs:List Nat) (w:Int) (o5 o6:Option V)=>(An6 (H' fo=some (.lst (fs.map fun c=>V.str (tx [c])))) (fs.length=i) (cs.length+i=94) ((fs++cs).Nodup) (∀c∈fs++cs,Hs.Sg (tx [c])) (σ=[some (.int c),some (.int (n:Nat)),some (.str (tx cs)),some (.int w),some (.ref fo),o5,o6]))))) ⟨Sb.of (aG hfo _),[],Hs.Kq.cps.toList,w,_,_,au,rfl,hl,hnd,Lk,rfl⟩ ?_ ?_
  ·rintro i σ H' hi ⟨sb,fs,cs,w,o5,o6,efo,hfl,hcl,hnd',hsg,rfl⟩
   have hcp:0<cs.length:=by walk_at "m"
   obtain ⟨j,ej,hj⟩:=Mm.jn w cs.length hcp
   walk_at "go"
   refine Ah (by rw [fD];walk_at "m") ?_
   rw [fD]
   refine Ar hcp ej ?_
   walk_at "go"
   refine Ah (by rw [fD];walk_at "m") ?_
   rw [fD]
   walk_at "go"
   walk_at "ns"
   refine je (SqL.of efo) ?_
   walk_at "go"
   refine Py (c:=cs[j]) (by rw [fD];walk_at "m") (aK (Zc hj)) ?_
   walk_at "go"
   refine kJ efo (by rw [Qr];walk_at "m") ?_
   walk_at "go"
   walk_at "ns"
   refine Il (by rw [fD];walk_at "m") ?_
   rw [PB (Xq hj)]
   walk_at "go"
   refine Il (by rw [fD];walk_at "m") ?_
   rw [show (j:Int)+1=((j+1:Nat):Int) by walk_at "m",Gf hj]
   walk_at "go"
   refine sO (by rw [fD,fD,Yf,Xs];walk_at "m") ?_
   walk_at "go"
   walk_at "ns"
   refine ⟨sb.set (by simp),fs++[cs[j]],cs.take j++cs.drop (j+1),_,_,_,by rw [au,Zw];rfl,by simp [hfl],by rw [Zn,Yf,Xs];walk_at "m",Gw hj hnd',fun x mx=>hsg x ?_,by rw [<- Km]⟩
   exact (Gx (fs:=fs) hj).mem_iff.mp mx
  ·rintro σ H' ⟨sb,fs,cs,w,o5,o6,efo,hfl,hcl,hnd',hsg,rfl⟩
   walk_at "go"
   refine q fo H' (fs.map fun c=>tx [c]) (sb.off hfr) hfo (by rw [efo,Zy];rfl) (by rw [Qr];exact hfl) ?_ fun s ms=> ?_
   ·exact List.pairwise_map.mpr ((List.nodup_append.mp hnd').1.imp fun h e=>h (by have:=Ko.mp e;simpa using this))
   ·obtain ⟨c',mc,rfl⟩:=Zg.mp ms
    exact hsg c' (Xf _ mc)
 ·intro N hN
  walk_at "go"
  refine iY (fun d1=> ?_) fun d1=> ?_
  ·walk_at "go"
   refine Al (qx (k:=2) (by decide) hb) (n:=1000) (by decide+kernel) (by decide) ?_
   walk_at "go"
   exact hN _ _ ⟨rfl,_,rfl⟩
  ·walk_at "go"
   exact hN _ _ ⟨rfl,_,rfl⟩
theorem Lp (h:sp_f10 aK0 aK1 K vs H Q E):vs.length=2:=by
 obtain ⟨_,_,rfl,_⟩:=h
 rfl
noncomputable def LtL (H:Hp) (p:Addr) (h:Nat) (zs:List (Addr×List Nat)):Prop:=H p=some (.lst (zs.map fun z=>V.ref z.1))/\ ∀z∈zs,H z.1=some (.tup (nv z.2))/\1<=z.2.length/\z.2.length<=8/\ ∀x∈z.2,x<2^h
theorem LtL.same {H H':Hp} {p:Addr} {h:Nat} {zs:List (Addr×List Nat)} (a:LtL H p h zs) (s:Same H H'):LtL H' p h zs:=⟨s.get a.1,fun z m=>⟨s.get (a.2 z m).1,(a.2 z m).2⟩⟩
inductive sp_f2 (aK0 aK1:Addr) (K:W.Frag) (vs:List V) (H:Hp) (Q:VK) (E:XK):Prop
 | mk (a:Addr) (ns:List Int) (n m h:Nat) (al:Bool) (h0:vs=[.ref a, .int (n:Nat), .int (m:Nat), .int (h:Nat), .bl al]) (h1:SqL K H a (ns.map V.int)) (h2:(∀i∈ns,PySem.Builtin.Int.intBits i<=2^20)) (h3:n<=40) (h4:(1<=m/\m<=8)) (h5:(1<=h/\h<=60)) (h6: ∀p H' (zs:List (Addr×List Nat)),Same H H'->H p=none->LtL H' p h zs->zs.length=n->Q (.ref p) H'):sp_f2 aK0 aK1 K vs H Q E
noncomputable abbrev Gy (K:W.Frag):TS:=
  (aQ (aZ (cV (fP K) (aj (qG [none,some 9,some 3] (fG (aj (ao 8) aH)) (aC 0) dj (aX bM (aX nJ (ao 1) (aX yf (tC (V.int 1)) (aX Hm (ao 2) (ao 0)))) (aX yf (tC (V.int 1)) (ao 2)))) aH)) (aC 10))
  (aQ (eX (wM (nj K (ao 4)) (bT (aX Dm (aX bM (ao 6) (tC (V.int 2))) (tC (V.int 1))))) (aZ (aX (dC K) (ao 5) (aX ye (ao 6) (tC (V.int 1)))) (aC 10)) cA)
  (gK (xK K "list" cY (ao 5) (aj (ao 10) aH)))))
noncomputable abbrev GC (K:W.Frag):TS:=
  (aQ (aZ (aX dU (tC (V.int 1)) (aX bM (ao 7) (ao 2))) (aC 8))
  (aQ (aZ (aX bM (aX nF (aX dU (aX cX (ao 7) (ao 2)) (ao 6)) (aX Hn (tC (V.int 48271)) (tC (V.int 32)))) (aX yf (tC (V.int 1)) (aX Hm (ao 3) (ao 8)))) (aC 9))
  (Gy K)))
noncomputable def Bt (aK0 aK1:Addr) (K:W.Frag) (E:XK) (Eh:XK):TS:=
  (aQ (aZ (jh aH) (aC 5))
  (aQ (fL (fG (aj (ao 1) aH)) (aC 6) (aQ (aZ (bu (sp_f1 aK0 aK1 K) [] E0 (aj (ao 0) (aj (aX dU (tC (V.int 5)) (ao 6)) aH))) (aC 7))
  (GC K)))
  (bO (ao 5))))
theorem Qf (h:sp_f2 aK0 aK1 K vs H Q E): ∃Eh,Bt aK0 aK1 K E Eh { nx:=fun _ H'=>Q .non H',rt:=Q } (start ["script","many","most","height","alike","letters","k","cell","wide","number","columns"] vs) H:=by
 obtain ⟨a,ns,n,m,h,al,rfl,hS,hb,hn,⟨hm1,hm2⟩,⟨hh1,hh2⟩,q⟩:=h
 refine ⟨E0,?_⟩
 unfold Bt
 walk_at "go"
 intro p hp
 have hfr: ∀p'∈[p],H p'=none:=fun p' hp'=>by rw [Zf.mp hp'];exact hp
 walk_at "go"
 refine mF n (Yb _) (by walk_at "m") (by walk_at "m") (fun i σ H'=>(Ex1 fun (zs:List (Addr×List Nat))=>(An4 (zs.length=i) (Sb [p] H H') (LtL H' p h zs) (Ex5 fun o1 o2 o3 o4 o5=>σ=[some (.ref a),some (.int (n:Nat)),some (.int (m:Nat)),some (.int (h:Nat)),some (.bl al),some (.ref p),o1,o2,o3,o4,o5])))) ⟨[],rfl,Sb.of (aG hp _),⟨au,by simp⟩,_,_,_,_,_,rfl⟩ ?_ ?_
 ·rintro i σ H' hi ⟨zs,hzl,sb,hL,o1,o2,o3,o4,o5,rfl⟩
  have hcb:PySem.Builtin.Int.intBits (Mm.cellAt ns (5+i))<=2^20:=by
   by_cases c:5+i<ns.length
   ·rw [Mm.getD_some (Zc c)];exact hb _ (Xh c)
   ·rw [Mm.getD_none (by walk_at "m")];decide
  walk_at "go"
  rw [show (5:Int)+(i:Int)=((5+i:Nat):Int) by walk_at "m"]
  refine ⟨a,ns,5+i,rfl,sb.seq hfr hS,?_⟩
  generalize Mm.cellAt ns (5+i)=cell at hcb
  obtain ⟨w,ew,hw⟩:=Mm.jn cell m (by walk_at "m")
  walk_at "go"
  rw [ew,show 1+(w:Int)=((1+w:Nat):Int) by walk_at "m"]
  walk_at "ns"
  refine Al (PyProof.Rows.bits_add (qx (by walk_at "m") hcb) (n:=2^20) (sY (by walk_at "m"))) (n:=1000) (by decide+kernel) (by decide) ?_
  walk_at "go"
  obtain ⟨ex,hex⟩: ∃ex:Nat,ex=h*(1+w):=⟨_,rfl⟩
  have hex2:ex<=480:=by rw [hex];exact Yk (Nat.mul_le_mul hh2 (show 1+w<=8 by walk_at "m")) (by decide)
  rw [show (h:Int)*((1+w:Nat):Int)=(ex:Int) by rw [hex,Int.natCast_mul]]
  clear hex
  walk_at "go"
  walk_at "ns"
  generalize (cell / ↑m+ ↑i)*48271^Int.toNat 32%(1*2^(ex:Int).toNat)=num
  have hpw:(0:Int)<2^h:=Int.pow_pos (by decide)
  have hlt: ∀y:Int,(y%2^h).toNat<2^h:=fun y=>by
   have h0:=Int.emod_nonneg y (Int.ne_of_gt hpw)
   have h1:=Wy y hpw
   rw [<- Bx.xY] at h0 h1 ⊢
   walk_at "m"
  refine Pu (1+w) (Yb _) (by walk_at "m") (by walk_at "m") (fun j=>V.int (((num / 2^(h*j))%2^h).toNat:Nat)) (fun j hj A kA=> ?_) fun pl hpl=> ?_
  ·walk_at "go"
   obtain ⟨ex,hex⟩: ∃ex:Nat,ex=h*j:=⟨_,rfl⟩
   have hex2:ex<=480:=by rw [hex];exact Yk (Nat.mul_le_mul hh2 (show j<=8 by walk_at "m")) (by decide)
   rw [show (h:Int)*(j:Int)=(ex:Int) by rw [hex,Int.natCast_mul]]
   rw [<- hex] at kA
   clear hex
   walk_at "go"
   refine Gj (by walk_at "m") ?_
   walk_at "go"
   rw [Int.one_mul,Yb]
   rw [show ((num / 2^ex%2^h).toNat:Int)=num / 2^ex%2^h from Int.toNat_of_nonneg (Int.emod_nonneg _ (Int.ne_of_gt hpw))] at kA
   exact kA
  walk_at "go"
  refine oE (SqL.of au) fun ca hca=> ?_
  walk_at "gj"
  walk_at "ns"
  have S1:Same H' (upd (upd H' pl (HO.lst ((List.range (1+w)).map fun j=>V.int (((num / 2^(h*j))%2^h).toNat:Nat)))) ca (HO.tup ((List.range (1+w)).map fun j=>V.int (((num / 2^(h*j))%2^h).toNat:Nat)))):=(aG hpl _).new hca
  with_reducible refine oA (fun σ' H2=>(An2 (Same H' H2) (Ex2 fun (cb:Addr) (co:List Nat)=>(An3 (H2 cb=some (.tup (nv co))) (1<=co.length/\co.length<=8/\ ∀x∈co,x<2^h) (σ'=[some (.ref a),some (.int (n:Nat)),some (.int (m:Nat)),some (.int (h:Nat)),some (.bl al),some (.ref p),some (.int (i:Nat)),some (.int cell),some (.int ((1+w:Nat):Int)),some (.int num),some (.ref cb)]))))) ?_ ?_
  ·rintro σ' H2 ⟨s2,cb,co,ecb,hco,rfl⟩
   have L2:=hL.same s2
   walk_at "go"
   refine je (SqL.of L2.1) ?_
   walk_at "go"
   refine kJ L2.1 (by rw [Qr];walk_at "m") ?_
   walk_at "go"
   refine ⟨zs++[(cb,co)],by simp [hzl],(sb.same s2).set (by simp),⟨by rw [au,Zw];rfl,fun z mz=> ?_⟩,_,_,_,_,_,rfl⟩
   rcases Yc.mp mz with mz | mz
   ·exact ⟨by rw [aF (cO (L2.2 z mz).1 L2.1 (by intro q;cases q))];exact (L2.2 z mz).1,(L2.2 z mz).2⟩
   ·rw [Zf.mp mz]
    exact ⟨by rw [aF (cO ecb L2.1 (by intro q;cases q))];exact ecb,hco⟩
  ·intro N hN
   have keep:=hN [some (.ref a),some (.int (n:Nat)),some (.int (m:Nat)),some (.int (h:Nat)),some (.bl al),some (.ref p),some (.int (i:Nat)),some (.int cell),some (.int ((1+w:Nat):Int)),some (.int num),some (.ref ca)] _ ⟨S1,ca,(List.range (1+w)).map fun j=>((num / 2^(h*j))%2^h).toNat,by rw [au,nv,Zy];rfl,⟨by simp,by simp;walk_at "m",fun x mx=>by obtain ⟨j,_,rfl⟩:=Zg.mp mx;exact hlt _⟩,rfl⟩
   cases al with
   | false=>
    walk_at "go"
    exact keep
   | true=>
    walk_at "go"
    refine iY (fun d=> ?_) fun d=> ?_
    ·obtain ⟨j,rfl⟩: ∃j,i=j+1:=⟨i-1,by walk_at "m"⟩
     obtain ⟨z,hz⟩: ∃z,zs[j]? =some z:=⟨_,Zc (by walk_at "m")⟩
     walk_at "go"
     rw [show ((j+1:Nat):Int)-1=(j:Int) by walk_at "m"]
     refine dB (SqL.of (S1.get hL.1)) (aK (j:=j) (v:= .ref z.1) (by rw [Zd,hz];rfl)) ?_
     walk_at "go"
     obtain ⟨z1,z2⟩:=hL.2 z (Zj hz)
     exact hN _ _ ⟨S1,z.1,z.2,S1.get z1,z2,rfl⟩
    ·walk_at "go"
     exact keep
 ·rintro σ H' ⟨zs,hzl,sb,hL,o1,o2,o3,o4,o5,rfl⟩
  walk_at "go"
  exact q p H' zs (sb.off hfr) hp hL hzl
theorem Qg (h:sp_f2 aK0 aK1 K vs H Q E):vs.length=5:=by
 obtain ⟨_,_,_,_,_,_,rfl,_⟩:=h
 rfl
theorem v7 {K:W.Frag} {H:Hp} {Q:VK} {a:Addr} {xs:List V} {i:Int} (e:SqL K H a xs) (h0:0<=i) (h1:i<(xs.length:Int)) (h: ∀v∈xs,Q v H):dC K (.ref a) (.int i) H Q:=by
 obtain ⟨v,mv,ev⟩:=Gg h0 h1
 exact dB e ev (h v mv)
inductive sp_f14 (aK0 aK1:Addr) (K:W.Frag) (vs:List V) (H:Hp) (Q:VK) (E:XK):Prop
 | mk (a:Addr) (ns:List Int) (h0:vs=[.ref a]) (h1:SqL K H a (ns.map V.int)) (h2:(∀i∈ns,PySem.Builtin.Int.intBits i<=2^20)) (h3: ∀r p H' (h:Nat) (zs:List (Addr×List Nat)),Same H H'->H' r=some (.tup [.int (h:Nat), .ref p])->LtL H' p h zs->1<=h->h<=60->1<=zs.length->zs.length<=40->Q (.ref r) H'):sp_f14 aK0 aK1 K vs H Q E
noncomputable abbrev Bu (aK0:Addr) (aK1:Addr) (K:W.Frag):TS:=
  (aQ (aZ (bu (sp_f2 aK0 aK1 K) [] E0 (aj (ao 0) (aj (ao 3) (aj (aX (dC K) (jh (aj (tC (V.int 8)) (aj (tC (V.int 8)) (aj (tC (V.int 4)) (aj (tC (V.int 1)) aH))))) (ao 1)) (aj (ao 2) (aj (ao 4) aH)))))) (aC 5))
  (bO (cW (aj (ao 2) (aj (ao 5) aH)))))
noncomputable abbrev Bv (aK0:Addr) (aK1:Addr) (K:W.Frag):TS:=
  (aQ (aZ (aX dU (tC (V.int 1)) (aX bM (bu (sp_f1 aK0 aK1 K) [] E0 (aj (ao 0) (aj (tC (V.int 1)) aH))) (aX (dC K) (jh (aj (tC (V.int 12)) (aj (tC (V.int 12)) (aj (tC (V.int 5)) (aj (tC (V.int 40)) aH))))) (ao 1)))) (aC 3))
  (aQ (aZ (aX Dm (aX bM (aX cX (bu (sp_f1 aK0 aK1 K) [] E0 (aj (ao 0) (aj (tC (V.int 1)) aH))) (tC (V.int 40))) (tC (V.int 5))) (tC (V.int 1))) (aC 4))
  (Bu aK0 aK1 K)))
noncomputable abbrev Bw (aK0:Addr) (aK1:Addr) (K:W.Frag):TS:=
  (aQ (aZ (aX dU (tC (V.int 1)) (aX bM (bu (sp_f1 aK0 aK1 K) [] E0 (aj (ao 0) (aj (tC (V.int 4)) aH))) (aX (dC K) (jh (aj (tC (V.int 8)) (aj (tC (V.int 8)) (aj (tC (V.int 60)) (aj (tC (V.int 8)) aH))))) (ao 1)))) (aC 2))
  (Bv aK0 aK1 K))
noncomputable def tR (aK0 aK1:Addr) (K:W.Frag) (E:XK) (Eh:XK):TS:=
  (aQ (aZ (aX bM (bu (sp_f1 aK0 aK1 K) [] E0 (aj (ao 0) (aj (tC (V.int 0)) aH))) (tC (V.int 4))) (aC 1))
  (Bw aK0 aK1 K))
theorem Lq (h:sp_f14 aK0 aK1 K vs H Q E): ∃Eh,tR aK0 aK1 K E Eh { nx:=fun _ H'=>Q .non H',rt:=Q } (start ["script","way","height","many","alike","letters"] vs) H:=by
 obtain ⟨a,ns,rfl,hS,hb,q⟩:=h
 refine ⟨E0,?_⟩
 unfold tR
 have md: ∀ (x:Int) (v:Int),(v=8\/v=60\/v=12\/v=5\/v=40\/v=4\/v=1)-> ∃k:Nat,x%v=(k:Int)/\(k:Int)<v:=fun x v hv=>by
  have h0:0<v:=by walk_at "m"
  have h1:=Int.emod_nonneg x (Int.ne_of_gt h0)
  have h2:=Wy x h0
  exact ⟨(x%v).toNat,by walk_at "m",by walk_at "m"⟩
 walk_at "go"
 refine ⟨a,ns,0,rfl,hS,?_⟩
 walk_at "go"
 generalize hway:Mm.cellAt ns 0%4=way
 have w0:0<=way:=by walk_at "m"
 have w4:way<4:=by walk_at "m"
 refine ⟨a,ns,4,rfl,hS,?_⟩
 walk_at "go"
 intro p1 hp1
 walk_at "go"
 refine v7 (SqL.of au) w0 (by show way<4;exact w4) fun v mv=> ?_
 obtain ⟨vi,rfl,hvi⟩: ∃vi:Int,v= .int vi/\(vi=8\/vi=60):=by
  simp only [Zu,Xb,or_false] at mv
  rcases mv with rfl | rfl | rfl | rfl<;>exact ⟨_,rfl,by simp⟩
 obtain ⟨kh,ekh,hkh⟩:=md (Mm.cellAt ns 4) vi (by walk_at "m")
 walk_at "go"
 rw [ekh,show 1+(kh:Int)=((1+kh:Nat):Int) by walk_at "m"]
 have S1:Same H (upd H p1 (HO.lst [V.int 8,V.int 8,V.int 60,V.int 8])):=aG hp1 _
 generalize upd H p1 (HO.lst [V.int 8,V.int 8,V.int 60,V.int 8])=H1 at S1
 walk_at "ns"
 refine ⟨a,ns,1,rfl,S1.seq hS,?_⟩
 walk_at "go"
 intro p2 hp2
 walk_at "go"
 refine v7 (SqL.of au) w0 (by show way<4;exact w4) fun v mv=> ?_
 obtain ⟨vj,rfl,hvj⟩: ∃vi:Int,v= .int vi/\(vi=12\/vi=5\/vi=40):=by
  simp only [Zu,Xb,or_false] at mv
  rcases mv with rfl | rfl | rfl | rfl<;>exact ⟨_,rfl,by simp⟩
 obtain ⟨km,ekm,hkm⟩:=md (Mm.cellAt ns 1) vj (by walk_at "m")
 walk_at "go"
 rw [ekm,show 1+(km:Int)=((1+km:Nat):Int) by walk_at "m"]
 have S2:Same H (upd H1 p2 (HO.lst [V.int 12,V.int 12,V.int 5,V.int 40])):=S1.new hp2
 generalize upd H1 p2 (HO.lst [V.int 12,V.int 12,V.int 5,V.int 40])=H2 at S2
 walk_at "ns"
 refine ⟨a,ns,1,rfl,S2.seq hS,?_⟩
 walk_at "go"
 intro p3 hp3
 walk_at "go"
 refine v7 (SqL.of au) w0 (by show way<4;exact w4) fun v mv=> ?_
 obtain ⟨vk,rfl,hvk⟩: ∃vi:Nat,v= .int (vi:Int)/\(vi=8\/vi=4\/vi=1):=by
  simp only [Zu,Xb,or_false] at mv
  rcases mv with rfl | rfl | rfl | rfl
  ·exact ⟨8,rfl,by simp⟩
  ·exact ⟨8,rfl,by simp⟩
  ·exact ⟨4,rfl,by simp⟩
  ·exact ⟨1,rfl,by simp⟩
 have S3:=S2.new (o:=HO.lst [V.int 8,V.int 8,V.int 4,V.int 1]) hp3
 walk_at "go"
 refine ⟨a,ns,1+km,vk,1+kh,_,rfl,S3.seq hS,hb,by walk_at "m",by walk_at "m",by walk_at "m",fun p H' zs s' hp hL hzl=> ?_⟩
 walk_at "go"
 intro r hr
 exact q r p _ _ zs ((S3.trans s').new hr) au (hL.same (aG hr _)) (by walk_at "m") (by walk_at "m") (by walk_at "m") (by walk_at "m")
theorem Lr (h:sp_f14 aK0 aK1 K vs H Q E):vs.length=1:=by
 obtain ⟨_,_,rfl,_⟩:=h
 rfl
inductive sp_f13 (aK0 aK1:Addr) (K:W.Frag) (vs:List V) (H:Hp) (Q:VK) (E:XK):Prop
 | mk (c:Int) (m:Nat) (h0:vs=[.int c, .int (m:Nat)]) (h1:(1<=m/\m<=40)) (h2: ∀r H' (es:List Int),Same H H'->H' r=some (.tup (es.map V.int))->Q (.ref r) H'):sp_f13 aK0 aK1 K vs H Q E
noncomputable def tU (aK0 aK1:Addr) (K:W.Frag) (E:XK) (Eh:XK):TS:=
  (aQ (eX (bT (aX Dm (aX bM (ao 0) (tC (V.int 3))) (tC (V.int 0)))) (bO (cW aH)) cA)
  (aQ (eX (bT (aX Dm (aX bM (ao 0) (tC (V.int 3))) (tC (V.int 1)))) (bO (cW (aj (aX bM (aX cX (ao 0) (tC (V.int 3))) (ao 1)) aH))) cA)
  (bO (yz (ao 1)))))
theorem Ls (h:sp_f13 aK0 aK1 K vs H Q E): ∃Eh,tU aK0 aK1 K E Eh { nx:=fun _ H'=>Q .non H',rt:=Q } (start ["cell","many"] vs) H:=by
 obtain ⟨c,m,rfl,⟨hm1,hm2⟩,q⟩:=h
 refine ⟨E0,?_⟩
 unfold tU
 walk_at "go"
 refine iY (fun d=> ?_) fun d=> ?_
 ·walk_at "go"
  intro r hr
  exact q r _ [] (aG hr _) au
 walk_at "go"
 refine iY (fun d=> ?_) fun d=> ?_
 ·walk_at "go"
  intro r hr
  exact q r _ [_] (aG hr _) au
 walk_at "go"
 exact ⟨m,rfl,by walk_at "m",fun p hp=>q p _ ((List.range m).map fun i:Nat=>(i:Int)) (aG hp _) (by rw [au,Zy];rfl)⟩
theorem Lw (h:sp_f13 aK0 aK1 K vs H Q E):vs.length=2:=by
 obtain ⟨_,_,rfl,_⟩:=h
 rfl
theorem jd {α:Type} [DecidableEq α]: ∀ {l m:List α},l.Nodup->(∀x∈l,x∈m)->l.length<=m.length
 | [],m,_,_=>Yp _
 | x::l,m,hn,hs=>by
  have hx:=hs x Zq
  obtain ⟨n1,n2⟩:=Xn.mp hn
  have:=jd (l:=l) (m:=m.erase x) n2 fun y my=>(List.mem_erase_of_ne (fun (e:y=x)=>n1 (by rw [<- e];exact my))).mpr (hs y (Zs _ my))
  rw [List.length_erase_of_mem hx] at this
  have:=List.length_pos_of_mem hx
  rw [Yv];walk_at "m"
theorem By {α:Type}: ∀ {l:List α} {i:Nat} {x:α},l.Nodup->x∉l->(l.set i x).Nodup
 | [],_,_,h,_=>h
 | y::l,0,x,h,hx=>Xn.mpr ⟨fun m=>hx (Zs _ m),(Xn.mp h).2⟩
 | y::l,i+1,x,h,hx=>Xn.mpr ⟨fun m=>by
   rcases Wj m with m | rfl
   ·exact (Xn.mp h).1 m
   ·exact hx Zq,By (Xn.mp h).2 fun m=>hx (Zs _ m)⟩
noncomputable def RwK (many:Nat) (ss:List Str) (r:List Dz):Prop:=(r.map (·.2.1)).Nodup/\ ∀z∈r,z.2.1∈ss/\0<=z.2.2/\z.2.2<many
theorem RwK.len {many:Nat} {ss:List Str} {r:List Dz} (h:RwK many ss r):r.length<=ss.length:=by
 have:=jd (l:=r.map (·.2.1)) (m:=ss) h.1 fun x mx=>by
  obtain ⟨z,mz,rfl⟩:=Zg.mp mx
  exact (h.2 z mz).1
 rw [Qr] at this
 exact this
theorem sum_nil: ∀as:List Addr,((as.map fun b=>((b,[]):Addr×List Dz)).map fun r=>r.2.length).sum=0
 | []=>rfl
 | _::as=>by rw [Zr,Zr,List.sum_cons,sum_nil as];rfl
theorem sum_set: ∀ {rows:List (Addr×List Dz)} {j:Nat} (h:j<rows.length) {x:Dz},((rows.set j (rows[j].1,rows[j].2++[x])).map fun r=>r.2.length).sum=(rows.map fun r=>r.2.length).sum+1
 | r::rows,0,_,x=>by
  show (r.2++[x]).length+(rows.map fun r=>r.2.length).sum=r.2.length+(rows.map fun r=>r.2.length).sum+1
  rw [Zn,We];walk_at "m"
 | r::rows,j+1,h,x=>by
  have hj:j<rows.length:=Nat.lt_of_succ_lt_succ h
  have:=sum_set (rows:=rows) (j:=j) hj (x:=x)
  show r.2.length+((rows.set j (rows[j].1,rows[j].2++[x])).map fun r=>r.2.length).sum=r.2.length+(rows.map fun r=>r.2.length).sum+1
  rw [this];walk_at "m"
inductive sp_f7 (aK0 aK1:Addr) (K:W.Frag) (vs:List V) (H:Hp) (Q:VK) (E:XK):Prop
 | mk (a sg:Addr) (ns:List Int) (ss:List Str) (h0:vs=[.ref a, .ref sg]) (h1:SqL K H a (ns.map V.int)) (h2:ns.length<=63) (h3:SqL K H sg (ss.map V.str)) (h4:(3<=ss.length/\ss.length<=42)) (h5:ss.Nodup) (h6:(∀s∈ss,Hs.Sg s)) (h7: ∀r H' ds es,Same H H'->HsT K H' r ds es->(1<=ds.length/\ds.length<=40)->(∀ps∈ds,ps.length<=42/\ ∀q∈ps,0<=q.2/\q.2<ds.length)->(ds.length<=3\/(ds.map List.length).sum<=60)->Q (.ref r) H'):sp_f7 aK0 aK1 K vs H Q E
noncomputable abbrev GD (K:W.Frag):TS:=
  (aQ (aZ (aX (dC K) (ao 1) (aX bM (aX cX (ao 3) (ao 4)) (cV (cu K) (aj (ao 1) aH)))) (aC 7))
  (eX (bT (aX (Nz K true) (ao 7) (qG [none] (fK K (aX (dC K) (ao 5) (ao 6))) (aC 0) dj (aX (bQ K) (ao 0) (tC (V.int 0)))))) (gK (xK K "list" cY (aX (dC K) (ao 5) (ao 6)) (aj (cW (aj (ao 7) (aj (aX bM (aX cX (aX cX (ao 3) (ao 4)) (cV (cu K) (aj (ao 1) aH))) (ao 4)) aH))) aH))) cA))
noncomputable abbrev GF (aK0:Addr) (aK1:Addr) (K:W.Frag):TS:=
  (aQ (fL (fK K (vG (xH K) (ao 0) (dI (tC (V.int 5))) (dI (tC (V.int 65))))) (aC 3) (aQ (aZ (aX bM (ao 3) (ao 4)) (aC 6))
  (GD K)))
  (bO (cW (aj (cV (fP K) (aj (qG [none] (fK K (ao 5)) (aC 0) dj (cV (fP K) (aj (cV (iQ K) (aj (ao 0) aH)) aH))) aH)) (aj (bu (sp_f13 aK0 aK1 K) [] E0 (aj (aX cX (ao 2) (tC (V.int 3))) (aj (ao 4) aH))) aH)))))
noncomputable abbrev GJ (aK0:Addr) (aK1:Addr) (K:W.Frag):TS:=
  (aQ (eX (bT (aX Dm (aX bM (ao 2) (tC (V.int 3))) (tC (V.int 1)))) (fL (fG (aj (ao 4) aH)) (aC 6) (aZ (qG [none,some 1,some 6,some 4] (fG (aj (aX ye (cV (cu K) (aj (ao 1) aH)) (tC (V.int 1))) aH)) (aC 0) dj (cW (aj (aX (dC K) (ao 1) (ao 0)) (aj (aX bM (aX dU (aX dU (ao 2) (ao 0)) (tC (V.int 1))) (ao 3)) aH)))) (Df (ao 5) (ao 6) uh))) cA)
  (GF aK0 aK1 K))
noncomputable abbrev GK (aK0:Addr) (aK1:Addr) (K:W.Frag):TS:=
  (aQ (eX (bT (aX Dm (aX bM (ao 2) (tC (V.int 3))) (tC (V.int 1)))) (aZ (aX dU (tC (V.int 1)) (aX bM (ao 3) (tC (V.int 3)))) (aC 4)) cA)
  (aQ (aZ (qG [none] (fG (aj (ao 4) aH)) (aC 0) dj (jh aH)) (aC 5))
  (GJ aK0 aK1 K)))
noncomputable abbrev GP (aK0:Addr) (aK1:Addr) (K:W.Frag):TS:=
  (aQ (aZ (bu (sp_f1 aK0 aK1 K) [] E0 (aj (ao 0) (aj (tC (V.int 2)) aH))) (aC 3))
  (aQ (aZ (aX dU (tC (V.int 1)) (aX bM (aX cX (ao 3) (tC (V.int 2))) (aX (dC K) (jh (aj (tC (V.int 3)) (aj (tC (V.int 40)) aH))) (aX bM (ao 3) (tC (V.int 2)))))) (aC 4))
  (GK aK0 aK1 K)))
noncomputable def BJ (aK0 aK1:Addr) (K:W.Frag) (E:XK) (Eh:XK):TS:=
  (aQ (aZ (aX cX (bu (sp_f1 aK0 aK1 K) [] E0 (aj (ao 0) (aj (tC (V.int 0)) aH))) (tC (V.int 4))) (aC 2))
  (GP aK0 aK1 K))
theorem Qh (h:sp_f7 aK0 aK1 K vs H Q E): ∃Eh,BJ aK0 aK1 K E Eh { nx:=fun _ H'=>Q .non H',rt:=Q } (start ["script","signs","head","cell","many","doors","room","sign"] vs) H:=by
 obtain ⟨a,sg,ns,ss,rfl,hS,h63,hG,⟨hs1,hs2⟩,hnd,hsg,q⟩:=h
 refine ⟨E0,?_⟩
 unfold BJ
 have c5:dY (ns.map V.int) (some 5) (some 65)=(ns.drop 5).map V.int:=by
  rw [G7 (by decide) (by decide),Xd (by rw [Qr];exact Yk h63 (by decide)),<- List.map_drop];rfl
 walk_at "go"
 refine ⟨a,ns,0,rfl,hS,?_⟩
 walk_at "go"
 refine ⟨a,ns,2,rfl,hS,?_⟩
 walk_at "go"
 generalize Mm.cellAt ns 0 / 4=head
 generalize Mm.cellAt ns 2=cell
 intro p1 hp1
 walk_at "go"
 refine v7 (SqL.of au) (Int.emod_nonneg _ (by decide)) (by show cell%2<2;exact Wy _ (by decide)) fun v mv=> ?_
 obtain ⟨vi,rfl,hvi⟩: ∃vi:Int,v= .int vi/\(vi=3\/vi=40):=by
  simp only [Zu,Xb,or_false] at mv
  rcases mv with rfl | rfl<;>exact ⟨_,rfl,by simp⟩
 have g0:=Int.emod_nonneg (cell / 2) (show vi≠0 by walk_at "m")
 have g1:=Wy (cell / 2) (show 0<vi by walk_at "m")
 walk_at "gj"
 generalize hmm:1+cell / 2%vi=mm
 have S1:Same H (upd H p1 (HO.lst [V.int 3,V.int 40])):=aG hp1 _
 generalize upd H p1 (HO.lst [V.int 3,V.int 40])=H1 at S1
 walk_at "ns"
 with_reducible refine oA (fun σ' H'=>(An2 (H'=H1) (Ex1 fun (many:Nat)=>(An4 (1<=many) (many<=40) (head%3=1->many<=3) (σ'=[some (.ref a),some (.ref sg),some (.int head),some (.int cell),some (.int (many:Nat)),none,none,none]))))) ?_ ?_
 rotate_left
 ·intro N hN
  walk_at "go"
  refine iY (fun d=> ?_) fun d=> ?_
  ·walk_at "go"
   walk_at "ns"
   exact hN _ _ ⟨rfl,(1+cell%3).toNat,by walk_at "m",by walk_at "m",fun _=>by walk_at "m",by rw [Int.toNat_of_nonneg (by walk_at "m")]⟩
  ·walk_at "go"
   exact hN _ _ ⟨rfl,mm.toNat,by walk_at "m",by walk_at "m",fun z=>absurd z d,by rw [Int.toNat_of_nonneg (by walk_at "m")]⟩
 rintro σ' _ ⟨rfl,many,hm1,hm2,hm3,rfl⟩
 rename_i H1
 replace hS:=S1.seq hS
 replace hG:=S1.seq hG
 clear hmm g0 g1
 walk_at "go"
 refine Kr many (Yb _) (by walk_at "m") (by walk_at "m") (fun i H' hi A kA=> ?_) fun d H2 as s2 hd0 hal hand hdas hae hd1=> ?_
 ·walk_at "go"
  intro p hp
  exact kA p hp
 walk_at "gj"
 walk_at "ns"
 with_reducible refine oA (fun σ' H'=>(Ex1 fun (rows:List (Addr×List Dz))=>(An9 (Same H1 H') (Rws H' rows) (rows.length=many) (d∉rows.map (·.1)) (∀x∈rows.map (·.1),H1 x=none) (H' d=some (.lst (rows.map fun r=>V.ref r.1))) (∀row∈rows,RwK many ss row.2) (many<=3\/(rows.map fun r=>r.2.length).sum<=0) (Ex1 fun o=>σ'=[some (.ref a),some (.ref sg),some (.int head),some (.int cell),some (.int (many:Nat)),some (.ref d),o,none])))) ?_ ?_
 rotate_left
 ·intro N hN
  have hR0:Rws H2 (as.map fun b=>(b,[])):=⟨by rw [Zy];simpa [Function.comp_def] using hand,fun row hr=>by
   obtain ⟨b,hb,rfl⟩:=Zg.mp hr
   exact ⟨(hae b hb).2,by simp⟩⟩
  have ea0:(as.map fun b=>((b,[]):Addr×List Dz)).map (·.1)=as:=by rw [Zy];simp [Function.comp_def]
  have hk0: ∀row∈(as.map fun b=>((b,[]):Addr×List Dz)),RwK many ss row.2:=fun row hr=>by
   obtain ⟨b,hb,rfl⟩:=Zg.mp hr
   exact ⟨by simp,by simp⟩
  have ed0:H2 d=some (.lst ((as.map fun b=>((b,[]):Addr×List Dz)).map fun r=>V.ref r.1)):=by rw [hd1,Zy];rfl
  walk_at "go"
  refine iY (fun dd=> ?_) fun dd=> ?_
  ·walk_at "go"
   refine mF many (Yb _) (by walk_at "m") (by walk_at "m") (fun i σ' H'=>(Ex1 fun (rows:List (Addr×List Dz))=>(An9 (Same H1 H') (Rws H' rows) (rows.length=many) (d∉rows.map (·.1)) (∀x∈rows.map (·.1),H1 x=none) (H' d=some (.lst (rows.map fun r=>V.ref r.1))) (∀row∈rows,RwK many ss row.2) (many<=3\/(rows.map fun r=>r.2.length).sum<=0) (Ex1 fun o=>σ'=[some (.ref a),some (.ref sg),some (.int head),some (.int cell),some (.int (many:Nat)),some (.ref d),o,none])))) ⟨_,s2,hR0,by rw [Qr];exact hal,by rw [ea0];exact hdas,fun x mx=>by rw [ea0] at mx;exact (hae x mx).1,ed0,hk0, .inl (hm3 dd),_,rfl⟩ ?_ ?_
   ·rintro i σ' H' hi ⟨rows,s',hR,hrl,hdr,hfr,ed,hk,_,o,rfl⟩
    have hG':=s'.seq hG
    walk_at "go"
    refine fC hG' ?_
    rw [Qr]
    walk_at "go"
    rw [show (ss.length:Int)-1=((ss.length-1:Nat):Int) by walk_at "m"]
    walk_at "ns"
    refine Ga (ss.length-1) (Yb _) (by walk_at "m") (by walk_at "m") (fun k ys H3=>(An2 (Same H' H3) (Ex1 fun (zs:List Dz)=>(An3 (ys=zs.map (fun z:Dz=>V.ref z.1)) (zs.map (·.2.1)=ss.take k) (∀z∈zs,H3 z.1=some (.tup [.str z.2.1, .int z.2.2])/\0<=z.2.2/\z.2.2<many))))) ⟨Same.refl _,[],rfl,rfl,by simp⟩ ?_ ?_ ?_
    ·rintro k ys H3 ⟨_,zs,rfl,ez,_⟩
     have:=Xr List.length ez
     rw [Qr,Yf] at this
     rw [Qr];walk_at "m"
    ·rintro k ys H3 hk' ⟨s3,zs,rfl,ez,hz⟩
     obtain ⟨s,hs⟩: ∃s,ss[k]? =some s:=⟨_,Zc (by walk_at "m")⟩
     walk_at "go"
     refine dB (s3.seq hG') (aK (j:=k) (v:= .str s) (by rw [Zd,hs];rfl)) ?_
     walk_at "go"
     intro tp htp
     refine ⟨s3.new htp,zs++[(tp,s,((i:Int)+k+1)%many)],by rw [Zw];rfl,by rw [Zw,ez,Yz,hs];rfl,fun z mz=> ?_⟩
     rcases Yc.mp mz with mz | mz
     ·exact ⟨aO htp (hz z mz).1,(hz z mz).2⟩
     ·rw [Zf.mp mz]
      exact ⟨au,Int.emod_nonneg _ (by walk_at "m"),Wy _ (by walk_at "m")⟩
    ·rintro ys H3 ⟨s3,zs,rfl,ez,hz⟩ nl hnl
     have S4:=s3.new (o:=HO.lst (zs.map fun z:Dz=>V.ref z.1)) hnl
     walk_at "go"
     refine Ai i (S4.get ed) rfl (by rw [Qr];walk_at "m") ?_
     walk_at "go"
     have hnH:H' nl=none:=s3.free hnl
     have hnd':d≠nl:=fun e=>by rw [<- e,ed] at hnH;cases hnH
     have hnr: ∀row∈rows,row.1≠nl:=fun row mr e=>by have:=(hR.2 row mr).1;rw [e,hnH] at this;cases this
     have hR4:=hR.same S4
     have ed4:=S4.get ed
     refine ⟨rows.set i (nl,zs),?_,⟨?_,fun row mr=> ?_⟩,by rw [List.length_set];exact hrl,fun m=> ?_,fun x mx=> ?_,by rw [au,List.map_set],fun row mr=> ?_, .inl (hm3 dd),_,rfl⟩
     ·intro b o e
      rw [aF fun z=>by rw [z,hd0] at e;cases e]
      exact (s'.trans S4) b o e
     ·rw [List.map_set]
      refine By hR.1 fun m=> ?_
      obtain ⟨row,mr,er⟩:=Zg.mp m
      exact hnr row mr er
     ·rcases Wj mr with m | rfl
      ·refine ⟨by rw [aF fun e=>hdr (by rw [<- e];exact Zg.mpr ⟨row,m,rfl⟩)];exact (hR4.2 row m).1,fun z mz=> ?_⟩
       rw [aF (cO ((hR4.2 row m).2 z mz) ed4 (by intro q;cases q))];exact (hR4.2 row m).2 z mz
      ·refine ⟨by rw [aF hnd'.symm];exact au,fun z mz=> ?_⟩
       rw [aF (cO (aO hnl (hz z mz).1) ed4 (by intro q;cases q))];exact aO hnl (hz z mz).1
     ·obtain ⟨row,mr,er⟩:=Zg.mp m
      rcases Wj mr with m' | rfl
      ·exact hdr (by rw [<- er];exact Zg.mpr ⟨row,m',rfl⟩)
      ·exact hnd' er.symm
     ·obtain ⟨row,mr,rfl⟩:=Zg.mp mx
      rcases Wj mr with m' | rfl
      ·exact hfr _ (Zg.mpr ⟨row,m',rfl⟩)
      ·exact s'.free hnH
     ·rcases Wj mr with m' | rfl
      ·exact hk row m'
      ·refine ⟨by rw [ez];exact hnd.sublist (List.take_sublist _ _),fun z mz=>⟨?_,(hz z mz).2⟩⟩
       have:z.2.1∈zs.map (·.2.1):=Zg.mpr ⟨z,mz,rfl⟩
       rw [ez] at this
       exact List.mem_of_mem_take this
   ·rintro σ' H' h
    exact hN _ _ h
  ·walk_at "go"
   exact hN _ _ ⟨_,s2,hR0,by rw [Qr];exact hal,by rw [ea0];exact hdas,fun x mx=>by rw [ea0] at mx;exact (hae x mx).1,ed0,hk0, .inr (Nat.le_of_eq (sum_nil as)),_,rfl⟩
 rintro σ' H3 ⟨rows,s3,hR,hrl,hdr,hfr0,ed,hk,hbd,o,rfl⟩
 have hS3:=s3.seq hS
 have hfr: ∀p∈d::rows.map (·.1),H1 p=none:=fun p hp=>by
  rcases Zu.mp hp with rfl | hp
  ·exact hd0
  ·exact hfr0 p hp
 obtain ⟨as2,eas⟩: ∃as2,as2=rows.map (·.1):=⟨_,rfl⟩
 rw [<- eas] at hfr
 have hda:d∉as2:=by rw [eas];exact hdr
 walk_at "go"
 refine Ik hS3 fun p5 hp5=> ?_
 rw [c5]
 walk_at "go"
 have S5:Same H1 (upd H3 p5 (HO.lst ((ns.drop 5).map V.int))):=s3.new hp5
 have e5:upd H3 p5 (HO.lst ((ns.drop 5).map V.int)) p5=some (.lst ((ns.drop 5).map V.int)):=au
 have ed5:upd H3 p5 (HO.lst ((ns.drop 5).map V.int)) d=some (.lst (rows.map fun r=>V.ref r.1)):=aO hp5 ed
 have hR5:=hR.same (aG hp5 (HO.lst ((ns.drop 5).map V.int)))
 have hp5d:p5≠d:=fun e=>by rw [e,ed] at hp5;cases hp5
 have hp5a:p5∉as2:=fun m=>by
  rw [eas] at m
  obtain ⟨row,mr,er⟩:=Zg.mp m
  have:=(hR.2 row mr).1
  rw [er,hp5] at this;cases this
 generalize upd H3 p5 (HO.lst ((ns.drop 5).map V.int))=H5 at S5 e5 ed5 hR5
 walk_at "ns"
 refine uU V.int (zs:=ns.drop 5) (SqL.of e5) (fun i σ H'=>(Ex1 fun (rows:List (Addr×List Dz))=>(An7 (Rws H' rows) (rows.map (·.1)=as2) (∀row∈rows,RwK many ss row.2) (many<=3\/(rows.map fun r=>r.2.length).sum<=i) (Sb (d::as2) H5 H') (H' d=some (.lst (as2.map V.ref))) (Ex3 fun o1 o2 o3=>σ=[some (.ref a),some (.ref sg),some (.int head),o1,some (.int (many:Nat)),some (.ref d),o2,o3])))) ⟨rows,hR5,eas.symm,hk,hbd,Sb.of (Same.refl _),by rw [ed5,eas,Zy];rfl,_,_,_,rfl⟩ ?_ ?_ ?_
 ·rintro i σ H' ⟨rows,_,_,_,_,sb,_⟩
  exact SqL.of (sb.get (by intro m;rcases Zu.mp m with m | m;exact hp5d m;exact hp5a m) e5)
 ·rintro i c σ H' hc ⟨rows,hR,e1,hok,hbd',sb,hd',o1,o2,o3,rfl⟩
  have sb1:Same H1 H':=Sb.off (ps:=d::as2) (fun b o n q=>sb b o n (S5 b o q)) hfr
  have hG':=sb1.seq hG
  obtain ⟨j,ej,hj⟩:=Mm.jn c many (by walk_at "m")
  have hrl':rows.length=many:=by rw [<- hrl,<- Qr (·.1),e1,eas,Qr]
  have hjr:j<rows.length:=by walk_at "m"
  have hjm:rows[j]∈rows:=Xh hjr
  have haj:vH (as2.map V.ref) (j:Int)=some (.ref rows[j].1):=by
   refine aK ?_
   rw [<- e1,Zy,Zd,Zc hjr];rfl
  obtain ⟨u,eu,hu⟩:=Mm.jn (c / many) ss.length (by walk_at "m")
  obtain ⟨s,hs⟩: ∃s,ss[u]? =some s:=⟨_,Zc hu⟩
  have hsm:=Zj hs
  walk_at "go"
  rw [ej]
  refine fC hG' ?_
  rw [Qr]
  refine Ar (by walk_at "m") eu ?_
  refine dB hG' (aK (j:=u) (v:= .str s) (by rw [Zd,hs];rfl)) ?_
  walk_at "go"
  walk_at "ns"
  refine dB (SqL.of hd') haj ?_
  have hrow:=hR.2 _ hjm
  have hrk:=hok _ hjm
  have hrn:=hrk.len
  refine Px (fun z:Dz=>V.ref z.1) (SqL.of hrow.1) (by walk_at "m") (fun z=>V.str z.2.1) (fun k z hz A kA=> ?_) fun p hp=> ?_
  ·have tz:=hrow.2 z (Zj hz)
   walk_at "go"
   exact bD (SqT.of tz) (aK (j:=0) (v:= .str z.2.1) rfl) kA
  walk_at "go"
  refine uZ (xs:=(rows[j].2.map (·.2.1)).map V.str) (.inl (SqL.of (by rw [au,Zy];rfl))) rfl (wG _) ?_
  rw [Gh]
  walk_at "go"
  refine zT (fun c2=> ?_) fun c2=> ?_
  ·walk_at "go"
   refine dB (SqL.of (aO hp hd')) haj ?_
   walk_at "go"
   refine je (SqL.of (aO hp hrow.1)) ?_
   walk_at "go"
   refine fC (uO hp hG') ?_
   rw [Qr]
   walk_at "go"
   intro t ht
   walk_at "go"
   refine kJ (aO ht (aO hp hrow.1)) (by rw [Qr];walk_at "m") ?_
   walk_at "go"
   generalize hrs:c / (many:Int) / (ss.length:Int)%(many:Int)=rs
   have rs1:0<=rs:=by rw [<- hrs];exact Int.emod_nonneg _ (by walk_at "m")
   have rs2:rs<many:=by rw [<- hrs];exact Wy _ (by walk_at "m")
   have hR2:=((hR.same (aG hp (HO.lst (rows[j].2.map fun z=>V.str z.2.1)))).same (aG ht (HO.tup [V.str s,V.int rs]))).app (t:=t) hjr au
   have ndj:d≠rows[j].1:=fun z=>hda (by rw [z,<- e1];exact Zg.mpr ⟨_,hjm,rfl⟩)
   refine ⟨rows.set j (rows[j].1,rows[j].2++[(t,s,rs)]),?_,(v5 hjr _).trans e1,fun row hr=> ?_,hbd'.imp_right fun z=>by rw [sum_set hjr];walk_at "m",((sb.new hp).new ht).set (Zs _ (by rw [<- e1];exact Zg.mpr ⟨_,hjm,rfl⟩)),?_,_,_,_,rfl⟩
   ·rw [Zw] at hR2
    exact hR2
   ·rcases Wj hr with m | rfl
    ·exact hok row m
    ·obtain ⟨k1,k3⟩:=hrk
     refine ⟨?_,fun z hz=> ?_⟩
     ·rw [Zw,List.nodup_append]
      refine ⟨k1,by simp,fun x m y my ee=>c2 ?_⟩
      rw [Zr,List.map_nil,Zf] at my
      have my':y=s:=my
      rw [<- my',<- ee];exact m
     ·rcases Yc.mp hz with m | m
      ·exact k3 z m
      ·rw [Zf.mp m];exact ⟨hsm,rs1,rs2⟩
   ·rw [aF ndj];exact aO ht (aO hp hd')
  ·walk_at "go"
   exact ⟨rows,hR.same (aG hp _),e1,hok,hbd'.imp_right fun z=>by walk_at "m",sb.new hp,aO hp hd',_,_,_,rfl⟩
 clear hR5 hk ed5 ed hdr hR hfr0
 rintro σ H6 ⟨rows',hR,e1,hok,hbd2,sb,hd',o1,o2,o3,rfl⟩
 have hrl':rows'.length=many:=by rw [<- hrl,<- Qr (·.1),e1,eas,Qr]
 have hal':as2.length=many:=by rw [<- e1,Qr];exact hrl'
 have S6:Same H1 H6:=Sb.off (ps:=d::as2) (fun b o n q=>sb b o n (S5 b o q)) hfr
 walk_at "go"
 refine Gb V.ref (zs:=as2) (SqL.of hd') (by walk_at "m") (fun k ys H'=>(Ex1 fun (ts:List (Addr×List (Str×Int)))=>(An5 (ys=ts.map (fun t=>V.ref t.1)) (ts.length=k) (Same H6 H') (∀t∈ts,DrT K H' t.1 t.2/\t.2.length<=42/\ ∀q∈t.2,0<=q.2/\q.2<many) (ts.map (fun t=>t.2.length)=(rows'.map fun r=>r.2.length).take k)))) ⟨[],rfl,rfl,Same.refl _,by simp,rfl⟩ ?_ ?_ ?_ ?_
 ·rintro k ys H' ⟨ts,rfl,_,s',_⟩
  exact SqL.of (s'.get hd')
 ·rintro k ys H' ⟨ts,rfl,rfl,_⟩
  simp
 ·rintro k b ys H' hb ⟨ts,rfl,hk,s',ht,hsm⟩
  have hkl:k<rows'.length:=by
   have:=(Xa.mp hb).1
   walk_at "m"
  have hkm:rows'[k]∈rows':=Xh hkl
  have eb:b=rows'[k].1:=by
   rw [<- e1,Zd,Zc hkl] at hb
   cases hb;rfl
  subst eb
  have hrow:=(hR.same s').2 _ hkm
  have hkn:=(hok _ hkm).len
  obtain ⟨k1,k3⟩:=hok _ hkm
  walk_at "go"
  refine Gi (zs:=rows'[k].2) (SqL.of hrow.1) (fun z m=>SqT.of (hrow.2 z m)) k1 (by walk_at "m") fun r ws hp hs hr=> ?_
  walk_at "go"
  refine oE (SqL.of au) fun l hl=> ?_
  refine ⟨ts++[(l,ws.map (·.2))],by simp,by simp [hk],(s'.new hr).new hl,fun t mt=> ?_,?_⟩
  rotate_left
  ·rw [Zw,hsm,Yz,Zd,Zc hkl]
   show _++[(ws.map (·.2)).length]=_++[rows'[k].2.length]
   rw [Qr,hp.length_eq]
  rcases Yc.mp mt with mt | mt
  ·exact ⟨(ht t mt).1.same ((aG hr _).new hl),(ht t mt).2⟩
  ·rw [Zf.mp mt]
   refine ⟨⟨ws,rfl,au,fun z m=>aO hl (aO hr (hrow.2 z (hp.mem_iff.mp m)))⟩,by show (ws.map (·.2)).length<=42;rw [Qr,hp.length_eq];walk_at "m",fun q mq=> ?_⟩
   obtain ⟨z,mz,rfl⟩:=Zg.mp mq
   exact (k3 z (hp.mem_iff.mp mz)).2
 rintro ys H7 ⟨ts,rfl,hk,s7,ht,hsm⟩ p hp
 have s8:Same H6 (upd H7 p (.lst (ts.map fun t=>V.ref t.1))):=s7.new hp
 have e8:upd H7 p (.lst (ts.map fun t=>V.ref t.1)) p=some (.lst (ts.map fun t=>V.ref t.1)):=au
 replace ht: ∀t∈ts,DrT K (upd H7 p (.lst (ts.map fun t=>V.ref t.1))) t.1 t.2/\t.2.length<=42/\ ∀q∈t.2,0<=q.2/\q.2<many:=fun t m=>⟨(ht t m).1.same (aG hp _),(ht t m).2⟩
 generalize upd H7 p (.lst (ts.map fun t=>V.ref t.1))=H8 at s8 e8 ht
 walk_at "go"
 refine oE (SqL.of e8) fun td htd=> ?_
 walk_at "go"
 refine ⟨_,many,rfl,⟨hm1,hm2⟩,fun te H9 es s9 ete=> ?_⟩
 walk_at "go"
 intro h hh
 have T:Same H8 (upd H9 h (HO.tup [V.ref td,V.ref te])):=((aG htd _).trans s9).new hh
 refine q h _ (ts.map (·.2)) es (S1.trans ((S6.trans s8).trans T)) ⟨td,te,ts,au,rfl,aO hh (s9.get au),fun t mt=>((ht t mt).1.same T),aO hh ete⟩ ⟨by rw [Qr];walk_at "m",by rw [Qr];walk_at "m"⟩ (fun ps mps=> ?_) ?_
 rotate_left
 ·rw [Qr,Zy]
  rcases hbd2 with z | z
  ·exact .inl (by walk_at "m")
  ·refine .inr ?_
   rw [Xd (by rw [Qr];walk_at "m")] at hsm
   rw [Xs] at z
   show (ts.map fun t=>t.2.length).sum<=60
   rw [hsm];walk_at "m"
 obtain ⟨t,mt,rfl⟩:=Zg.mp mps
 refine ⟨(ht t mt).2.1,fun q mq=> ?_⟩
 have:=(ht t mt).2.2 q mq
 rw [Qr];walk_at "m"
theorem Qi (h:sp_f7 aK0 aK1 K vs H Q E):vs.length=2:=by
 obtain ⟨_,_,_,_,rfl,_⟩:=h
 rfl
inductive sp_f9 (aK0 aK1:Addr) (K:W.Frag) (vs:List V) (H:Hp) (Q:VK) (E:XK):Prop
 | mk (a b:Addr) (xs ys:List Nat) (h0:vs=[.ref a, .ref b]) (h1:SqT K H a (nv xs)) (h2:SqT K H b (nv ys)) (h3:xs.length<=100000) (h4:ys.length<=100000) (h5:Q (.int (Mm.fZ (xs.take (min xs.length ys.length)) (ys.take (min xs.length ys.length)):Nat)) H):sp_f9 aK0 aK1 K vs H Q E
noncomputable abbrev GQ (K:W.Frag):TS:=
  (aQ (fL (fG (aj (cV rC (aj (cV (cu K) (aj (ao 0) aH)) (aj (cV (cu K) (aj (ao 1) aH)) aH))) aH)) (aC 3) (aQ (aZ (aX Ho (aX (bQ K) (ao 0) (ao 3)) (aX (bQ K) (ao 1) (ao 3))) (aC 4))
  (fJ (bT (aX Jy (ao 4) (tC (V.int 0)))) (aQ (aZ (aX dU (ao 2) (aX bM (ao 4) (tC (V.int 2)))) (aC 2))
  (aZ (aX cX (ao 4) (tC (V.int 2))) (aC 4))))))
  (bO (ao 2)))
noncomputable def BK (aK0 aK1:Addr) (K:W.Frag) (E:XK) (Eh:XK):TS:=
  (aQ (aZ (tC (V.int 0)) (aC 2))
  (GQ K))
theorem Qj (h:sp_f9 aK0 aK1 K vs H Q E): ∃Eh,BK aK0 aK1 K E Eh { nx:=fun _ H'=>Q .non H',rt:=Q } (start ["one","other","many","k","left"] vs) H:=by
 obtain ⟨a,b,xs,ys,rfl,ha,hb,hx,hy,q⟩:=h
 refine ⟨E0,?_⟩
 unfold BK
 obtain ⟨m,hm⟩: ∃m,m=min xs.length ys.length:=⟨_,rfl⟩
 rw [<- hm] at q
 walk_at "go"
 refine c7 ha ?_
 rw [Qr]
 walk_at "go"
 refine c7 hb ?_
 rw [Qr]
 walk_at "go"
 rw [show (if (ys.length:Int)<(xs.length:Int) then (ys.length:Int) else (xs.length:Int))=(m:Int) by split<;>walk_at "m"]
 refine mF m (Yb _) (by walk_at "m") (by walk_at "m") (fun i σ H'=>(An2 (H'=H) (Ex2 fun o1 o2=>σ=[some (.ref a),some (.ref b),some (.int (Mm.fZ (xs.take i) (ys.take i):Nat)),o1,o2]))) ⟨rfl,none,none,rfl⟩ ?_ ?_
 ·rintro i σ _ hi ⟨rfl,o1,o2,rfl⟩
  rename_i H
  have hx':xs[i]? =some xs[i]:=Zc (by walk_at "m")
  have hy':ys[i]? =some ys[i]:=Zc (by walk_at "m")
  have et:Mm.fZ (xs.take (i+1)) (ys.take (i+1))=Mm.fZ (xs.take i) (ys.take i)+Bm.pop (xs[i]^^^ys[i]):=by
   rw [Yz,Yz,hx',hy']
   exact Mm.mD _ _ _ _ (by rw [Yf,Yf];walk_at "m")
  generalize xs[i]'(by walk_at "m")=x at*
  generalize ys[i]'(by walk_at "m")=y at*
  walk_at "go"
  refine bD ha (aK (j:=i) (v:= .int (x:Nat)) (by rw [Zd,hx'];rfl)) ?_
  walk_at "go"
  refine bD hb (aK (j:=i) (v:= .int (y:Nat)) (by rw [Zd,hy'];rfl)) ?_
  walk_at "go"
  rw [Bx.jG]
  walk_at "ns"
  refine oh (fun σ H'=>(An2 (H'=H) (Ex2 fun (g l:Nat)=>(An2 (g+Bm.pop l=Mm.fZ (xs.take (i+1)) (ys.take (i+1))) (σ=[some (.ref a),some (.ref b),some (.int (g:Nat)),some (.int (i:Nat)),some (.int (l:Nat))]))))) (fun σ _=>match σ with | [_,_,_,_,some (.int l)]=>l.toNat | _=>0) ⟨rfl,_,_,et.symm,rfl⟩ ?_ ?_
  ·rintro _ _ ⟨rfl,g,l,e,rfl⟩
   walk_at "go"
   refine iY (fun c=> ?_) fun c=> ?_
   ·walk_at "go"
    walk_at "ns"
    rw [Bm.rB] at e
    refine ⟨⟨rfl,g+l%2,l / 2,by walk_at "m",by rw [show ((g+l%2:Nat):Int)=(g:Int)+(l:Int)%2 by walk_at "m",show ((l / 2:Nat):Int)=(l:Int) / 2 by walk_at "m"]⟩,?_⟩
    show ((l:Int) / 2).toNat<(l:Int).toNat
    walk_at "m"
   ·have hl:l=0:=by walk_at "m"
    subst hl
    rw [Bm.jF] at e
    walk_at "go"
    exact ⟨rfl,_,_,by rw [<- e];rfl⟩
  ·rintro σ H Q Q' hq ⟨v,hv,i,j,e1,e2,k,e3,z⟩
   exact ⟨v,hv,i,j,e1,e2,k,e3,hq _ _ z⟩
 ·rintro σ _ ⟨rfl,o1,o2,rfl⟩
  walk_at "go"
  exact q
theorem Qk (h:sp_f9 aK0 aK1 K vs H Q E):vs.length=2:=by
 obtain ⟨_,_,_,_,rfl,_⟩:=h
 rfl
noncomputable def PcT (H:Hp) (pc:Addr) (zs:List Lz):Prop:=H pc=some (.dK (zs.map fun z:Lz=>((Sum.inr z.2.1:Key),V.ref z.2.2.1)))/\ ∀z∈zs,H z.2.2.1=some (.tup (nv z.2.2.2))
theorem PcT.same {H H':Hp} {pc:Addr} {zs:List Lz} (h:PcT H pc zs) (s:Same H H'):PcT H' pc zs:=⟨s.get h.1,fun z mz=>s.get (h.2 z mz)⟩
noncomputable abbrev fH (zs:List Lz):List (Str×List Nat):=zs.map fun z:Lz=>(z.2.1,z.2.2.2)
theorem v8 {zs:List Lz} {s:Str} (h:Fo.lk (fH zs) s=none):dh (zs.map fun z:Lz=>((Sum.inr z.2.1:Key),V.ref z.2.2.1)) (Sum.inr s)=none:=gf (f:=fun z:Lz=>(Sum.inr z.2.1:Key)) (g:=fun z:Lz=>V.ref z.2.2.1) fun m=>by
 obtain ⟨z,mz,e⟩:=Zg.mp m
 obtain ⟨c,ec⟩:=Fo.sX (ls:=fH zs) (s:=s) (by rw [Zy];exact Zg.mpr ⟨z,mz,Sum.inr.inj e⟩)
 rw [h] at ec
 cases ec
theorem mH (ls:List (Str×List Nat)) {ps:List (Str×Int)} {i:Nat} {s:Str} {room:Int} (h:ps[i]? =some (s,room)):aW ls (ps.take (i+1))=aW ls (ps.take i)++(match Fo.lk ls s with | none=>[] | some co=>[(s,co,room)]):=by
 rw [Yz,h]
 exact j0 ls _ (s,room)
inductive sp_f12 (aK0 aK1:Addr) (K:W.Frag) (vs:List V) (H:Hp) (Q:VK) (E:XK):Prop
 | mk (ha pc:Addr) (zs:List Lz) (ds:List (List (Str×Int))) (es:List Int) (h0:vs=[.ref ha, .ref pc]) (h1:HsT K H ha ds es) (h2:PcT H pc zs) (h3:Q9 ds) (h4: ∀r H' N,Same H H'->H r=none->(bG (ds.map (aW (fH zs))) N).length<=N->H' r=some (.lst ((bG (ds.map (aW (fH zs))) N).map V.int))->Q (.ref r) H'):sp_f12 aK0 aK1 K vs H Q E
noncomputable abbrev BL (K:W.Frag):TS:=
  (aQ (fL (lz K (aX (bQ K) (aX (bQ K) (ao 0) (tC (V.int 0))) (aX (dC K) (ao 2) (ao 3)))) (jq K 2 (cB (aC 4) (cB (aC 5) lw))) (eX (wM (tB (xR (ao 4) (ao 1))) (bT (aX (Nz K true) (ao 5) (ao 2)))) (gK (xK K "list" cY (ao 2) (aj (ao 5) aH))) cA))
  (aZ (aX dU (ao 3) (tC (V.int 1))) (aC 3)))
noncomputable def tV (aK0 aK1:Addr) (K:W.Frag) (E:XK) (Eh:XK):TS:=
  (aQ (aZ (jh (aj (tC (V.int 0)) aH)) (aC 2))
  (aQ (aZ (tC (V.int 0)) (aC 3))
  (aQ (fJ (bT (aX O1 (ao 3) (cV (cu K) (aj (ao 2) aH)))) (BL K))
  (bO (ao 2)))))
theorem Lx (h:sp_f12 aK0 aK1 K vs H Q E): ∃Eh,tV aK0 aK1 K E Eh { nx:=fun _ H'=>Q .non H',rt:=Q } (start ["house","pictures","rooms","at","sign","room"] vs) H:=by
 obtain ⟨ha,pc,zs,ds,es,rfl,hH,hP,sz,q⟩:=h
 refine ⟨E0,?_⟩
 unfold tV
 obtain ⟨d,e,rs,a1,a2,a3,a4,a5⟩:=id hH
 obtain ⟨sz1,sz2,sz3,sz4⟩:=id sz
 have hok: ∀ws∈ds.map (aW (fH zs)),∀w∈ws,0<=w.2.2/\w.2.2<ds.length:=fun ws mws w mw=>by
  obtain ⟨ps,mps,rfl⟩:=Zg.mp mws
  obtain ⟨p,mp,ep⟩:=Wl.mp (show w∈ps.filterMap _ from mw)
  obtain ⟨co,eco,rfl⟩:=Yn.mp ep
  exact (sz3 ps mps).2 p mp
 have hwl:(ds.map (aW (fH zs))).length=ds.length:=Qr _
 have hrm: ∀k,∀r∈bG (ds.map (aW (fH zs))) k,0<=r/\r<ds.length:=fun k=>cU (P:=fun r:Int=>0<=r/\r<ds.length) ⟨by decide,by walk_at "m"⟩ (fun p q' hp hq=>by
  obtain ⟨w,mw,rfl⟩:=Zg.mp hq
  have:(ds.map (aW (fH zs))).getD p.toNat []∈ds.map (aW (fH zs)):=by rw [Zx,Zc (by walk_at "m")];exact Xh _
  exact hok _ this w mw) k
 have hrl: ∀k,(bG (ds.map (aW (fH zs))) k).length<=ds.length:=fun k=>by
  have:=gh (l:=bG (ds.map (aW (fH zs))) k) (m:=(List.range ds.length).map fun i:Nat=>(i:Int)) (cN _ _ k) fun r mr=>by
   obtain ⟨h0,h1⟩:=hrm k r mr
   exact Zg.mpr ⟨r.toNat,Xe.mpr (by walk_at "m"),by walk_at "m"⟩
  rw [Qr,Ys] at this
  exact this
 have hrs:rs.length=ds.length:=by rw [<- a2,Qr]
 generalize hwss:ds.map (aW (fH zs))=wss at hrm hrl hok hwl q
 walk_at "go"
 intro rl hrl0
 walk_at "go"
 walk_at "ns"
 have hfr: ∀p∈[rl],H p=none:=fun p hp=>by rw [Zf.mp hp];exact hrl0
 refine Ax (fun m σ H'=>(An2 (Sb [rl] H H') (Ex3 fun (k:Nat) (o4 o5:Option V)=>(An4 (k<=(bG wss k).length) (H' rl=some (.lst ((bG wss k).map V.int))) (m=100-k) (σ=[some (.ref ha),some (.ref pc),some (.ref rl),some (.int (k:Nat)),o4,o5]))))) _ ⟨Sb.of (aG hrl0 _),0,_,_,Yp _,au,rfl,rfl⟩ ?_ ?_
 ·rintro m σ H' Nx ⟨sb,k,o4,o5,hk,erl,rfl,rfl⟩ hN'
  have S':=sb.off hfr
  have hrk:=hrl k
  walk_at "go"
  refine fC (SqL.of erl) ?_
  rw [Qr]
  walk_at "go"
  refine iY (fun c1=> ?_) fun c1=> ?_
  ·have hkl : k < (bG wss k).length := by walk_at "m"
   obtain ⟨r,hr⟩: ∃r,(bG wss k)[k]? =some r:=⟨_,Zc hkl⟩
   obtain ⟨r0,r1⟩:=hrm k r (Zj hr)
   obtain ⟨j,rfl⟩: ∃j:Nat,r=(j:Int):=⟨r.toNat,by walk_at "m"⟩
   obtain ⟨rz,hrz⟩: ∃rz,rs[j]? =some rz:=⟨_,Zc (by walk_at "m")⟩
   have hdj:ds[j]? =some rz.2:=by rw [<- a2,Zd,hrz];rfl
   have hwj:wss[j]? =some (aW (fH zs) rz.2):=by rw [<- hwss,Zd,hdj];rfl
   have hnx:bG wss (k+1)=dF (bG wss k) ((aW (fH zs) rz.2).map (·.2.2)):=by
    have:=eV hr
    show cF _ _ (k+1)=_
    rw [this]
    show dF _ ((wss.getD ((j:Int)).toNat []).map _)=_
    rw [Yb,Zx,hwj];rfl
   obtain ⟨dz,edz,b1,b2⟩:=a4 rz (Zj hrz)
   have hdl:dz.length=rz.2.length:=by rw [<- edz,Qr]
   walk_at "go"
   refine bD (SqT.of (S'.get a1)) (aK (j:=0) (v:= .ref d) rfl) ?_
   walk_at "go"
   refine dB (SqL.of erl) (aK (j:=k) (v:= .int (j:Nat)) (by rw [Zd,hr];rfl)) ?_
   walk_at "go"
   refine bD (SqT.of (S'.get a3)) (aK (j:=j) (v:= .ref rz.1) (by rw [Zd,hrz];rfl)) ?_
   walk_at "ns"
   refine Ag (fun z:Dz=>V.ref z.1) (zs:=dz) (SqT.of (S'.get b1)) (fun i σ H2=>(An2 (Sb [rl] H H2) (Ex2 fun (o4 o5:Option V)=>(An2 (H2 rl=some (.lst ((dF (bG wss k) ((aW (fH zs) (rz.2.take i)).map (·.2.2))).map V.int))) (σ=[some (.ref ha),some (.ref pc),some (.ref rl),some (.int (k:Nat)),o4,o5]))))) ⟨sb,_,_,by rw [List.take_zero];exact erl,rfl⟩ ?_ ?_ ?_
   ·rintro i σ H2 ⟨sb2,_⟩
    exact SqT.of ((sb2.off hfr).get b1)
   ·rintro i ⟨za,s,room⟩ σ H2 hi ⟨sb2,o4,o5,erl2,rfl⟩
    have S2:=sb2.off hfr
    have hpi:rz.2[i]? =some (s,room):=by rw [<- edz,Zd,hi];rfl
    have tz:=S2.get (b2 _ (Zj hi))
    dsimp only at tz
    rw [mH _ hpi]
    refine gb (SqT.of tz) rfl ?_
    walk_at "go"
    refine ⟨pc,_,rfl,DGet.k (k:=Sum.inr s) (S2.get hP.1),?_⟩
    cases hlk:Fo.lk (fH zs) s with
    | none=>
     rw [v8 hlk]
     walk_at "go"
     show if false=true then _ else _
     walk_at "go"
     exact ⟨sb2,_,_,by rw [Yx];exact erl2,rfl⟩
    | some co=>
     obtain ⟨z,mz,_,ez⟩:=kO hlk
     rw [ez]
     walk_at "go"
     show if true=true then _ else _
     walk_at "go"
     refine uZ (.inl (SqL.of erl2)) rfl (zU _) ?_
     rw [G8]
     dsimp only
     rw [Zw,List.map_singleton,mG]
     walk_at "go"
     refine zT (fun c2=> ?_) fun c2=> ?_
     ·rw [if_neg c2]
      walk_at "go"
      refine je (SqL.of erl2) ?_
      walk_at "go"
      refine kJ erl2 ?_ ?_
      ·have h1:=gh (l:=dF (bG wss k) ((aW (fH zs) (rz.2.take i)).map (·.2.2))) (m:=bG wss (k+1)) (iH (cN _ _ k)) fun x mx=>by
        rw [hnx]
        rcases cT.mp mx with m | m
        ·exact cT.mpr (.inl m)
        ·obtain ⟨w,mw,rfl⟩:=Zg.mp m
         obtain ⟨p,mp,ep⟩:=Wl.mp (show w∈(rz.2.take i).filterMap _ from mw)
         exact cT.mpr (.inr (Zg.mpr ⟨w,Wl.mpr ⟨p,List.mem_of_mem_take mp,ep⟩,rfl⟩))
       have h2:=hrl (k+1)
       rw [Qr];walk_at "m"
      walk_at "go"
      exact ⟨sb2.set (by simp),_,_,by rw [au,Zw];rfl,rfl⟩
     ·rw [if_pos c2]
      walk_at "go"
      exact ⟨sb2,_,_,erl2,rfl⟩
   ·rintro σ H2 ⟨sb2,o4,o5,erl2,rfl⟩
    rw [Xd (by walk_at "m"),<- hnx] at erl2
    walk_at "go"
    rw [show (k:Int)+1=((k+1:Nat):Int) by walk_at "m"]
    have hk1:k+1<=(bG wss (k+1)).length:=by
     obtain ⟨E,eE⟩:=wH (fun r:Int=>(wss.getD r.toNat []).map (·.2.2)) 0 k
     have:bG wss (k+1)=bG wss k++E:=eE
     rw [this,Zn];walk_at "m"
    exact hN' _ _ _ (by walk_at "m") ⟨sb2,k+1,_,_,hk1,erl2,rfl,rfl⟩
  ·walk_at "go"
   exact q rl H' k S' hrl0 (by walk_at "m") erl
 ·exact Gm (PQ (KJ _) (KH _) (fun σ H Q Q' hq z=>by
   obtain ⟨v,hv,x,n,e,hl,z⟩:=z
   exact ⟨v,hv,x,n,e,hl,hq _ _ z⟩))
theorem Ly (h:sp_f12 aK0 aK1 K vs H Q E):vs.length=2:=by
 obtain ⟨_,_,_,_,_,rfl,_⟩:=h
 rfl
inductive sp_f11 (aK0 aK1:Addr) (K:W.Frag) (vs:List V) (H:Hp) (Q:VK) (E:XK):Prop
 | mk (p1 p2:Addr) (xs ys:List Nat) (x y:Int) (h0:vs=[.ref p1, .ref p2, .int x, .int y]) (h1:H p1=some (.tup (nv xs))) (h2:H p2=some (.tup (nv ys))) (h3:xs.length<=100) (h4:ys.length<=100) (h5: ∀r c H',Same H H'->H r=none->H' r=some (.tup [.int (cst ys xs:Nat), .ref c])->StT K H' c (CT (Str.empty,xs,x) y ys)->Q (.ref r) H'):sp_f11 aK0 aK1 K vs H Q E
noncomputable abbrev BP (K:W.Frag):TS:=
  (aQ (eX (bT (aX O2 (cV (cu K) (aj (ao 0) aH)) (cV (cu K) (aj (ao 1) aH)))) (bO (cW (aj (ao 4) (aj (cW (aj (ao 2) (aj (ao 3) (aj (vG (jQ K) (ao 1) (dI (cV (cu K) (aj (ao 0) aH))) bW) aH)))) aH)))) cA)
  (bO (cW (aj (ao 4) (aj (cW (aj (ao 3) (aj (ao 2) (aj (vG (jQ K) (ao 0) (dI (cV (cu K) (aj (ao 1) aH))) bW) aH)))) aH)))))
noncomputable def tW (aK0 aK1:Addr) (K:W.Frag) (E:XK) (Eh:XK):TS:=
  (aQ (aZ (bu (sp_f9 aK0 aK1 K) [] E0 (aj (ao 0) (aj (ao 1) aH))) (aC 4))
  (BP K))
theorem LC (h:sp_f11 aK0 aK1 K vs H Q E): ∃Eh,tW aK0 aK1 K E Eh { nx:=fun _ H'=>Q .non H',rt:=Q } (start ["one","other","x","y","cost"] vs) H:=by
 obtain ⟨p1,p2,xs,ys,x,y,rfl,e1,e2,hx,hy,q⟩:=h
 refine ⟨E0,?_⟩
 unfold tW
 walk_at "go"
 refine ⟨p1,p2,xs,ys,rfl,SqT.of e1,SqT.of e2,by walk_at "m",by walk_at "m",?_⟩
 walk_at "go"
 refine c7 (SqT.of e1) ?_
 rw [Qr]
 walk_at "go"
 refine c7 (SqT.of e2) ?_
 rw [Qr]
 walk_at "go"
 refine iY (fun c=> ?_) fun c=> ?_
 ·walk_at "go"
  refine c7 (SqT.of e1) ?_
  rw [Qr]
  walk_at "go"
  refine kW e2 fun p3 H1 s1 e3=> ?_
  rw [iC (by walk_at "m"),Yb,nv,<- List.map_drop] at e3
  walk_at "go"
  intro t ht
  walk_at "go"
  intro r hr
  refine q r t _ ((s1.new ht).new hr) ((s1.new ht).free hr) au ?_
  unfold CT
  rw [if_pos (show xs.length<=ys.length by walk_at "m")]
  exact ⟨p3,aO hr au,aO hr (aO ht e3)⟩
 ·walk_at "go"
  refine c7 (SqT.of e2) ?_
  rw [Qr]
  walk_at "go"
  refine kW e1 fun p3 H1 s1 e3=> ?_
  rw [iC (by walk_at "m"),Yb,nv,<- List.map_drop] at e3
  walk_at "go"
  intro t ht
  walk_at "go"
  intro r hr
  refine q r t _ ((s1.new ht).new hr) ((s1.new ht).free hr) au ?_
  unfold CT
  rw [if_neg (show ¬xs.length<=ys.length by walk_at "m")]
  exact ⟨p3,aO hr au,aO hr (aO ht e3)⟩
theorem LK (h:sp_f11 aK0 aK1 K vs H Q E):vs.length=4:=by
 obtain ⟨_,_,_,_,_,_,rfl,_⟩:=h
 rfl
noncomputable abbrev CW (ez:List (Addr×bL)):List (Addr×bL×V):=ez.map fun z=>(z.1,z.2,V.bl true)
noncomputable def CvO (ez:List (Addr×bL)) (X:List ((Str×List Nat×Int)×(Str×List Nat×Int)×Int)):Prop:=(∀k,k∈ez.map (·.2)↔k∈X.map CV)/\ez.length<=X.length
theorem GX (ez:List (Addr×bL)) (b:Addr) (k:bL): ∃ez',ql (CW ez) b k (.bl true)=CW ez'/\(∀z∈ez',z∈ez\/z=(b,k))/\(∀x,x∈ez'.map (·.2)↔x∈ez.map (·.2)\/x=k)/\ez'.length<=ez.length+1:=by
 have hs:(lG (CW ez) k).isSome=true↔k∈ez.map (·.2):=by
  unfold lG
  rw [Option.isSome_map,List.find?_isSome]
  constructor
  ·rintro ⟨p,mp,e⟩
   obtain ⟨z,mz,rfl⟩:=Zg.mp mp
   exact Zg.mpr ⟨z,mz,Wa e⟩
  ·intro m
   obtain ⟨z,mz,e⟩:=Zg.mp m
   exact ⟨_,Zg.mpr ⟨z,mz,rfl⟩,Ym e⟩
 unfold ql
 by_cases c:k∈ez.map (·.2)
 ·rw [if_pos (hs.mpr c)]
  refine ⟨ez,?_,fun z mz=> .inl mz,fun x=>⟨.inl,fun h=>h.elim id fun e=>by rw [e];exact c⟩,Nat.le_succ _⟩
  rw [Zy]
  refine List.map_congr_left fun z _=> ?_
  show (if z.2=k then (z.1,z.2,V.bl true) else (z.1,z.2,V.bl true))=(z.1,z.2,V.bl true)
  split<;>rfl
 ·rw [if_neg fun z=>c (hs.mp z)]
  refine ⟨ez++[(b,k)],by rw [CW,CW,Zw];rfl,fun z mz=>(Yc.mp mz).imp_right Zf.mp,fun x=> ?_,by rw [Zn,We];exact Zh _⟩
  rw [Zw,Yc]
  exact or_congr Iff.rfl Zf
theorem CvO.snoc {ez ez':List (Addr×bL)} {X:List ((Str×List Nat×Int)×(Str×List Nat×Int)×Int)} {y:(Str×List Nat×Int)×(Str×List Nat×Int)×Int} (h:CvO ez X) (e: ∀x,x∈ez'.map (·.2)↔x∈ez.map (·.2)\/x=CV y) (l:ez'.length<=ez.length+1):CvO ez' (X++[y]):=by
 refine ⟨fun k=> ?_,?_⟩
 ·rw [e,h.1 k,Zw,Yc]
  exact or_congr Iff.rfl Zf.symm
 ·have:=h.2
  rw [Zn,We];walk_at "m"
theorem BR {H:Hp} {b p:Addr} {k:bL} {kvs:List (Addr×bL×V)} {o':HO} (h:iJ H b k) (e:H p=some (qj p kvs)):iJ (upd H p o') b k:=by
 obtain ⟨c,h1,d,h2,h3⟩:=h
 have ne: ∀ {a:Addr} {xs:List V},H a=some (.tup xs)->a≠p:=fun ea=>cO ea e (by intro z;cases z)
 exact ⟨c,by rw [aF (ne h1)];exact h1,d,by rw [aF (ne h2)];exact h2,by rw [aF (ne h3)];exact h3⟩
inductive sp_f15 (aK0 aK1:Addr) (K:W.Frag) (vs:List V) (H:Hp) (Q:VK) (E:XK):Prop
 | mk (ha pc:Addr) (zs:List Lz) (ds:List (List (Str×Int))) (es:List Int) (h0:vs=[.ref ha, .ref pc]) (h1:HsT K H ha ds es) (h2:PcT H pc zs) (h3:Q9 ds) (h4:(∀z∈zs,z.2.2.2.length<=8)) (h5: ∀r H' N (zs':List (Addr×bL)),Same H H'->H r=none->(bG (ds.map (aW (fH zs))) N).length<=N->H' r=some (.lst (zs'.map fun z=>V.ref z.1))->(∀z∈zs',iJ H' z.1 z.2)->(zs'.map (·.2)).Pairwise (fun a b=>Ck.bU a b=true)->(∀k,k∈zs'.map (·.2)↔k∈(lq (ds.map (aW (fH zs))) (bG (ds.map (aW (fH zs))) N)).map CV)->Q (.ref r) H'):sp_f15 aK0 aK1 K vs H Q E
noncomputable abbrev BV (aK0:Addr) (aK1:Addr) (K:W.Frag):TS:=
  (aQ (aZ (aX (dC K) (ao 4) (ao 5)) (aC 8))
  (zR (ao 2) (bu (sp_f11 aK0 aK1 K) [] E0 (aj (j8 (ao 1) (aX (bQ K) (ao 7) (tC (V.int 0)))) (aj (j8 (ao 1) (aX (bQ K) (ao 8) (tC (V.int 0)))) (aj (aX (bQ K) (ao 7) (tC (V.int 1))) (aj (aX (bQ K) (ao 8) (tC (V.int 1))) aH))))) (tC (V.bl true))))
noncomputable abbrev BW (aK0:Addr) (aK1:Addr) (K:W.Frag):TS:=
  (aQ (aZ (qG [none,some 1] (lz K (aX (bQ K) (aX (bQ K) (ao 0) (tC (V.int 0))) (ao 3))) (aC 0) (tB (xR (aX (bQ K) (ao 0) (tC (V.int 0))) (ao 1))) (ao 0)) (aC 4))
  (fL (fG (aj (cV (cu K) (aj (ao 4) aH)) aH)) (aC 5) (fL (fG (aj (ao 5) aH)) (aC 6) (aQ (aZ (aX (dC K) (ao 4) (ao 6)) (aC 7))
  (BV aK0 aK1 K)))))
noncomputable def tX (aK0 aK1:Addr) (K:W.Frag) (E:XK) (Eh:XK):TS:=
  (aQ (aZ zQ (aC 2))
  (aQ (fL (fK K (bu (sp_f12 aK0 aK1 K) [] E0 (aj (ao 0) (aj (ao 1) aH)))) (aC 3) (BW aK0 aK1 K))
  (bO (cV nW (aj (ao 2) aH)))))
theorem LQ (h:sp_f15 aK0 aK1 K vs H Q E): ∃Eh,tX aK0 aK1 K E Eh { nx:=fun _ H'=>Q .non H',rt:=Q } (start ["house","pictures","found","room","some","j","k","x","y"] vs) H:=by
 obtain ⟨ha,pc,zs,ds,es,rfl,hH,hP,sz,hz8,q⟩:=h
 refine ⟨E0,?_⟩
 unfold tX
 obtain ⟨d,e,rs,a1,a2,a3,a4,a5⟩:=id hH
 obtain ⟨sz1,sz2,sz3,sz4⟩:=id sz
 have hrs:rs.length=ds.length:=by rw [<- a2,Qr]
 walk_at "go"
 intro fo hfo
 have hfr: ∀p∈[fo],H p=none:=fun p hp=>by rw [Zf.mp hp];exact hfo
 have S0:Same H (upd H fo (qj fo [])):=aG hfo _
 walk_at "go"
 refine ⟨ha,pc,zs,ds,es,rfl,hH.same S0,hP.same S0,sz,fun rl H1 N s1 hrl hN erl=> ?_⟩
 have efo1:H1 fo=some (qj fo []):=s1.get au
 have hrm: ∀k,∀r∈bG (ds.map (aW (fH zs))) k,0<=r/\r<ds.length:=fun k=>cU (P:=fun r:Int=>0<=r/\r<ds.length) ⟨by decide,by walk_at "m"⟩ (fun p q' hp hq=>by
  obtain ⟨w,mw,rfl⟩:=Zg.mp hq
  have hin:(ds.map (aW (fH zs))).getD p.toNat []∈ds.map (aW (fH zs)):=by rw [Zx,Zc (by rw [Qr];walk_at "m")];exact Xh _
  obtain ⟨ps,mps,eps⟩:=Zg.mp hin
  rw [<- eps] at mw
  obtain ⟨p',mp,ep⟩:=Wl.mp (show w∈ps.filterMap _ from mw)
  obtain ⟨co,eco,rfl⟩:=Yn.mp ep
  exact (sz3 ps mps).2 p' mp) k
 have hrl2:(bG (ds.map (aW (fH zs))) N).length<=ds.length:=by
  have:=gh (l:=bG (ds.map (aW (fH zs))) N) (m:=(List.range ds.length).map fun i:Nat=>(i:Int)) (cN _ _ N) fun r mr=>by
   obtain ⟨h0,h1⟩:=hrm N r mr
   exact Zg.mpr ⟨r.toNat,Xe.mpr (by walk_at "m"),by walk_at "m"⟩
  rw [Qr,Ys] at this
  exact this
 have hrow: ∀ws∈ds.map (aW (fH zs)),ws.length<=42:=fun ws mws=>by
  obtain ⟨ps,mps,rfl⟩:=Zg.mp mws
  exact Yk (List.length_filterMap_le ..) (sz3 ps mps).1
 have hall:=qD hrow
 have hlen: ∀ {i:Nat} {ez:List (Addr×bL)} {ts:List ((Str×List Nat×Int)×(Str×List Nat×Int)×Int)},True:=trivial
 generalize hwss:ds.map (aW (fH zs))=wss at hrm hrl2 hrow q hN erl hall
 walk_at "ns"
 have hrlf:rl≠fo:=fun z=>by rw [z,au] at hrl;cases hrl
 have S1:Same H H1:=S0.trans s1
 refine uU V.int (zs:=bG wss N) (SqL.of erl) (fun i σ H'=>(An3 (Sb [fo] H H') (H' rl=some (.lst ((bG wss N).map V.int))) (Ex7 fun (ez:List (Addr×bL)) (o3 o4 o5 o6 o7 o8:Option V)=>(An4 (H' fo=some (qj fo (CW ez))) (∀z∈ez,iJ H' z.1 z.2) (CvO ez (lq wss ((bG wss N).take i))) (σ=[some (.ref ha),some (.ref pc),some (.ref fo),o3,o4,o5,o6,o7,o8]))))) ⟨Sb.of S1,erl,[],_,_,_,_,_,_,efo1,by simp,⟨fun k=>Iff.rfl,Yp _⟩,rfl⟩ ?_ ?_ ?_
 ·rintro i σ H' ⟨_,h,_⟩
  exact SqL.of h
 ·rintro i room σ H' hi ⟨sb,erl',ez,o3,o4,o5,o6,o7,o8,efo,hez,eez,rfl⟩
  have S':=sb.off hfr
  obtain ⟨r0,r1⟩:=hrm N room (Zj hi)
  obtain ⟨j,rfl⟩: ∃j:Nat,room=(j:Int):=⟨room.toNat,by walk_at "m"⟩
  obtain ⟨rz,hrz⟩: ∃rz,rs[j]? =some rz:=⟨_,Zc (by walk_at "m")⟩
  have hdj:ds[j]? =some rz.2:=by rw [<- a2,Zd,hrz];rfl
  have hwj:wss[j]? =some (aW (fH zs) rz.2):=by rw [<- hwss,Zd,hdj];rfl
  have hw42:=hrow _ (Zj hwj)
  have hr42:=(sz3 _ (Zj hdj)).1
  obtain ⟨dz,edz,b1,b2⟩:=a4 rz (Zj hrz)
  have hdl:dz.length=rz.2.length:=by rw [<- edz,Qr]
  have etk:lq wss ((bG wss N).take (i+1))=lq wss ((bG wss N).take i)++(List.range (aW (fH zs) rz.2).length).flatMap fun b=>(List.range b).map fun a=>((aW (fH zs) rz.2).getD a default,(aW (fH zs) rz.2).getD b default,(j:Int)):=by
   rw [Yz,hi]
   unfold lq
   rw [List.flatMap_append]
   congr 1
   show [(j:Int)].flatMap _=_
   rw [List.flatMap_singleton,Bg hwj]
  have hAl:=hall ((bG wss N).take i)
  have hil:i<(bG wss N).length:=(Xa.mp hi).1
  rw [Yf] at hAl
  rw [etk]
  generalize lq wss ((bG wss N).take i)=A at eez hAl ⊢
  generalize hWS:aW (fH zs) rz.2=ws at hw42 ⊢
  walk_at "go"
  refine bD (SqT.of (S'.get a1)) (aK (j:=0) (v:= .ref d) rfl) ?_
  walk_at "go"
  refine bD (SqT.of (S'.get a3)) (aK (j:=j) (v:= .ref rz.1) (by rw [Zd,hrz];rfl)) ?_
  walk_at "ns"
  refine Gk (fun z:Dz=>V.ref z.1) (zs:=dz) (SqT.of (S'.get b1)) (by walk_at "m") (fun i ys H2=>(An2 (H2=H') (Ex1 fun (sm:List Wz)=>(An4 (ys=sm.map (fun z:Wz=>V.ref z.1)) (sm.length<=i) (sm.map (·.2)=aW (fH zs) (rz.2.take i)) (∀w∈sm,H' w.1=some (.tup [.str w.2.1, .int w.2.2.2])/\Fo.lk (fH zs) w.2.1=some w.2.2.1))))) ⟨rfl,[],rfl,Zh _,rfl,by simp⟩ ?_ ?_ ?_ ?_
  ·rintro i ys H2 ⟨rfl,_⟩
   exact SqT.of (S'.get b1)
  ·rintro i ys H2 ⟨_,sm,rfl,h,_⟩
   rw [Qr];exact h
  ·rintro k ⟨za,s,room⟩ ys H2 hk ⟨rfl,sm,rfl,hsl,esm,hsm⟩
   have hpk:rz.2[k]? =some (s,room):=by rw [<- edz,Zd,hk];rfl
   have tz:=S'.get (b2 _ (Zj hk))
   dsimp only at tz
   rw [mH _ hpk]
   walk_at "go"
   refine bD (SqT.of tz) (aK (j:=0) (v:= .str s) rfl) ?_
   walk_at "go"
   refine ⟨pc,_,rfl,DGet.k (k:=Sum.inr s) (S'.get hP.1),?_⟩
   cases hlk:Fo.lk (fH zs) s with
   | none=>
    rw [v8 hlk]
    walk_at "go"
    show if false=true then _ else _
    walk_at "go"
    exact ⟨rfl,sm,rfl,by walk_at "m",by rw [Yx];exact esm,hsm⟩
   | some co=>
    obtain ⟨z,mz,_,ez⟩:=kO hlk
    rw [ez]
    walk_at "go"
    show if true=true then _ else _
    walk_at "go"
    refine ⟨rfl,sm++[(za,s,co,room)],by rw [Zw];rfl,by rw [Zn,We];walk_at "m",by rw [Zw,esm];rfl,fun w mw=> ?_⟩
    rcases Yc.mp mw with mw | mw
    ·exact hsm w mw
    ·rw [Zf.mp mw]
     exact ⟨tz,hlk⟩
  rintro ys H2 ⟨rfl,sm,rfl,hsl,esm,hsm⟩ so hso
  rw [Xd (by walk_at "m"),hWS] at esm
  have hsml:sm.length=ws.length:=by rw [<- esm,Qr]
  have nso:fo≠so:=aR efo hso
  have nsr:rl≠so:=aR erl' hso
  obtain ⟨H3,eH3⟩: ∃H3,H3=upd H2 so (HO.lst (sm.map fun z:Wz=>V.ref z.1)):=⟨_,rfl⟩
  have s3:Same H2 H3:=by rw [eH3];exact aG hso _
  have eso:H3 so=some (.lst (sm.map fun z:Wz=>V.ref z.1)):=by rw [eH3];exact au
  rw [<- eH3]
  have sb3:Sb [fo] H H3:=sb.same s3
  walk_at "go"
  refine fC (SqL.of eso) ?_
  rw [Qr]
  walk_at "go"
  walk_at "ns"
  have hgd: ∀ {k:Nat} {w:Wz},sm[k]? =some w->ws.getD k default=w.2:=fun {k w} h=>by
   rw [Zx,<- esm,Zd,h];rfl
  refine mF sm.length (Yb _) (by walk_at "m") (by walk_at "m") (fun b σ H4=>(An3 (Sb [fo] H H4) (Sb [fo] H3 H4) (Ex5 fun (ez:List (Addr×bL)) (o5 o6 o7 o8:Option V)=>(An5 (H4 fo=some (qj fo (CW ez))) (∀z∈ez,iJ H4 z.1 z.2) (CvO ez (A++(List.range b).flatMap fun b=>(List.range b).map fun a=>(ws.getD a default,ws.getD b default,(j:Int)))) (ez.length<=A.length+b*42) (σ=[some (.ref ha),some (.ref pc),some (.ref fo),some (.int (j:Nat)),some (.ref so),o5,o6,o7,o8]))))) ⟨sb3,Sb.of (Same.refl _),ez,_,_,_,_,s3.get efo,fun z mz=>wK (hez z mz) s3,by rw [List.range_zero,List.flatMap_nil,Yx];exact eez,by have:=eez.2;walk_at "m",rfl⟩ ?_ ?_
  ·rintro b σ H4 hb ⟨sb4,f4,ez,o5,o6,o7,o8,efo4,hez4,eez4,hel4,rfl⟩
   obtain ⟨wy,hwy⟩: ∃w,sm[b]? =some w:=⟨_,Zc hb⟩
   obtain ⟨y1,y2⟩:=hsm _ (Zj hwy)
   have hso3:so∉[fo]:=by simpa using nso.symm
   have htup: ∀ {H5:Hp} {p:Addr} {xs:List V},Sb [fo] H3 H5->H2 p=some (.tup xs)->H5 p=some (.tup xs):=fun h e=>h.get (by simpa using cO e efo (by intro z;cases z)) (s3.get e)
   rw [List.range_succ,List.flatMap_append,List.flatMap_singleton,<- Ye,hgd hwy]
   generalize hB:A++(List.range b).flatMap (fun b=>(List.range b).map fun a=>(ws.getD a default,ws.getD b default,(j:Int)))=B at eez4 ⊢
   walk_at "go"
   refine mF b (Yb _) (by walk_at "m") (by walk_at "m") (fun a σ H5=>(An3 (Sb [fo] H H5) (Sb [fo] H3 H5) (Ex4 fun (ez:List (Addr×bL)) (o6 o7 o8:Option V)=>(An5 (H5 fo=some (qj fo (CW ez))) (∀z∈ez,iJ H5 z.1 z.2) (CvO ez (B++(List.range a).map fun a=>(ws.getD a default,wy.2,(j:Int)))) (ez.length<=A.length+b*42+a) (σ=[some (.ref ha),some (.ref pc),some (.ref fo),some (.int (j:Nat)),some (.ref so),some (.int (b:Nat)),o6,o7,o8]))))) ⟨sb4,f4,ez,_,_,_,efo4,hez4,by rw [List.range_zero,List.map_nil,Yx];exact eez4,by walk_at "m",rfl⟩ ?_ ?_
   ·rintro a σ H5 ha' ⟨sb5,f5,ez,o6,o7,o8,efo5,hez5,eez5,hel5,rfl⟩
    have S5:=sb5.off hfr
    obtain ⟨wx,hwx⟩: ∃w,sm[a]? =some w:=⟨_,Zc (by walk_at "m")⟩
    obtain ⟨x1,x2⟩:=hsm _ (Zj hwx)
    obtain ⟨zx,mzx,cx1,cx2⟩:=kO x2
    obtain ⟨zy,mzy,cy1,cy2⟩:=kO y2
    have hxc:=S5.get (hP.2 zx mzx)
    have hyc:=S5.get (hP.2 zy mzy)
    have hx8:=hz8 zx mzx
    have hy8:=hz8 zy mzy
    rw [cx1] at hxc hx8
    rw [cy1] at hyc hy8
    have eso5:=f5.get hso3 eso
    walk_at "go"
    refine dB (SqL.of eso5) (aK (j:=a) (v:= .ref wx.1) (by rw [Zd,hwx];rfl)) ?_
    walk_at "go"
    refine dB (SqL.of eso5) (aK (j:=b) (v:= .ref wy.1) (by rw [Zd,hwy];rfl)) ?_
    walk_at "go"
    refine bD (SqT.of (htup f5 x1)) (aK (j:=0) (v:= .str wx.2.1) rfl) ?_
    walk_at "go"
    refine ⟨pc, .ref zx.2.2.1,rfl,by rw [<- cx2];exact DGet.k (k:=Sum.inr wx.2.1) (S5.get hP.1),?_⟩
    walk_at "go"
    refine bD (SqT.of (htup f5 y1)) (aK (j:=0) (v:= .str wy.2.1) rfl) ?_
    walk_at "go"
    refine ⟨pc, .ref zy.2.2.1,rfl,by rw [<- cy2];exact DGet.k (k:=Sum.inr wy.2.1) (S5.get hP.1),?_⟩
    walk_at "go"
    refine bD (SqT.of (htup f5 x1)) (aK (j:=1) (v:= .int wx.2.2.2) rfl) ?_
    walk_at "go"
    refine bD (SqT.of (htup f5 y1)) (aK (j:=1) (v:= .int wy.2.2.2) rfl) ?_
    walk_at "go"
    refine ⟨zx.2.2.1,zy.2.2.1,wx.2.2.1,wy.2.2.1,wx.2.2.2,wy.2.2.2,rfl,hxc,hyc,by walk_at "m",by walk_at "m",fun r c H6 s6 hr er hc=> ?_⟩
    have efo6:=s6.get efo5
    have hck:iJ H6 r (CV (wx.2,wy.2,(j:Int))):=⟨c,er,hc.a⟩
    obtain ⟨ez',ec,h1,h2,h3⟩:=GX ez r (CV (wx.2,wy.2,(j:Int)))
    refine ⟨fo,_,rfl,⟨CW ez,_,r,efo6,fun p mp=> ?_,rfl,hck,by rw [Qr];exact Yg (show ez.length<=100000 by walk_at "m") (by decide),rfl⟩,?_⟩
    ·obtain ⟨z,mz,rfl⟩:=Zg.mp mp
     exact wK (hez5 z mz) s6
    rw [ec]
    walk_at "go"
    refine ⟨(sb5.same s6).set (by simp),(f5.same s6).set (by simp),ez',_,_,_,au,fun z mz=> ?_,?_,by walk_at "m",rfl⟩
    ·rcases h1 z mz with m | rfl
     ·exact BR (wK (hez5 z m) s6) efo6
     ·exact BR hck efo6
    ·rw [List.range_succ,Zw,List.map_singleton,<- Ye,hgd hwx]
     exact eez5.snoc h2 h3
   ·rintro σ H5 ⟨sb5,f5,ez,o6,o7,o8,efo5,hez5,eez5,hel5,rfl⟩
    exact ⟨sb5,f5,ez,_,_,_,_,efo5,hez5,eez5,by walk_at "m",rfl⟩
  ·rintro σ H4 ⟨sb4,f4,ez,o5,o6,o7,o8,efo4,hez4,eez4,hel4,rfl⟩
   rw [hsml] at eez4
   have e5:H4 rl=some (.lst ((bG wss N).map V.int)):=by
    exact f4.get (by simpa using hrlf) (s3.get erl')
   exact ⟨sb4,e5,ez,_,_,_,_,_,_,efo4,hez4,eez4,rfl⟩
 ·rintro σ H' ⟨sb,_,ez,o3,o4,o5,o6,o7,o8,efo,hez,eez,rfl⟩
  rw [Wp] at eez
  walk_at "go"
  have e2:(CW ez).map (fun p=>(p.1,p.2.1))=ez:=by rw [Zy];exact List.map_id _
  refine Aq efo (fun p mp=> ?_) (by rw [Qr];have:=eez.2;have:=hall (bG wss N);walk_at "m") fun r zs' hp hs hr=> ?_
  ·obtain ⟨z,mz,rfl⟩:=Zg.mp mp
   exact hez z mz
  rw [e2] at hp
  have S':=sb.off hfr
  exact q r _ N zs' (S'.new hr) (S'.free hr) hN au (fun z mz=>wK (hez z (hp.mem_iff.mp mz)) (aG hr _)) hs fun k=>((hp.map (·.2)).mem_iff).trans (eez.1 k)
theorem LR (h:sp_f15 aK0 aK1 K vs H Q E):vs.length=2:=by
 obtain ⟨_,_,_,_,_,rfl,_⟩:=h
 rfl
inductive sp_f4 (aK0 aK1:Addr) (K:W.Frag) (vs:List V) (H:Hp) (Q:VK) (E:XK):Prop
 | mk (p:Addr) (k:bL) (h0:vs=[.ref p]) (h1:iJ H p k) (h2:k.2.2.2.length<=1000) (h3: ∀H',Same H H'->Q (.bl true) H'):sp_f4 aK0 aK1 K vs H Q E
noncomputable abbrev GZ (aK0:Addr) (aK1:Addr) (K:W.Frag):TS:=
  (aQ (eX (J1 (oR (nj K (cV (dO K) (aj (ao 1) (aj (tC (V.ty "tuple")) aH))))) (J1 (bT (aX Nt (cV (cu K) (aj (ao 1) aH)) (tC (V.int 3)))) (oR (nj K (cV (dO K) (aj (aX (bQ K) (ao 1) (tC (V.int 2))) (aj (tC (V.ty "tuple")) aH))))))) (bO (tC (V.bl false))) cA)
  (bO (cV (ym K) (aj (qG [none] (lz K (aX (uF K) (cW (aj (aX (bQ K) (ao 1) (tC (V.int 0))) (aj (aX (bQ K) (ao 1) (tC (V.int 1))) aH))) (aX (bQ K) (ao 1) (tC (V.int 2))))) (aC 0) dj (bu (sp_f8 aK0 aK1 K) [] E0 (aj (ao 0) aH))) aH))))
noncomputable def BX (aK0 aK1:Addr) (K:W.Frag) (E:XK) (Eh:XK):TS:=
  (aQ (eX (J1 (oR (nj K (cV (dO K) (aj (ao 0) (aj (tC (V.ty "tuple")) aH))))) (J1 (bT (aX Nt (cV (cu K) (aj (ao 0) aH)) (tC (V.int 2)))) (oR (nj K (bu (sp_f8 aK0 aK1 K) [] E0 (aj (aX (bQ K) (ao 0) (tC (V.int 0))) aH)))))) (bO (tC (V.bl false))) cA)
  (aQ (aZ (aX (bQ K) (ao 0) (tC (V.int 1))) (aC 1))
  (GZ aK0 aK1 K)))
theorem Ql (h:sp_f4 aK0 aK1 K vs H Q E): ∃Eh,BX aK0 aK1 K E Eh { nx:=fun _ H'=>Q .non H',rt:=Q } (start ["row","stand"] vs) H:=by
 obtain ⟨p,⟨c,r0,r1,ys⟩,rfl,⟨ca,h1,cb,h2,h3⟩,hyl,q⟩:=h
 refine ⟨E0,?_⟩
 unfold BX
 dsimp only at h1 h2 h3 hyl
 walk_at "go"
 refine nZ (.tup h1) (b:=true) rfl ?_
 walk_at "go"
 refine c7 (SqT.of h1) ?_
 walk_at "go"
 refine sI rfl ?_
 walk_at "go"
 refine bD (SqT.of h1) (aK (j:=0) (v:= .int c) rfl) ?_
 walk_at "go"
 refine ⟨_,rfl,?_⟩
 walk_at "go"
 refine bD (SqT.of h1) (aK (j:=1) (v:= .ref ca) rfl) ?_
 walk_at "go"
 refine nZ (.tup h2) (b:=true) rfl ?_
 walk_at "go"
 refine c7 (SqT.of h2) ?_
 walk_at "go"
 refine sI rfl ?_
 walk_at "go"
 refine bD (SqT.of h2) (aK (j:=2) (v:= .ref cb) rfl) ?_
 walk_at "go"
 refine nZ (.tup h3) (b:=true) rfl ?_
 walk_at "go"
 refine bD (SqT.of h2) (aK (j:=0) (v:= .int r0) rfl) ?_
 walk_at "go"
 refine bD (SqT.of h2) (aK (j:=1) (v:= .int r1) rfl) ?_
 walk_at "go"
 intro pt hpt
 walk_at "go"
 refine bD (SqT.of (aO hpt h2)) (aK (j:=2) (v:= .ref cb) rfl) ?_
 refine Ku au (aO hpt h3) (by rw [Qr];show 2+ys.length<=_;walk_at "m") fun pc H1 s1 e1=> ?_
 have e2:H1 pc=some (.tup ((r0::r1::ys).map V.int)):=e1
 refine PK V.int (SqT.of e2) (by simp;walk_at "m") (fun _=>V.bl true) (fun j z hj A kA=> ?_) fun pl hpl=> ?_
 ·walk_at "go"
  exact ⟨z,rfl,kA⟩
 ·walk_at "go"
  refine Io (bs:=(r0::r1::ys).map fun _=>true) (SqL.of (by rw [au,Zy];rfl)) ?_
  rw [show ((r0::r1::ys).map fun _=>true).all id=true by simp]
  exact q _ (((aG hpt _).trans s1).new hpl)
theorem Qm (h:sp_f4 aK0 aK1 K vs H Q E):vs.length=1:=by
 obtain ⟨_,_,rfl,_⟩:=h
 rfl
theorem Qn {α:Type} (g:Nat->Nat->α): ∀m:Nat,((List.range m).flatMap fun j=>(List.range j).map fun k=>g j k).length*2+m=m*m
 | 0=>rfl
 | m+1=>by
  have:=Qn g m
  rw [List.range_succ,List.flatMap_append,Zn,List.flatMap_singleton,Qr,Ys,show (m+1)*(m+1)=m*m+2*m+1 by rw [Nat.mul_add,Nat.add_mul];walk_at "m"]
  walk_at "m"
theorem v9 {wss:List (List (Str×List Nat×Int))} (hw: ∀r:Int,(wss.getD r.toNat []).length<=42): ∀rs:List Int,(lq wss rs).length*2<=(rs.map fun r=>(wss.getD r.toNat []).length).sum*41
 | []=>Zh _
 | r::rs=>by
  have ih:=v9 hw rs
  unfold lq at ih ⊢
  rw [List.flatMap_cons,Zn,Zr,List.sum_cons]
  have h1:(Ir wss r).length*2<=(wss.getD r.toNat []).length*41:=by
   have:=Qn (fun j k=>((wss.getD r.toNat []).getD k default,(wss.getD r.toNat []).getD j default,r)) (wss.getD r.toNat []).length
   have h2:=Nat.mul_le_mul_left (wss.getD r.toNat []).length (hw r)
   unfold Ir
   walk_at "m"
  walk_at "m"
theorem BZ {f:Int->Nat}: ∀ {l m:List Int},l.Nodup->(∀x∈l,x∈m)->(l.map f).sum<=(m.map f).sum
 | [],_,_,_=>Yp _
 | x::l,m,hn,h=>by
  have hx:=h x Zq
  have:=BZ (f:=f) (l:=l) (m:=m.erase x) (Xn.mp hn).2 fun y hy=>(List.mem_erase_of_ne (fun (e:y=x)=>(Xn.mp hn).1 (by rw [<- e];exact hy))).mpr (h y (Zs _ hy))
  have e:=((List.perm_cons_erase hx).map f).sum_nat
  rw [Zr,List.sum_cons] at e
  rw [Zr,List.sum_cons,e]
  walk_at "m"
theorem Ha (wss:List (List (Str×List Nat×Int))):(((List.range wss.length).map fun i:Nat=>(i:Int)).map fun r=>(wss.getD r.toNat []).length).sum=(wss.map List.length).sum:=by
 congr 1
 rw [Zy]
 apply List.ext_getElem?
 intro i
 rw [Zd,Zd]
 by_cases c:i<wss.length
 ·rw [List.getElem?_range c,Zc c]
  show some (wss.getD ((i:Int)).toNat []).length=some _
  rw [Yb,Zx,Zc c];rfl
 ·rw [Xi (by rw [Ys];walk_at "m"),Xi (by walk_at "m")];rfl
theorem Ca (ls:List (Str×List Nat)): ∀ds:List (List (Str×Int)),((ds.map (aW ls)).map List.length).sum<=(ds.map List.length).sum
 | []=>Zh _
 | ps::ds=>by
  have:=Ca ls ds
  rw [Zr,Zr,Zr,List.sum_cons,List.sum_cons]
  have:(aW ls ps).length<=ps.length:=List.length_filterMap_le ..
  walk_at "m"
theorem Cd {f:Int->Nat} {m:Nat} (h: ∀r,f r<=m): ∀rs:List Int,(rs.map f).sum<=rs.length*m
 | []=>Yp _
 | r::rs=>by
  have:=Cd h rs
  have:=h r
  rw [Zr,List.sum_cons,Yv,Nat.add_mul]
  walk_at "m"
theorem Ry {ls:List (Str×List Nat)} {ds:List (List (Str×Int))} (sz:Q9 ds) (N:Nat):(lq (ds.map (aW ls)) (bG (ds.map (aW ls)) N)).length<=2600:=by
 obtain ⟨sz1,sz2,sz3,sz4⟩:=sz
 have hwl:(ds.map (aW ls)).length=ds.length:=Qr _
 have hat: ∀r:Int,(ds.map (aW ls)).getD r.toNat []=[]\/ ∃ps∈ds,(ds.map (aW ls)).getD r.toNat []=aW ls ps:=fun r=>by
  by_cases c:r.toNat<ds.length
  ·refine .inr ⟨_,Xh c,?_⟩
   rw [Zx,Zd,Zc c];rfl
  ·refine .inl ?_
   rw [Zx,Xi (by walk_at "m")];rfl
 have hw: ∀r:Int,((ds.map (aW ls)).getD r.toNat []).length<=42:=fun r=>by
  rcases hat r with e | ⟨ps,mps,e⟩
  ·rw [e];exact Yp _
  ·rw [e];exact Yk (List.length_filterMap_le ..) (sz3 ps mps).1
 have hrm: ∀k,∀r∈bG (ds.map (aW ls)) k,0<=r/\r<ds.length:=fun k=>cU (P:=fun r:Int=>0<=r/\r<ds.length) ⟨by decide,by walk_at "m"⟩ (fun p q' hp hq=>by
  obtain ⟨w,mw,rfl⟩:=Zg.mp hq
  rcases hat p with e | ⟨ps,mps,e⟩
  ·rw [e] at mw;cases mw
  ·rw [e] at mw
   obtain ⟨p',mp,ep⟩:=Wl.mp (show w∈ps.filterMap _ from mw)
   obtain ⟨co,eco,rfl⟩:=Yn.mp ep
   exact (sz3 ps mps).2 p' mp) k
 have hmem: ∀r∈bG (ds.map (aW ls)) N,r∈(List.range (ds.map (aW ls)).length).map fun i:Nat=>(i:Int):=fun r mr=>by
  obtain ⟨h0,h1⟩:=hrm N r mr
  exact Zg.mpr ⟨r.toNat,Xe.mpr (by walk_at "m"),by walk_at "m"⟩
 have h2:=v9 hw (bG (ds.map (aW ls)) N)
 rcases sz4 with z | z
 ·have h3:=gh (cN _ _ N) hmem
  rw [Qr,Ys,hwl] at h3
  have h4:=Cd hw (bG (ds.map (aW ls)) N)
  have h5:(bG (ds.map (aW ls)) N).length<=3:=Yk h3 z
  walk_at "m"
 ·have h3:=BZ (f:=fun r:Int=>((ds.map (aW ls)).getD r.toNat []).length) (cN _ _ N) hmem
  have h4:=Ha (ds.map (aW ls))
  have h5:=Ca ls ds
  have h6:((bG (ds.map (aW ls)) N).map fun r:Int=>((ds.map (aW ls)).getD r.toNat []).length).sum<=60:=Yk h3 (by rw [h4];walk_at "m")
  walk_at "m"
theorem Hb {ls:List (Str×List Nat)} {ds:List (List (Str×Int))} (h8: ∀p∈ls,p.2.length<=8) {rs:List Int}: ∀k∈(lq (ds.map (aW ls)) rs).map CV,k.2.2.2.length<=1000:=fun k mk=>by
 obtain ⟨z,mz,rfl⟩:=Zg.mp mk
 obtain ⟨r,_,mz⟩:=List.mem_flatMap.mp mz
 unfold Ir at mz
 obtain ⟨j,_,mz⟩:=List.mem_flatMap.mp mz
 obtain ⟨i,_,rfl⟩:=Zg.mp mz
 have hc: ∀a,(((ds.map (aW ls)).getD r.toNat []).getD a default).2.1.length<=8:=fun a=>by
  by_cases c:r.toNat<ds.length
  ·rw [Zx (i:=r.toNat),Zd,Zc c]
   show ((aW ls ds[r.toNat]).getD a default).2.1.length<=8
   by_cases c2:a<(aW ls ds[r.toNat]).length
   ·rw [Zx,Zc c2]
    have mw:=Xh c2
    obtain ⟨p',mp,ep⟩:=Wl.mp (show (aW ls ds[r.toNat])[a]∈(ds[r.toNat]).filterMap _ from mw)
    obtain ⟨co,eco,e⟩:=Yn.mp ep
    show ((aW ls ds[r.toNat])[a]).2.1.length<=8
    rw [<- e]
    exact h8 _ (Fo.sW eco)
   ·rw [Zx,Xi (by walk_at "m")];exact Yp _
  ·rw [Zx (i:=r.toNat),Xi (by rw [Qr];walk_at "m")];exact Yp _
 have h1:=hc i
 have h2:=hc j
 show ((CT _ _ _).2.2.map fun n:Nat=>(n:Int)).length<=1000
 rw [Qr]
 unfold CT
 split
 ·show (List.drop _ _).length<=1000
  rw [Xs]
  exact Yk (Nat.sub_le _ _) (Yk h2 (by decide))
 ·show (List.drop _ _).length<=1000
  rw [Xs]
  exact Yk (Nat.sub_le _ _) (Yk h1 (by decide))
noncomputable def Ni (k:bL):PySem.PyData:= .tuple [.int k.1, .tuple [.int k.2.1, .int k.2.2.1, .tuple (k.2.2.2.map PySem.PyData.int)]]
theorem M3 (k:bL):Sh 3 (Ni k):=sU fun d hd=>by
 simp only [Zu,Xb,or_false] at hd
 rcases hd with rfl | rfl
 ·exact ou 2 _
 ·refine sU fun d hd=> ?_
  simp only [Zu,Xb,or_false] at hd
  rcases hd with rfl | rfl | rfl
  ·exact ou 1 _
  ·exact ou 1 _
  ·exact sU fun d hd=>by
    obtain ⟨i,_,rfl⟩:=Zg.mp hd
    exact ou 0 i
theorem Qo {K:W.Frag} {H:Hp} {a:Addr} {k:bL} (h:iJ H a k):Dp K H (.ref a) (Ni k):=by
 obtain ⟨c,h1,d,h2,h3⟩:=h
 exact .tup (SqT.of h1) (.cons (.int _) (.cons (.tup (SqT.of h2) (.cons (.int _) (.cons (.int _) (.cons (Dp.intsT (SqT.of h3)) .nil)))) .nil))
theorem lr {K:W.Frag} {H:Hp}: ∀ {zs:List (Addr×bL)},(∀z∈zs,iJ H z.1 z.2)->DpAll K H (zs.map fun z=>V.ref z.1) ((zs.map (·.2)).map Ni)
 | [],_=> .nil
 | z::zs,h=> .cons (Qo (h z Zq)) (lr fun y my=>h y (Zs _ my))
theorem Ce (xs:List bL):Sh 4 (.list (xs.map Ni)):=Ge fun d hd=>by
 obtain ⟨x,_,rfl⟩:=Zg.mp hd
 exact M3 x
theorem Cg {wss:List (List (Str×List Nat×Int))} {N M:Nat} (h1:(bG wss N).length<=N) (h2:(bG wss M).length<=M):bG wss N=bG wss M:=by
 rcases Nat.le_total N M with h | h
 ·obtain ⟨j,rfl⟩:=Nat.exists_eq_add_of_le h
  exact (j4 h1 j).symm
 ·obtain ⟨j,rfl⟩:=Nat.exists_eq_add_of_le h
  exact j4 h2 j
theorem Th: ∀ {a b:List Int},HT.lexLt a b=true->HT.lexLt b a=false
 | [],[],h=>by cases h
 | [],_::_,_=>rfl
 | _::_,[],h=>by cases h
 | x::a,y::b,h=>by
  unfold HT.lexLt at h ⊢
  by_cases e:x=y
  ·rw [if_pos e] at h;rw [if_pos e.symm];exact Th h
  ·rw [if_neg e] at h
   rw [if_neg (Ne.symm e)]
   have:=Wa h
   exact Zp (by walk_at "m")
theorem U3 {a b:Sk} (h:Nk.fu a b=true):Nk.fu b a=false:=by
 unfold Nk.fu at h ⊢
 by_cases e:a.1=b.1
 ·rw [if_pos e] at h;rw [if_pos e.symm]
  by_cases e2:a.2.1=b.2.1
  ·rw [if_pos e2] at h;rw [if_pos e2.symm];exact Th h
  ·rw [if_neg e2] at h;rw [if_neg (Ne.symm e2)]
   have:=Wa h
   exact Zp (by walk_at "m")
 ·rw [if_neg e] at h;rw [if_neg (Ne.symm e)]
  have:=Wa h
  exact Zp (by walk_at "m")
theorem Qp {a b:bL} (h:Ck.bU a b=true):Ck.bU b a=false:=by
 unfold Ck.bU at h ⊢
 by_cases e:a.1=b.1
 ·rw [if_pos e] at h;rw [if_pos e.symm];exact U3 h
 ·rw [if_neg e] at h;rw [if_neg (Ne.symm e)]
  have:=Wa h
  exact Zp (by walk_at "m")
theorem Rz {a:bL} (h:Ck.bU a a=true):False:=by
 have:=Qp h
 rw [h] at this;cases this
theorem oG: ∀ {xs ys:List bL},xs.Pairwise (fun a b=>Ck.bU a b=true)->ys.Pairwise (fun a b=>Ck.bU a b=true)->(∀x,x∈xs↔x∈ys)->xs=ys
 | [],[],_,_,_=>rfl
 | [],y::ys,_,_,h=>by cases (h y).mpr Zq
 | x::xs,[],_,_,h=>by cases (h x).mp Zq
 | x::xs,y::ys,h1,h2,h=>by
  rw [List.pairwise_cons] at h1 h2
  have e:x=y:=by
   rcases Zu.mp ((h x).mp Zq) with e | m
   ·exact e
   rcases Zu.mp ((h y).mpr Zq) with e | m'
   ·exact e.symm
   have:=Qp (h2.1 _ m)
   rw [h1.1 _ m'] at this
   cases this
  subst e
  rw [oG (xs:=xs) (ys:=ys) h1.2 h2.2 fun z=> ?_]
  constructor
  ·intro m
   rcases Zu.mp ((h z).mp (Zs _ m)) with e | m'
   ·subst e;exact (Rz (h1.1 _ m)).elim
   ·exact m'
  ·intro m
   rcases Zu.mp ((h z).mpr (Zs _ m)) with e | m'
   ·subst e;exact (Rz (h2.1 _ m)).elim
   ·exact m'
theorem Iu {H:Hp} {b p:Addr} {k:bL} {ys:List V} {o':HO} (h:iJ H b k) (e:H p=some (.lst ys)):iJ (upd H p o') b k:=by
 obtain ⟨c,h1,d,h2,h3⟩:=h
 exact ⟨c,cM h1 e,d,cM h2 e,cM h3 e⟩
inductive sp_f23 (aK0 aK1:Addr) (K:W.Frag) (vs:List V) (H:Hp) (Q:VK) (E:XK):Prop
 | mk (a:Addr) (ns:List Int) (h0:vs=[.ref a]) (h1:SqL K H a (ns.map V.int)) (h2:ns.length<=63) (h3:(∀i∈ns,PySem.Builtin.Int.intBits i<=2^20)) (h4: ∀H',Q (.bl true) H'):sp_f23 aK0 aK1 K vs H Q E
noncomputable abbrev Ci (aK0:Addr) (aK1:Addr) (K:W.Frag):TS:=
  (aQ (gK (xK K "list" cY (ao 6) (aj (cW (aj (tC (V.int 0)) (aj (cW (aj (tC (V.int 0)) (aj (tC (V.int 0)) (aj (cW aH) aH)))) aH))) aH)))
  (aQ (aZ (cW (aj (tC (V.int 1)) (aj (cW (aj (tC (V.int 0)) (aj (tC (V.int 0)) (aj (cW aH) aH)))) aH))) (Df (ao 6) (tC (V.int 0)) uh))
  (bO (aX (rEqD K) (bu (sp_f18 aK0 aK1 K) [] E0 (aj (ao 5) (aj (ao 4) aH))) (ao 7)))))
noncomputable abbrev Cj (aK0:Addr) (aK1:Addr) (K:W.Frag):TS:=
  (aQ (aZ (bu (sp_f15 aK0 aK1 K) [] E0 (aj (ao 4) (aj (cV (ir K) (aj (aX (bQ K) (ao 5) (tC (V.int 1))) aH)) aH))) (aC 7))
  (aQ (eX (bT (aX (rNeD K) (ao 6) (ao 7))) (bO (tC (V.bl false))) cA)
  (Ci aK0 aK1 K)))
noncomputable abbrev Cm (aK0:Addr) (aK1:Addr) (K:W.Frag):TS:=
  (aQ (eX (J1 (oR (nj K (cV (dO K) (aj (ao 6) (aj (tC (V.ty "list")) aH))))) (oR (nj K (cV (ym K) (aj (qG [none] (fK K (ao 6)) (aC 0) dj (bu (sp_f4 aK0 aK1 K) [] E0 (aj (ao 0) aH))) aH))))) (bO (tC (V.bl false))) cA)
  (Cj aK0 aK1 K))
noncomputable abbrev Cp (aK0:Addr) (aK1:Addr) (K:W.Frag):TS:=
  (aQ (aZ (cW (aj (ao 1) (aj (cV (ux K) (aj (cV (iQ K) (aj (qG [none,some 3,some 2] (fG (aj (cV (cu K) (aj (ao 2) aH)) aH)) (aC 0) dj (cW (aj (aX (dC K) (ao 1) (ao 0)) (aj (aX (dC K) (ao 2) (ao 0)) aH)))) aH)) aH)) aH))) (aC 5))
  (aQ (aZ (bu (sp_f18 aK0 aK1 K) [] E0 (aj (ao 5) (aj (ao 4) aH))) (aC 6))
  (Cm aK0 aK1 K)))
noncomputable abbrev Cq (aK0:Addr) (aK1:Addr) (K:W.Frag):TS:=
  (aQ (aZ (bu (sp_f10 aK0 aK1 K) [] E0 (aj (bu (sp_f1 aK0 aK1 K) [] E0 (aj (ao 0) (aj (tC (V.int 3)) aH))) (aj (aX dU (cV (cu K) (aj (ao 2) aH)) (tC (V.int 2))) aH))) (aC 3))
  (aQ (aZ (bu (sp_f7 aK0 aK1 K) [] E0 (aj (ao 0) (aj (ao 3) aH))) (aC 4))
  (Cp aK0 aK1 K)))
noncomputable def tY (aK0 aK1:Addr) (K:W.Frag) (E:XK) (Eh:XK):TS:=
  (aQ (aZ (bu (sp_f14 aK0 aK1 K) [] E0 (aj (ao 0) aH)) (jq K 2 (cB (aC 1) (cB (aC 2) lw))))
  (Cq aK0 aK1 K))
theorem M4 (h:sp_f23 aK0 aK1 K vs H Q E): ∃Eh,tY aK0 aK1 K E Eh { nx:=fun _ H'=>Q .non H',rt:=Q } (start ["script","height","letters","signs","house","font","found","due"] vs) H:=by
 obtain ⟨a,ns,rfl,hS,h63,hb,q⟩:=h
 refine ⟨E0,?_⟩
 unfold tY
 have hcb: ∀k:Nat,PySem.Builtin.Int.intBits (Mm.cellAt ns k)<=2^20:=fun k=>by
  by_cases c:k<ns.length
  ·rw [Mm.getD_some (Zc c)];exact hb _ (Xh c)
  ·rw [Mm.getD_none (by walk_at "m")];decide
 walk_at "go"
 refine ⟨a,ns,rfl,hS,hb,fun r lp H1 h zs s1 er hL hh1 hh2 hz1 hz2=> ?_⟩
 replace hS:=s1.seq hS
 refine gb (SqT.of er) rfl ?_
 walk_at "go"
 walk_at "ns"
 refine ⟨a,ns,3,rfl,hS,?_⟩
 walk_at "go"
 refine fC (SqL.of hL.1) ?_
 rw [Qr]
 walk_at "go"
 rw [show (zs.length:Int)+2=((zs.length+2:Nat):Int) by walk_at "m"]
 refine ⟨_,zs.length+2,rfl,hcb 3,by walk_at "m",fun sg H2 ss s2 hsg0 esg hsl hnd hsg=> ?_⟩
 replace hS:=s2.seq hS
 replace hL:=hL.same s2
 clear s1 s2 er hsg0
 walk_at "go"
 refine ⟨a,sg,ns,ss,rfl,hS,h63,SqL.of esg,⟨by walk_at "m",by walk_at "m"⟩,hnd,hsg,fun ha H3 ds es s3 hH hd hdl hbd=> ?_⟩
 replace hL:=hL.same s3
 replace esg:=s3.get esg
 clear s3
 walk_at "go"
 refine fC (SqL.of hL.1) ?_
 rw [Qr]
 walk_at "go"
 walk_at "ns"
 refine Ga zs.length (Yb _) (by walk_at "m") (by walk_at "m") (fun k ys H'=>(An2 (Same H3 H') (Ex1 fun (us:List Lz)=>(An3 (ys=us.map (fun z:Lz=>V.ref z.1)) (us.map (fun z:Lz=>z.2.1)=ss.take k) (∀z∈us,H' z.1=some (.tup [.str z.2.1, .ref z.2.2.1])/\H' z.2.2.1=some (.tup (nv z.2.2.2))/\(1<=z.2.2.2.length/\z.2.2.2.length<=8)/\ ∀x∈z.2.2.2,x<2^h))))) ⟨Same.refl _,[],rfl,rfl,by simp⟩ ?_ ?_ ?_
 ·rintro k ys H' ⟨_,us,rfl,eu,_⟩
  have:=Xr List.length eu
  rw [Qr,Yf] at this
  rw [Qr];walk_at "m"
 ·rintro k ys H' hk ⟨s',us,rfl,eu,hu⟩
  obtain ⟨s,hs⟩: ∃s,ss[k]? =some s:=⟨_,Zc (by walk_at "m")⟩
  obtain ⟨z,hz⟩: ∃z,zs[k]? =some z:=⟨_,Zc hk⟩
  obtain ⟨w1,w2,w3,w4⟩:=hL.2 z (Zj hz)
  walk_at "go"
  refine dB (SqL.of (s'.get esg)) (aK (j:=k) (v:= .str s) (by rw [Zd,hs];rfl)) ?_
  walk_at "go"
  refine dB (SqL.of (s'.get hL.1)) (aK (j:=k) (v:= .ref z.1) (by rw [Zd,hz];rfl)) ?_
  walk_at "go"
  intro tp htp
  refine ⟨s'.new htp,us++[(tp,s,z.1,z.2)],by rw [Zw];rfl,by rw [Zw,eu,Yz,hs];rfl,fun y my=> ?_⟩
  rcases Yc.mp my with my | my
  ·exact ⟨aO htp (hu y my).1,aO htp (hu y my).2.1,(hu y my).2.2⟩
  ·rw [Zf.mp my]
   exact ⟨au,aO htp (s'.get w1),⟨w2,w3⟩,w4⟩
 rintro ys H4 ⟨s4,us,rfl,eu,hu⟩ p hp
 have hul:us.length=zs.length:=by
  have:=Xr List.length eu
  rw [Qr,Yf] at this
  walk_at "m"
 walk_at "go"
 refine v4 (zs:=us.map fun z:Lz=>(z.1,z.2.1,[V.ref z.2.2.1])) (SqL.of (by rw [au,Zy];rfl)) (fun z mz=> ?_) (by rw [Zy];show (us.map fun z:Lz=>z.2.1).Nodup;rw [eu];exact List.Nodup.sublist (List.take_sublist _ _) hnd) (by rw [Qr];walk_at "m") fun r2 vs hpu hsu hr2=> ?_
 ·obtain ⟨y,my,rfl⟩:=Zg.mp mz
  exact SqT.of (aO hp (hu y my).1)
 obtain ⟨vs',pv,rfl⟩:=jf hpu
 rw [Zy] at hsu ⊢
 walk_at "go"
 refine Ks (SqL.of au) fun l ob hob hl=> ?_
 walk_at "go"
 intro f hf
 have hvl:vs'.length=zs.length:=by rw [pv.length_eq,hul]
 have hv: ∀z∈vs',H4 z.1=some (.tup [.str z.2.1, .ref z.2.2.1])/\H4 z.2.2.1=some (.tup (nv z.2.2.2))/\(1<=z.2.2.2.length/\z.2.2.2.length<=8)/\ ∀x∈z.2.2.2,x<2^h:=fun z mz=>hu z (pv.mem_iff.mp mz)
 obtain ⟨H5,eH5⟩: ∃H5,H5=upd (upd (upd (upd H4 p (HO.lst (us.map fun z:Lz=>V.ref z.1))) r2 (HO.lst (vs'.map ((fun z:Addr×Str×List V=>V.ref z.1)∘fun z:Lz=>(z.1,z.2.1,[V.ref z.2.2.1]))))) l (HO.frz ob (HO.tup (vs'.map ((fun z:Addr×Str×List V=>V.ref z.1)∘fun z:Lz=>(z.1,z.2.1,[V.ref z.2.2.1])))))) f (HO.tup [V.int (h:Nat),V.ref l]):=⟨_,rfl⟩
 have S5:Same H4 H5:=by rw [eH5];exact (((aG hp _).new hr2).new hl).new hf
 have hF:FnF K H5 f h (vs'.map fun z:Lz=>(z.2.1,z.2.2.2)):=⟨l,ob,vs',by rw [eH5];exact au,rfl,hob,by rw [eH5];exact aO hf au,fun z mz=>⟨S5.get (hv z mz).1,S5.get (hv z mz).2.1⟩⟩
 have wf:Fo.Wf h (vs'.map fun z:Lz=>(z.2.1,z.2.2.2)):=by
  refine ⟨by rw [Qr];walk_at "m",by rw [Qr];walk_at "m",?_,fun y my=> ?_,fun y my=> ?_,fun y my=> ?_⟩
  ·rw [Zy];exact hsu
  ·obtain ⟨z,mz,rfl⟩:=Zg.mp my
   have:z.2.1∈us.map (fun z:Lz=>z.2.1):=Zg.mpr ⟨z,pv.mem_iff.mp mz,rfl⟩
   rw [eu] at this
   exact hsg _ (List.mem_of_mem_take this)
  ·obtain ⟨z,mz,rfl⟩:=Zg.mp my
   exact (hv z mz).2.2.1
  ·obtain ⟨z,mz,rfl⟩:=Zg.mp my
   exact (hv z mz).2.2.2
 have T5:=s4.trans S5
 replace hH:=hH.same T5
 rw [<- eH5]
 clear eH5 S5 hv hu eu hsu hpu pv T5 s4 hL esg hp hr2 hl hf
 generalize (vs'.map fun z:Lz=>(z.2.1,z.2.2.2))=ls at hF wf
 walk_at "ns"
 have sz:Q9 ds:=⟨by walk_at "m",by walk_at "m",hdl,hbd⟩
 have h26:=Ry (ls:=ls) sz
 have h8: ∀p∈ls,p.2.length<=8:=fun p mp=>(wf.c1 p mp).2
 walk_at "go"
 refine ⟨f,ha,h,ls,ds,es,rfl,hF,wf,hH.g,sz,h26,fun fo H6 N zs1 s6 hfo hN efo hc1 hp1 hm1=> ?_⟩
 have hzl:zs1.length<=2600:=by
  have hnd1:(zs1.map (·.2)).Nodup:=hp1.imp fun {a b} hlt (e:a=b)=>Rz (by rw [e] at hlt;exact hlt)
  have:=jd hnd1 fun k mk=>(hm1 k).mp mk
  rw [Qr,Qr] at this
  exact Yk this (h26 N)
 walk_at "go"
 refine nZ (.lst efo) (b:=true) rfl ?_
 walk_at "go"
 walk_at "ns"
 refine Gb (fun z:Addr×bL=>V.ref z.1) (zs:=zs1) (SqL.of efo) (by walk_at "m") (fun i ys H'=>(An2 (Same H6 H') (ys=(List.replicate i true).map V.bl))) ⟨Same.refl _,rfl⟩ ?_ ?_ ?_ ?_
 ·rintro i ys H' ⟨s',_⟩
  exact SqL.of (s'.get efo)
 ·rintro i ys H' ⟨_,rfl⟩
  rw [Qr,List.length_replicate];exact Zh _
 ·rintro i z ys H' hi ⟨s',rfl⟩
  have mz:=Zj hi
  walk_at "go"
  refine ⟨z.1,z.2,rfl,wK (hc1 z mz) s',Hb h8 _ ((hm1 z.2).mp (List.mem_map_of_mem mz)),fun H2 s2=> ?_⟩
  exact ⟨s'.trans s2,by rw [List.replicate_succ',Zw];rfl⟩
 rintro ys H7 ⟨s7,rfl⟩ bl hbl
 have s8:Same H6 (upd H7 bl (HO.lst ((List.replicate zs1.length true).map V.bl))):=s7.new hbl
 have e8:upd H7 bl (HO.lst ((List.replicate zs1.length true).map V.bl)) bl=some (.lst ((List.replicate zs1.length true).map V.bl)):=au
 generalize upd H7 bl (HO.lst ((List.replicate zs1.length true).map V.bl))=H8 at s8 e8 ⊢
 walk_at "go"
 refine Io (SqL.of e8) ?_
 rw [show (List.replicate zs1.length true).all id=true by simp]
 have T8:Same H5 H8:=s6.trans s8
 walk_at "go"
 obtain ⟨l2,ob2,fz,g1,ez,gob,g3,g4⟩:=id (hF.same T8)
 refine bD (SqT.of g1) (aK (j:=1) (v:= .ref l2) rfl) ?_
 walk_at "go"
 have hnf:(fz.map (·.2.1)).Nodup:=by
  have:=qy wf.up
  rw [<- ez,Zy] at this
  exact this
 have hfl:fz.length=ls.length:=by rw [<- ez,Qr]
 have hle:=wf.le
 refine qw (zs:=fz.map fun z:Lz=>(z.1,z.2.1,V.ref z.2.2.1)) gob (by rw [Zy];exact g3) (fun z m=> ?_) (by rw [Zy];exact hnf) (by rw [Qr];walk_at "m") fun pc hpc=> ?_
 ·obtain ⟨y,my,rfl⟩:=Zg.mp m
  exact SqT.of (g4 y my).1
 rw [Zy]
 obtain ⟨H9,eH9⟩: ∃H9,H9=upd H8 pc (HO.dK (fz.map ((fun z:Addr×Str×V=>((Sum.inr z.2.1:Key),z.2.2))∘fun z:Lz=>(z.1,z.2.1,V.ref z.2.2.1)))):=⟨_,rfl⟩
 have s9:Same H8 H9:=by rw [eH9];exact aG hpc _
 have hP:PcT H9 pc fz:=⟨by rw [eH9];exact au,fun z mz=>s9.get (g4 z mz).2⟩
 rw [<- eH9]
 clear eH9
 have elsz:fH fz=ls:=ez
 have hz8: ∀z∈fz,z.2.2.2.length<=8:=fun z mz=>h8 (z.2.1,z.2.2.2) (by rw [<- ez];exact Zg.mpr ⟨z,mz,rfl⟩)
 walk_at "go"
 refine ⟨ha,pc,fz,ds,es,rfl,(hH.same T8).same s9,hP,sz,hz8,fun du H10 M zs2 s10 hdu hM edu hc2 hp2 hm2=> ?_⟩
 rw [elsz] at hM hm2
 have eN:=Cg hN hM
 have e12:zs1.map (·.2)=zs2.map (·.2):=oG hp1 hp2 fun k=>(hm1 k).trans (by rw [eN];exact (hm2 k).symm)
 have T10:Same H8 H10:=s9.trans s10
 have efo10:=T10.get (s8.get efo)
 have hc1': ∀z∈zs1,iJ H10 z.1 z.2:=fun z mz=>wK (hc1 z mz) (s8.trans T10)
 have U10:Same H5 H10:=T8.trans T10
 have nfd:du≠fo:=fun z=>by
  rw [z,s9.get (s8.get efo)] at hdu
  cases hdu
 walk_at "go"
 refine rNeD.same (n:=4) (d:= .list ((zs2.map (·.2)).map Ni)) (.lst (SqL.of efo10) (by rw [<- e12];exact lr hc1')) (.lst (SqL.of edu) (lr hc2)) (Ce _) (by decide) ?_
 walk_at "go"
 refine je (SqL.of efo10) ?_
 walk_at "go"
 intro t1 ht1
 walk_at "go"
 intro t2 ht2
 walk_at "go"
 intro t3 ht3
 have S11:=((aG ht1 (HO.tup [])).new (o:=HO.tup [V.int 0,V.int 0,V.ref t1]) ht2).new (o:=HO.tup [V.int 0,V.ref t2]) ht3
 generalize upd (upd (upd H10 t1 (HO.tup [])) t2 (HO.tup [V.int 0,V.int 0,V.ref t1])) t3 (HO.tup [V.int 0,V.ref t2])=H11 at S11 ⊢
 have efo11:=S11.get efo10
 walk_at "go"
 refine kJ efo11 (by rw [Qr];walk_at "m") ?_
 walk_at "go"
 obtain ⟨H12,eH12⟩: ∃H12,H12=upd H11 fo (HO.lst (zs1.map (fun z=>V.ref z.1)++[V.ref t3])):=⟨_,rfl⟩
 have efo12:H12 fo=some (.lst (zs1.map (fun z=>V.ref z.1)++[V.ref t3])):=by rw [eH12];exact au
 have B12:Sb [fo] H11 H12:=by rw [eH12];exact (Sb.of (Same.refl _)).set (by simp)
 have hc12: ∀z∈zs2,iJ H12 z.1 z.2:=fun z mz=>by rw [eH12];exact Iu (wK (hc2 z mz) S11) efo11
 rw [<- eH12]
 clear eH12
 intro t4 ht4
 walk_at "go"
 intro t5 ht5
 walk_at "go"
 intro t6 ht6
 have S13:=((aG ht4 (HO.tup [])).new (o:=HO.tup [V.int 0,V.int 0,V.ref t4]) ht5).new (o:=HO.tup [V.int 1,V.ref t5]) ht6
 generalize upd (upd (upd H12 t4 (HO.tup [])) t5 (HO.tup [V.int 0,V.int 0,V.ref t4])) t6 (HO.tup [V.int 1,V.ref t5])=H13 at S13 ⊢
 have efo13:=S13.get efo12
 walk_at "go"
 refine Ai 0 efo13 rfl (by rw [Zn];exact Nat.succ_pos _) ?_
 obtain ⟨H14,eH14⟩: ∃H14,H14=upd H13 fo (HO.lst ((zs1.map (fun z=>V.ref z.1)++[V.ref t3]).set 0 (V.ref t6))):=⟨_,rfl⟩
 have B14:Sb [fo] H10 H14:=by
  rw [eH14]
  exact (Sb.same (fun b o n e=>B12 b o n (S11 b o e)) S13).set (by simp)
 have hc14: ∀z∈zs2,iJ H14 z.1 z.2:=fun z mz=>by rw [eH14];exact Iu (wK (hc12 z mz) S13) efo13
 rw [<- eH14]
 clear eH14
 have edu14:=B14.get (by simpa using nfd) edu
 have U14:Same H5 H14:=Sb.off (ps:=[fo]) (fun b o n e=>B14 b o n (U10 b o e)) fun p hp=>by rw [Zf.mp hp];exact hfo
 walk_at "go"
 refine ⟨f,ha,h,ls,ds,es,rfl,hF.same U14,wf,(hH.same U14).g,sz,h26,fun fo2 H15 N2 zs3 s15 hfo2 hN2 efo2 hc3 hp3 hm3=> ?_⟩
 have eN2:=Cg hN2 hM
 have e32:zs3.map (·.2)=zs2.map (·.2):=oG hp3 hp2 fun k=>(hm3 k).trans (by rw [eN2];exact (hm2 k).symm)
 walk_at "go"
 refine rEqD.same (n:=4) (d:= .list ((zs2.map (·.2)).map Ni)) (.lst (SqL.of efo2) (by rw [<- e32];exact lr hc3)) (.lst (SqL.of (s15.get edu14)) (lr fun z mz=>wK (hc14 z mz) s15)) (Ce _) (by decide) ?_
 walk_at "go"
 exact q _
theorem M5 (h:sp_f23 aK0 aK1 K vs H Q E):vs.length=1:=by
 obtain ⟨_,_,rfl,_⟩:=h
 rfl
end Pg
set_option Elab.async false
set_option linter.all false
set_option maxRecDepth 100000
namespace Pg
open PySem L2
noncomputable def top (i:Nat):Stmt:=PySem.Challenge.pw_blotsure_k51_begins.main.body.getD i (.Pass ⟨0,0,0,0⟩)
noncomputable abbrev Cr:Stmt:=top 1
noncomputable abbrev Cu:Stmt:=top 2
noncomputable abbrev M6:Stmt:=top 8
noncomputable abbrev vd:Stmt:=top 7
noncomputable abbrev vf:Stmt:=top 11
noncomputable abbrev vg:Stmt:=top 10
noncomputable abbrev M7:Stmt:=top 16
noncomputable abbrev M8:Stmt:=top 15
noncomputable abbrev M9:Stmt:=top 17
noncomputable abbrev Cv:Stmt:=top 14
noncomputable abbrev vh:Stmt:=top 13
noncomputable abbrev Ma:Stmt:=top 19
noncomputable abbrev Mf:Stmt:=top 20
noncomputable abbrev Cw:Stmt:=top 21
noncomputable abbrev Hd:Stmt:=top 22
noncomputable abbrev Cy:Stmt:=top 23
noncomputable abbrev Cz:Stmt:=top 24
noncomputable abbrev tZ:Stmt:=top 25
noncomputable abbrev Mi:Stmt:=top 26
noncomputable abbrev CG:Stmt:=top 27
noncomputable abbrev CJ:Stmt:=top 28
noncomputable abbrev vm:Stmt:=top 29
noncomputable abbrev Hf:Stmt:=top 30
noncomputable abbrev iI:Stmt:=top 31
theorem oH:FnScope ["column","dots"] ["column"] (aD Cr):=⟨rfl,rfl,rfl,by decide+kernel,rfl,by decide+kernel,by decide+kernel⟩
theorem Mj:FnScope ["one","other"] ["one","other"] (aD Cu):=⟨rfl,rfl,rfl,by decide+kernel,rfl,by decide+kernel,by decide+kernel⟩
theorem Qq:FnScope ["one","other"] ["one","other"] (aD M6):=⟨rfl,rfl,rfl,by decide+kernel,rfl,by decide+kernel,by decide+kernel⟩
theorem Mp:FnScope ["one","other"] ["one","other"] (aD vd):=⟨rfl,rfl,rfl,by decide+kernel,rfl,by decide+kernel,by decide+kernel⟩
theorem Mq:FnScope ["letters","doors"] ["letters","doors"] (aD vf):=⟨rfl,rfl,rfl,by decide+kernel,rfl,by decide+kernel,by decide+kernel⟩
theorem CK:FnScope ["font","house","letters"] ["font","house"] (aD vg):=⟨rfl,rfl,rfl,by decide+kernel,rfl,by decide+kernel,by decide+kernel⟩
theorem qF:FnScope ["font","over","costs","sign","columns","wide"] ["font","over"] (aD M7):=⟨rfl,rfl,rfl,by decide+kernel,rfl,by decide+kernel,by decide+kernel⟩
theorem lu:FnScope ["ways","texts","waiting","here","sign","columns","room"] ["ways"] (aD M8):=⟨rfl,rfl,rfl,by decide+kernel,rfl,by decide+kernel,by decide+kernel⟩
theorem Iv:FnScope ["way","ahead","over","wide"] ["way","ahead","over"] (aD M9):=⟨rfl,rfl,rfl,by decide+kernel,rfl,by decide+kernel,by decide+kernel⟩
theorem eG:FnScope ["font","ways","costs","sign","columns","found","room","place","later","way","stand"] ["font","ways"] (aD Cv):=⟨rfl,rfl,rfl,by decide+kernel,rfl,by decide+kernel,by decide+kernel⟩
theorem Mr:FnScope ["font","house"] ["font","house"] (aD vh):=⟨rfl,rfl,rfl,by decide+kernel,rfl,by decide+kernel,by decide+kernel⟩
theorem Qs:FnScope ["script","k"] ["script","k"] (aD Ma):=⟨rfl,rfl,rfl,by decide+kernel,rfl,by decide+kernel,by decide+kernel⟩
theorem Qt:FnScope ["found"] ["found"] (aD Mf):=⟨rfl,rfl,rfl,by decide+kernel,rfl,by decide+kernel,by decide+kernel⟩
theorem eO:FnScope ["cell","many","some","number","found","k","at"] ["cell","many"] (aD Cw):=⟨rfl,rfl,rfl,by decide+kernel,rfl,by decide+kernel,by decide+kernel⟩
theorem jg:FnScope ["script","many","most","height","alike","letters","k","cell","wide","number","columns"] ["script","many","most","height","alike"] (aD Hd):=⟨rfl,rfl,rfl,by decide+kernel,rfl,by decide+kernel,by decide+kernel⟩
theorem j5:FnScope ["script","way","height","many","alike","letters"] ["script"] (aD Cy):=⟨rfl,rfl,rfl,by decide+kernel,rfl,by decide+kernel,by decide+kernel⟩
theorem Ms:FnScope ["cell","many"] ["cell","many"] (aD Cz):=⟨rfl,rfl,rfl,by decide+kernel,rfl,by decide+kernel,by decide+kernel⟩
theorem gQ:FnScope ["script","signs","head","cell","many","doors","room","sign"] ["script","signs"] (aD tZ):=⟨rfl,rfl,rfl,by decide+kernel,rfl,by decide+kernel,by decide+kernel⟩
theorem mJ:FnScope ["one","other","many","k","left"] ["one","other"] (aD Mi):=⟨rfl,rfl,rfl,by decide+kernel,rfl,by decide+kernel,by decide+kernel⟩
theorem j6:FnScope ["house","pictures","rooms","at","sign","room"] ["house","pictures"] (aD CG):=⟨rfl,rfl,rfl,by decide+kernel,rfl,by decide+kernel,by decide+kernel⟩
theorem CN:FnScope ["one","other","x","y","cost"] ["one","other","x","y"] (aD CJ):=⟨rfl,rfl,rfl,by decide+kernel,rfl,by decide+kernel,by decide+kernel⟩
theorem gk:FnScope ["house","pictures","found","room","some","j","k","x","y"] ["house","pictures"] (aD vm):=⟨rfl,rfl,rfl,by decide+kernel,rfl,by decide+kernel,by decide+kernel⟩
theorem Iw:FnScope ["row","stand"] ["row"] (aD Hf):=⟨rfl,rfl,rfl,by decide+kernel,rfl,by decide+kernel,by decide+kernel⟩
theorem gm:FnScope ["script","height","letters","signs","house","font","found","due"] ["script"] (aD iI):=⟨rfl,rfl,rfl,by decide+kernel,rfl,by decide+kernel,by decide+kernel⟩
section
variable {P:Program} {w:World} {K:W.Frag} {mg:Str->Option Value} {base:Heap} {f:Addr} {fd:FuncData}
variable {aK0 aK1:Addr}
theorem Mt (F:Fun K "inked" "inked" Cr f fd):FnOk P w K mg base gH 1 f fd ["column"] (sp_f19 aK0 aK1 K):=by
 refine F.ok oH (fun vs H Q E h=>KQ h) (fun cdv A outer s H vs Q E hr h=> ?_)
 obtain ⟨Eh,h⟩:=KN h
 exact ⟨tD aK0 aK1 K E Eh,(az (aL (i:=1) oH.nd rfl (Or.inl rfl) aA)
   (az (ig Xj (bz xn (pv 0) aA (bJ _)) (az (aL (i:=0) oH.nd rfl (Or.inl rfl) (aM Je (pv 0) (aM qN (pv 0) aA)))
   (aB (J8 (i:=1) oH.nd rfl (Or.inl rfl) aA J9))))
   (aB (aY (pv 1))))),h⟩
theorem Mu (F:Fun K "apart" "apart" Cu f fd) (c_f19:Cal P w K mg base 1 "inked" ["column"] (sp_f19 aK0 aK1 K)):FnOk P w K mg base gH 2 f fd ["one","other"] (sp_f21 aK0 aK1 K):=by
 refine F.ok Mj (fun vs H Q E h=>KY h) (fun cdv A outer s H vs Q E hr h=> ?_)
 obtain ⟨Eh,h⟩:=KR h
 exact ⟨tE aK0 aK1 K E Eh,(aB (aY (b7 c_f19 hr (by decide) rfl (aa (aM xg (pv 0) (pv 1)) aq)))),h⟩
theorem Qu (F:Fun K "check_alike" "check_alike" M6 f fd) (z_len:mg "len"=none):FnOk P w K mg base gH 1 f fd ["one","other"] (sp_f5 aK0 aK1 K):=by
 refine F.ok Qq (fun vs H Q E h=>Q0 h) (fun cdv A outer s H vs Q E hr h=> ?_)
 obtain ⟨Eh,h⟩:=PX h
 exact ⟨Ay aK0 aK1 K E Eh,(aB (cP (bz xm (aJ (aP K rfl) rfl z_len (by decide+kernel) (aa (pv 0) aq)) (aJ (aP K rfl) rfl z_len (by decide+kernel) (aa (pv 1) aq)) (bJ _)) (aB wU) bH)),h⟩
theorem Mv (F:Fun K "gap" "gap" vd f fd) (c_f5:Cal P w K mg base 1 "check_alike" ["one","other"] (sp_f5 aK0 aK1 K)) (z_sum:mg "sum"=none) (z_zip:mg "zip"=none) (c_f21:Cal P w K mg base 2 "apart" ["one","other"] (sp_f21 aK0 aK1 K)):FnOk P w K mg base gH 3 f fd ["one","other"] (sp_f22 aK0 aK1 K):=by
 refine F.ok Mp (fun vs H Q E h=>La h) (fun cdv A outer s H vs Q E hr h=> ?_)
 obtain ⟨Eh,h⟩:=KZ h
 exact ⟨tG aK0 aK1 K E Eh,(az (dG (b7 c_f5 hr (by decide) rfl (aa (pv 0) (aa (pv 1) aq))))
   (aB (aY (aJ (vP K rfl rfl) rfl z_sum (by decide+kernel) (aa (fO [none,none] ["left","right"] rfl (yx K rfl rfl rfl z_zip (aa (pv 0) (aa (pv 1) aq))) (show CScope (aD vd) _ from ⟨rfl,by decide+kernel,by decide+kernel,by decide+kernel⟩) (show capOk [none,none] ["left","right"] (["one","other"]:List Str) _=true from by decide+kernel) (fun _ _ _ _ _ _=>(dR K rfl rfl (bx (aN (i:=0) (show List.Nodup (["left","right"]:List Str) by decide+kernel) rfl (Or.inl rfl)) (bx (aN (i:=1) (show List.Nodup (["left","right"]:List Str) by decide+kernel) rfl (Or.inl rfl)) dH)))) (fun _ _ _ _ _ _=>cD) (fun _ _ _ _ _ _=>(b7 c_f21 hr (by decide) rfl (aa (pv 0) (aa (pv 1) aq))))) aq))))),h⟩
theorem Mw (F:Fun K "lettered" "lettered" vf f fd):FnOk P w K mg base gH 1 f fd ["letters","doors"] (sp_f16 aK0 aK1 K):=by
 refine F.ok Mq (fun vs H Q E h=>Ld h) (fun cdv A outer s H vs Q E hr h=> ?_)
 obtain ⟨Eh,h⟩:=Lb h
 exact ⟨tH aK0 aK1 K E Eh,(aB (aY (fO [none,none,some 0] ["sign","room","letters"] rfl (fc K rfl (pv 1)) (show CScope (aD vf) _ from ⟨rfl,by decide+kernel,by decide+kernel,by decide+kernel⟩) (show capOk [none,none,some 0] ["sign","room","letters"] (["letters","doors"]:List Str) _=true from by decide+kernel) (fun _ _ _ _ _ _=>(dR K rfl rfl (bx (aN (i:=0) (show List.Nodup (["sign","room","letters"]:List Str) by decide+kernel) rfl (Or.inl rfl)) (bx (aN (i:=1) (show List.Nodup (["sign","room","letters"]:List Str) by decide+kernel) rfl (Or.inl rfl)) dH)))) (fun _ _ _ _ _ _=>uo (mL (qZ (eU hr) (pv 0) (pv 2)) (by with_unfolding_all rfl))) (fun _ _ _ _ _ _=>(bC (aa (pv 0) (aa (gq (eU hr) (pv 2) (pv 0) (fun _ _=>rfl)) (aa (pv 1) aq)))))))),h⟩
theorem Mx (F:Fun K "ways_of" "ways_of" vg f fd) (z_dict:mg "dict"=none) (c_f16:Cal P w K mg base 1 "lettered" ["letters","doors"] (sp_f16 aK0 aK1 K)):FnOk P w K mg base gH 2 f fd ["font","house"] (sp_f17 aK0 aK1 K):=by
 refine F.ok CK (fun vs H Q E h=>Lf h) (fun cdv A outer s H vs Q E hr h=> ?_)
 obtain ⟨Eh,h⟩:=Le h
 exact ⟨tK aK0 aK1 K E Eh,(az (aL (i:=2) CK.nd rfl (Or.inr rfl) (d9 (iu K rfl rfl) rfl z_dict (by decide+kernel) (aa (aV (aU K rfl) (pv 0) aA (fun _ _=>rfl)) aq)))
   (aB (aY (fO [none,some 2] ["doors","letters"] rfl (fc K rfl (aV (aU K rfl) (pv 1) aA (fun _ _=>rfl))) (show CScope (aD vg) _ from ⟨rfl,by decide+kernel,by decide+kernel,by decide+kernel⟩) (show capOk [none,some 2] ["doors","letters"] (["font","house","letters"]:List Str) _=true from by decide+kernel) (fun _ _ _ _ _ _=>(aN (i:=0) (show List.Nodup (["doors","letters"]:List Str) by decide+kernel) rfl (Or.inl rfl))) (fun _ _ _ _ _ _=>cD) (fun _ _ _ _ _ _=>(b7 c_f16 hr (by decide) rfl (aa (pv 1) (aa (pv 0) aq)))))))),h⟩
theorem Qv (F:Fun K "costs_over" "costs_over" M7 f fd) (z_min:mg "min"=none) (z_len:mg "len"=none) (c_f22:Cal P w K mg base 3 "gap" ["one","other"] (sp_f22 aK0 aK1 K)):FnOk P w K mg base gH 4 f fd ["font","over"] (sp_f6 aK0 aK1 K):=by
 refine F.ok qF (fun vs H Q E h=>Q4 h) (fun cdv A outer s H vs Q E hr h=> ?_)
 obtain ⟨Eh,h⟩:=Q3 h
 exact ⟨Ba aK0 aK1 K E Eh,(az (aL (i:=2) qF.nd rfl (Or.inl rfl) ph)
   (az (bZ Xj rfl (fc K rfl (aV (aU K rfl) (pv 0) aA (fun _ _=>rfl))) (dR K rfl rfl (bx (aN (i:=3) qF.nd rfl (Or.inl rfl)) (bx (aN (i:=4) qF.nd rfl (Or.inl rfl)) dH))) (az (aL (i:=5) qF.nd rfl (Or.inl rfl) (aJ (lK rfl) rfl z_min (by decide+kernel) (aa (aJ (aP K rfl) rfl z_len (by decide+kernel) (aa (pv 4) aq)) (aa (aJ (aP K rfl) rfl z_len (by decide+kernel) (aa (pv 1) aq)) aq))))
   (aB (mW (eU hr) (pv 2) (pv 3) (b7 c_f22 hr (by decide) rfl (aa (bN (dw K rfl) (pv 4) cJ (bY (pv 5))) (aa (bN (dw K rfl) (pv 1) cJ (bY (pv 5))) aq))) rfl))))
   (aB (aY (pv 2))))),h⟩
theorem Qw (F:Fun K "texts_to_rooms" "texts_to_rooms" M8 f fd) (z_len:mg "len"=none):FnOk P w K mg base gH 1 f fd ["ways"] (sp_f0 aK0 aK1 K):=by
 refine F.ok lu (fun vs H Q E h=>Q6 h) (fun cdv A outer s H vs Q E hr h=> ?_)
 obtain ⟨Eh,h⟩:=Q5 h
 exact ⟨Bd aK0 aK1 K E Eh,(az (aL (i:=1) lu.nd rfl (Or.inl rfl) (DN (xT aA qI DK) rfl rfl (by simp) (by decide)))
   (az (aL (i:=2) lu.nd rfl (Or.inl rfl) (dX (aa aA aq)))
   (az (ig Xj (bz xn (aJ (aP K rfl) rfl z_len (by decide+kernel) (aa (pv 2) aq)) aA (bJ _)) (az (aL (i:=3) lu.nd rfl (Or.inl rfl) (fQ K rfl Wh PySem.F.slot_list_pop PySem.F.type_list_pop xM (pv 2) (aa aA aq)))
   (aB (bZ Xj rfl (cR K rfl (aV (bj K rfl) (pv 0) (pv 3) (fun _ _=>rfl))) (dR K rfl rfl (bx (aN (i:=4) lu.nd rfl (Or.inl rfl)) (bx (aN (i:=5) lu.nd rfl (Or.inl rfl)) (bx (aN (i:=6) lu.nd rfl (Or.inl rfl)) dH)))) (aB (cP (mL (vN (eU hr) (pv 6) (pv 1)) (by with_unfolding_all rfl)) (az (mW (eU hr) (pv 1) (pv 6) (aM gR (gq (eU hr) (pv 1) (pv 3) (fun _ _=>rfl)) (pv 4)) rfl)
   (aB (dG (fQ K rfl Wh Wq Wr cH (pv 2) (aa (pv 6) aq))))) bH))))))
   (aB (aY (pv 1)))))),h⟩
theorem Qx (F:Fun K "stand_behind" "stand_behind" M9 f fd) (z_len:mg "len"=none):FnOk P w K mg base gH 1 f fd ["way","ahead","over"] (sp_f3 aK0 aK1 K):=by
 refine F.ok Iv (fun vs H Q E h=>Q8 h) (fun cdv A outer s H vs Q E hr h=> ?_)
 obtain ⟨Eh,h⟩:=Q7 h
 exact ⟨Be aK0 aK1 K E Eh,(az (aL (i:=3) Iv.nd rfl (Or.inl rfl) (aJ (aP K rfl) rfl z_len (by decide+kernel) (aa (aV (aU K rfl) (pv 0) aA (fun _ _=>rfl)) aq)))
   (az (cP (bz Hh (pv 3) (aJ (aP K rfl) rfl z_len (by decide+kernel) (aa (pv 2) aq)) (bJ _)) (aB (aY (bC (aa (aV (aU K rfl) (pv 0) aA (fun _ _=>rfl)) (aa (pv 1) (aa (bN (dw K rfl) (pv 2) (bY (pv 3)) cJ) aq)))))) bH)
   (aB (aY (bC (aa (pv 1) (aa (aV (aU K rfl) (pv 0) aA (fun _ _=>rfl)) (aa (bN (dw K rfl) (aV (aU K rfl) (pv 0) aA (fun _ _=>rfl)) (bY (aJ (aP K rfl) rfl z_len (by decide+kernel) (aa (pv 2) aq))) cJ) aq)))))))),h⟩
theorem My (F:Fun K "forks" "forks" Cv f fd) (c_f6:Cal P w K mg base 4 "costs_over" ["font","over"] (sp_f6 aK0 aK1 K)) (c_f0:Cal P w K mg base 1 "texts_to_rooms" ["ways"] (sp_f0 aK0 aK1 K)) (z_enumerate:mg "enumerate"=none) (c_f3:Cal P w K mg base 1 "stand_behind" ["way","ahead","over"] (sp_f3 aK0 aK1 K)):FnOk P w K mg base gH 5 f fd ["font","ways"] (sp_f20 aK0 aK1 K):=by
 refine F.ok eG (fun vs H Q E h=>Lh h) (fun cdv A outer s H vs Q E hr h=> ?_)
 obtain ⟨Eh,h⟩:=Lg h
 exact ⟨tM aK0 aK1 K E Eh,(az (aL (i:=2) eG.nd rfl (Or.inl rfl) ph)
   (az (bZ Xj rfl (fc K rfl (aV (aU K rfl) (pv 0) aA (fun _ _=>rfl))) (dR K rfl rfl (bx (aN (i:=3) eG.nd rfl (Or.inl rfl)) (bx (aN (i:=4) eG.nd rfl (Or.inl rfl)) dH))) (aB (mW (eU hr) (pv 2) (pv 3) (b7 c_f6 hr (by decide) rfl (aa (pv 0) (aa (pv 4) aq))) rfl)))
   (az (aL (i:=5) eG.nd rfl (Or.inl rfl) (dX aq))
   (az (bZ Xj rfl (yw (b7 c_f0 hr (by decide) rfl (aa (pv 1) aq))) (aN (i:=6) eG.nd rfl (Or.inl rfl)) (aB (bZ Xj rfl (yh K rfl rfl rfl z_enumerate (aa (aV (bj K rfl) (pv 1) (pv 6) (fun _ _=>rfl)) aq)) (dR K rfl rfl (bx (aN (i:=7) eG.nd rfl (Or.inl rfl)) (bx (aN (i:=8) eG.nd rfl (Or.inl rfl)) dH))) (aB (bZ Xj rfl (cR K rfl (bN (pA K rfl) (aV (bj K rfl) (pv 1) (pv 6) (fun _ _=>rfl)) cJ (bY (pv 7)))) (aN (i:=9) eG.nd rfl (Or.inl rfl)) (az (aL (i:=10) eG.nd rfl (Or.inl rfl) (b7 c_f3 hr (by decide) rfl (aa (pv 9) (aa (aV (aU K rfl) (pv 8) aA (fun _ _=>rfl)) (aa (aV (aU K rfl) (pv 8) aA (fun _ _=>rfl)) aq)))))
   (aB (dG (fQ K rfl Wh Wq Wr cH (pv 5) (aa (bC (aa (gq (eU hr) (gq (eU hr) (pv 2) (aV (aU K rfl) (pv 8) aA (fun _ _=>rfl)) (fun _ _=>rfl)) (aV (aU K rfl) (pv 9) aA (fun _ _=>rfl)) (fun _ _=>rfl)) (aa (pv 10) (aa (pv 6) (aa (pv 9) (aa (pv 8) aq)))))) aq))))))))))
   (aB (aY (pv 5))))))),h⟩
theorem Mz (F:Fun K "begins" "begins" vh f fd) (c_f17:Cal P w K mg base 2 "ways_of" ["font","house"] (sp_f17 aK0 aK1 K)) (c_f20:Cal P w K mg base 5 "forks" ["font","ways"] (sp_f20 aK0 aK1 K)) (z_sorted:mg "sorted"=none) (z_set:mg "set"=none):FnOk P w K mg base gH 6 f fd ["font","house"] (sp_f18 aK0 aK1 K):=by
 refine F.ok Mr (fun vs H Q E h=>Lj h) (fun cdv A outer s H vs Q E hr h=> ?_)
 obtain ⟨Eh,h⟩:=Li h
 exact ⟨tO aK0 aK1 K E Eh,(aB (aY (nU K rfl rfl (G5 hr) rfl z_sorted rfl z_set (aa (fO [none] ["fork"] rfl (cR K rfl (b7 c_f20 hr (by decide) rfl (aa (pv 0) (aa (b7 c_f17 hr (by decide) rfl (aa (pv 0) (aa (pv 1) aq))) aq)))) (show CScope (aD vh) _ from ⟨rfl,by decide+kernel,by decide+kernel,by decide+kernel⟩) (show capOk [none] ["fork"] (["font","house"]:List Str) _=true from by decide+kernel) (fun _ _ _ _ _ _=>(aN (i:=0) (show List.Nodup (["fork"]:List Str) by decide+kernel) rfl (Or.inl rfl))) (fun _ _ _ _ _ _=>cD) (fun _ _ _ _ _ _=>(bN (dw K rfl) (pv 0) cJ (bY aA)))) aq)))),h⟩
theorem Qy (F:Fun K "_law_cell_at" "_law_cell_at" Ma f fd) (z_len:mg "len"=none):FnOk P w K mg base gH 1 f fd ["script","k"] (sp_f1 aK0 aK1 K):=by
 refine F.ok Qs (fun vs H Q E h=>Qc h) (fun cdv A outer s H vs Q E hr h=> ?_)
 obtain ⟨Eh,h⟩:=Qa h
 exact ⟨Bo aK0 aK1 K E Eh,(az (cP (bz Hg (pv 1) (aJ (aP K rfl) rfl z_len (by decide+kernel) (aa (pv 0) aq)) (bJ _)) (aB (aY (aV (bj K rfl) (pv 0) (pv 1) (fun _ _=>rfl)))) bH)
   (aB (aY aA))),h⟩
theorem Qz (F:Fun K "_law_whole" "_law_whole" Mf f fd) (z_isinstance:mg "isinstance"=none) (z_bool:mg "bool"=none) (z_int:mg "int"=none):FnOk P w K mg base gH 1 f fd ["found"] (sp_f8 aK0 aK1 K):=by
 refine F.ok Qt (fun vs H Q E h=>Qe h) (fun cdv A outer s H vs Q E hr h=> ?_)
 obtain ⟨Eh,h⟩:=Qd h
 exact ⟨Bp aK0 aK1 K E Eh,(aB (aY (J3 (aJ (bR K rfl) rfl z_isinstance (by decide+kernel) (aa (pv 0) (aa (gn (v:= .ty "int") (u:= .type "int") rfl z_int (by decide+kernel) rfl) aq))) (J2 (J4 (aJ (bR K rfl) rfl z_isinstance (by decide+kernel) (aa (pv 0) (aa (gn (v:= .ty "bool") (u:= .type "bool") rfl z_bool (by decide+kernel) rfl) aq)))))))),h⟩
theorem MF (F:Fun K "_law_signs" "_law_signs" Cw f fd) (z_range:mg "range"=none) (z_len:mg "len"=none):FnOk P w K mg base gH 1 f fd ["cell","many"] (sp_f10 aK0 aK1 K):=by
 refine F.ok eO (fun vs H Q E h=>Lp h) (fun cdv A outer s H vs Q E hr h=> ?_)
 obtain ⟨Eh,h⟩:=Ln h
 exact ⟨tQ aK0 aK1 K E Eh,(az (aL (i:=2) eO.nd rfl (Or.inl rfl) qI)
   (az (aL (i:=2) eO.nd rfl (Or.inl rfl) (aM gR (pv 2) qI))
   (az (aL (i:=3) eO.nd rfl (Or.inl rfl) (aM bV (pv 0) aA))
   (az (cP (bz ju (aM bB (pv 0) aA) aA (bJ _)) (aB (aL (i:=3) eO.nd rfl (Or.inl rfl) (aM cC (aM uz (pv 3) (aM xf aA aA)) aA))) bH)
   (az (aL (i:=4) eO.nd rfl (Or.inl rfl) (dX aq))
   (az (bZ Xj rfl (bK rfl z_range (aa (pv 1) aq)) (aN (i:=5) eO.nd rfl (Or.inl rfl)) (az (aL (i:=6) eO.nd rfl (Or.inl rfl) (aM bB (pv 3) (aJ (aP K rfl) rfl z_len (by decide+kernel) (aa (pv 2) aq))))
   (az (aL (i:=3) eO.nd rfl (Or.inl rfl) (aM bV (pv 3) (aJ (aP K rfl) rfl z_len (by decide+kernel) (aa (pv 2) aq))))
   (az (dG (fQ K rfl Wh Wq Wr cH (pv 4) (aa (aV Jo (pv 2) (pv 6) (fun _ _=>rfl)) aq)))
   (aB (aL (i:=2) eO.nd rfl (Or.inl rfl) (aM gR (bN yg (pv 2) cJ (bY (pv 6))) (bN yg (pv 2) (bY (aM cC (pv 6) aA)) cJ))))))))
   (aB (aY (pv 4))))))))),h⟩
theorem QB (F:Fun K "_law_letters" "_law_letters" Hd f fd) (z_range:mg "range"=none) (c_f1:Cal P w K mg base 1 "_law_cell_at" ["script","k"] (sp_f1 aK0 aK1 K)) (z_tuple:mg "tuple"=none):FnOk P w K mg base gH 2 f fd ["script","many","most","height","alike"] (sp_f2 aK0 aK1 K):=by
 refine F.ok jg (fun vs H Q E h=>Qg h) (fun cdv A outer s H vs Q E hr h=> ?_)
 obtain ⟨Eh,h⟩:=Qf h
 exact ⟨Bt aK0 aK1 K E Eh,(az (aL (i:=5) jg.nd rfl (Or.inl rfl) (dX aq))
   (az (bZ Xj rfl (bK rfl z_range (aa (pv 1) aq)) (aN (i:=6) jg.nd rfl (Or.inl rfl)) (az (aL (i:=7) jg.nd rfl (Or.inl rfl) (b7 c_f1 hr (by decide) rfl (aa (pv 0) (aa (aM cC aA (pv 6)) aq))))
   (az (aL (i:=8) jg.nd rfl (Or.inl rfl) (aM cC aA (aM bB (pv 7) (pv 2))))
   (az (aL (i:=9) jg.nd rfl (Or.inr rfl) (aM bB (aM uz (aM cC (aM bV (pv 7) (pv 2)) (pv 6)) (aM xf aA aA)) (aM qO aA (aM wZ (pv 3) (pv 8)))))
   (az (aL (i:=10) jg.nd rfl (Or.inl rfl) (d9 (dq K rfl) rfl z_tuple (by decide+kernel) (aa (fO [none,some 9,some 3] ["j","number","height"] rfl (bK rfl z_range (aa (pv 8) aq)) (show CScope (aD Hd) _ from ⟨rfl,by decide+kernel,by decide+kernel,by decide+kernel⟩) (show capOk [none,some 9,some 3] ["j","number","height"] (["script","many","most","height","alike","letters","k","cell","wide","number","columns"]:List Str) _=true from by decide+kernel) (fun _ _ _ _ _ _=>(aN (i:=0) (show List.Nodup (["j","number","height"]:List Str) by decide+kernel) rfl (Or.inl rfl))) (fun _ _ _ _ _ _=>cD) (fun _ _ _ _ _ _=>(aM bB (aM yW (pv 1) (aM qO aA (aM wZ (pv 2) (pv 0)))) (aM qO aA (pv 2))))) aq)))
   (az (cP (PW.pt (wN (cI K rfl (pv 4) (fun _=>rfl)) (u5 (bz ju (aM bB (pv 6) aA) aA (bJ _))))) (aB (aL (i:=10) jg.nd rfl (Or.inl rfl) (aV (bj K rfl) (pv 5) (aM qN (pv 6) aA) (fun _ _=>rfl)))) bH)
   (aB (dG (fQ K rfl Wh Wq Wr cH (pv 5) (aa (pv 10) aq))))))))))
   (aB (aY (pv 5))))),h⟩
theorem MJ (F:Fun K "_law_font" "_law_font" Cy f fd) (c_f1:Cal P w K mg base 1 "_law_cell_at" ["script","k"] (sp_f1 aK0 aK1 K)) (c_f2:Cal P w K mg base 2 "_law_letters" ["script","many","most","height","alike"] (sp_f2 aK0 aK1 K)):FnOk P w K mg base gH 3 f fd ["script"] (sp_f14 aK0 aK1 K):=by
 refine F.ok j5 (fun vs H Q E h=>Lr h) (fun cdv A outer s H vs Q E hr h=> ?_)
 obtain ⟨Eh,h⟩:=Lq h
 exact ⟨tR aK0 aK1 K E Eh,(az (aL (i:=1) j5.nd rfl (Or.inl rfl) (aM bB (b7 c_f1 hr (by decide) rfl (aa (pv 0) (aa aA aq))) aA))
   (az (aL (i:=2) j5.nd rfl (Or.inl rfl) (aM cC aA (aM bB (b7 c_f1 hr (by decide) rfl (aa (pv 0) (aa aA aq))) (aV (bj K rfl) (dX (aa aA (aa aA (aa aA (aa aA aq))))) (pv 1) (fun _ _=>rfl)))))
   (az (aL (i:=3) j5.nd rfl (Or.inl rfl) (aM cC aA (aM bB (b7 c_f1 hr (by decide) rfl (aa (pv 0) (aa aA aq))) (aV (bj K rfl) (dX (aa aA (aa aA (aa aA (aa aA aq))))) (pv 1) (fun _ _=>rfl)))))
   (az (aL (i:=4) j5.nd rfl (Or.inl rfl) (ue ju (aM bB (aM bV (b7 c_f1 hr (by decide) rfl (aa (pv 0) (aa aA aq))) aA) aA) aA (bJ _)))
   (az (aL (i:=5) j5.nd rfl (Or.inl rfl) (b7 c_f2 hr (by decide) rfl (aa (pv 0) (aa (pv 3) (aa (aV (bj K rfl) (dX (aa aA (aa aA (aa aA (aa aA aq))))) (pv 1) (fun _ _=>rfl)) (aa (pv 2) (aa (pv 4) aq)))))))
   (aB (aY (bC (aa (pv 2) (aa (pv 5) aq)))))))))),h⟩
theorem MK (F:Fun K "_law_ends" "_law_ends" Cz f fd) (z_tuple:mg "tuple"=none) (z_range:mg "range"=none):FnOk P w K mg base gH 1 f fd ["cell","many"] (sp_f13 aK0 aK1 K):=by
 refine F.ok Ms (fun vs H Q E h=>Lw h) (fun cdv A outer s H vs Q E hr h=> ?_)
 obtain ⟨Eh,h⟩:=Ls h
 exact ⟨tU aK0 aK1 K E Eh,(az (cP (bz ju (aM bB (pv 0) aA) aA (bJ _)) (aB (aY (bC aq))) bH)
   (az (cP (bz ju (aM bB (pv 0) aA) aA (bJ _)) (aB (aY (bC (aa (aM bB (aM bV (pv 0) aA) (pv 1)) aq)))) bH)
   (aB (aY (Em rfl rfl z_tuple rfl z_range (pv 1)))))),h⟩
theorem QC (F:Fun K "_law_house" "_law_house" tZ f fd) (c_f1:Cal P w K mg base 1 "_law_cell_at" ["script","k"] (sp_f1 aK0 aK1 K)) (z_range:mg "range"=none) (z_len:mg "len"=none) (z_tuple:mg "tuple"=none) (z_sorted:mg "sorted"=none) (c_f13:Cal P w K mg base 1 "_law_ends" ["cell","many"] (sp_f13 aK0 aK1 K)):FnOk P w K mg base gH 2 f fd ["script","signs"] (sp_f7 aK0 aK1 K):=by
 refine F.ok gQ (fun vs H Q E h=>Qi h) (fun cdv A outer s H vs Q E hr h=> ?_)
 obtain ⟨Eh,h⟩:=Qh h
 exact ⟨BJ aK0 aK1 K E Eh,(az (aL (i:=2) gQ.nd rfl (Or.inl rfl) (aM bV (b7 c_f1 hr (by decide) rfl (aa (pv 0) (aa aA aq))) aA))
   (az (aL (i:=3) gQ.nd rfl (Or.inl rfl) (b7 c_f1 hr (by decide) rfl (aa (pv 0) (aa aA aq))))
   (az (aL (i:=4) gQ.nd rfl (Or.inr rfl) (aM cC aA (aM bB (aM bV (pv 3) aA) (aV (bj K rfl) (dX (aa aA (aa aA aq))) (aM bB (pv 3) aA) (fun _ _=>rfl)))))
   (az (cP (bz ju (aM bB (pv 2) aA) aA (bJ _)) (aB (aL (i:=4) gQ.nd rfl (Or.inr rfl) (aM cC aA (aM bB (pv 3) aA)))) bH)
   (az (Hl (i:=5) [none] ["k"] rfl gQ.nd rfl rfl (bK rfl z_range (aa (pv 4) aq)) (show CScope (aD tZ) _ from ⟨rfl,by decide+kernel,by decide+kernel,by decide+kernel⟩) (show capOk [none] ["k"] (["script","signs","head","cell","many","doors","room","sign"]:List Str) _=true from by decide+kernel) (fun _ _ _ _ _ _=>(aN (i:=0) (show List.Nodup (["k"]:List Str) by decide+kernel) rfl (Or.inl rfl))) (fun _ _ _ _ _ _=>cD) (fun _ _ _ _ _ _=>(dX aq)))
   (az (cP (bz ju (aM bB (pv 2) aA) aA (bJ _)) (aB (bZ Xj rfl (bK rfl z_range (aa (pv 4) aq)) (aN (i:=6) gQ.nd rfl (Or.inr rfl)) (aB (qK (fO [none,some 1,some 6,some 4] ["k","signs","room","many"] rfl (bK rfl z_range (aa (aM qN (aJ (aP K rfl) rfl z_len (by decide+kernel) (aa (pv 1) aq)) aA) aq)) (show CScope (aD tZ) _ from ⟨rfl,by decide+kernel,by decide+kernel,by decide+kernel⟩) (show capOk [none,some 1,some 6,some 4] ["k","signs","room","many"] (["script","signs","head","cell","many","doors","room","sign"]:List Str) _=true from by decide+kernel) (fun _ _ _ _ _ _=>(aN (i:=0) (show List.Nodup (["k","signs","room","many"]:List Str) by decide+kernel) rfl (Or.inl rfl))) (fun _ _ _ _ _ _=>cD) (fun _ _ _ _ _ _=>(bC (aa (aV (bj K rfl) (pv 1) (pv 0) (fun _ _=>rfl)) (aa (aM bB (aM cC (aM cC (pv 2) (pv 0)) aA) (pv 3)) aq))))) (wW (pv 5) (pv 6) set_list))))) bH)
   (az (bZ Xj rfl (cR K rfl (bN (pA K rfl) (pv 0) (bY aA) (bY aA))) (aN (i:=3) gQ.nd rfl (Or.inl rfl)) (az (aL (i:=6) gQ.nd rfl (Or.inr rfl) (aM bB (pv 3) (pv 4)))
   (az (aL (i:=7) gQ.nd rfl (Or.inl rfl) (aV (bj K rfl) (pv 1) (aM bB (aM bV (pv 3) (pv 4)) (aJ (aP K rfl) rfl z_len (by decide+kernel) (aa (pv 1) aq))) (fun _ _=>rfl)))
   (aB (cP (bz (gP K rfl) (pv 7) (fO [none] ["pair"] rfl (cR K rfl (aV (bj K rfl) (pv 5) (pv 6) (fun _ _=>rfl))) (show CScope (aD tZ) _ from ⟨rfl,by decide+kernel,by decide+kernel,by decide+kernel⟩) (show capOk [none] ["pair"] (["script","signs","head","cell","many","doors","room","sign"]:List Str) _=true from by decide+kernel) (fun _ _ _ _ _ _=>(aN (i:=0) (show List.Nodup (["pair"]:List Str) by decide+kernel) rfl (Or.inl rfl))) (fun _ _ _ _ _ _=>cD) (fun _ _ _ _ _ _=>(aV (aU K rfl) (pv 0) aA (fun _ _=>rfl)))) (by with_unfolding_all rfl)) (aB (dG (fQ K rfl Wh Wq Wr cH (aV (bj K rfl) (pv 5) (pv 6) (fun _ _=>rfl)) (aa (bC (aa (pv 7) (aa (aM bB (aM bV (aM bV (pv 3) (pv 4)) (aJ (aP K rfl) rfl z_len (by decide+kernel) (aa (pv 1) aq))) (pv 4)) aq))) aq)))) bH)))))
   (aB (aY (bC (aa (d9 (dq K rfl) rfl z_tuple (by decide+kernel) (aa (fO [none] ["pairs"] rfl (cR K rfl (pv 5)) (show CScope (aD tZ) _ from ⟨rfl,by decide+kernel,by decide+kernel,by decide+kernel⟩) (show capOk [none] ["pairs"] (["script","signs","head","cell","many","doors","room","sign"]:List Str) _=true from by decide+kernel) (fun _ _ _ _ _ _=>(aN (i:=0) (show List.Nodup (["pairs"]:List Str) by decide+kernel) rfl (Or.inl rfl))) (fun _ _ _ _ _ _=>cD) (fun _ _ _ _ _ _=>(d9 (dq K rfl) rfl z_tuple (by decide+kernel) (aa (aJ (j9 K rfl) rfl z_sorted (by decide+kernel) (aa (pv 0) aq)) aq)))) aq)) (aa (b7 c_f13 hr (by decide) rfl (aa (aM bV (pv 2) aA) (aa (pv 4) aq))) aq)))))))))))),h⟩
theorem QD (F:Fun K "_law_spots" "_law_spots" Mi f fd) (z_min:mg "min"=none) (z_len:mg "len"=none) (z_range:mg "range"=none):FnOk P w K mg base gH 1 f fd ["one","other"] (sp_f9 aK0 aK1 K):=by
 refine F.ok mJ (fun vs H Q E h=>Qk h) (fun cdv A outer s H vs Q E hr h=> ?_)
 obtain ⟨Eh,h⟩:=Qj h
 exact ⟨BK aK0 aK1 K E Eh,(az (aL (i:=2) mJ.nd rfl (Or.inl rfl) aA)
   (az (bZ Xj rfl (bK rfl z_range (aa (aJ (lK rfl) rfl z_min (by decide+kernel) (aa (aJ (aP K rfl) rfl z_len (by decide+kernel) (aa (pv 0) aq)) (aa (aJ (aP K rfl) rfl z_len (by decide+kernel) (aa (pv 1) aq)) aq))) aq)) (aN (i:=3) mJ.nd rfl (Or.inl rfl)) (az (aL (i:=4) mJ.nd rfl (Or.inl rfl) (aM xg (aV (aU K rfl) (pv 0) (pv 3) (fun _ _=>rfl)) (aV (aU K rfl) (pv 1) (pv 3) (fun _ _=>rfl))))
   (aB (ig Xj (bz xn (pv 4) aA (bJ _)) (az (aL (i:=2) mJ.nd rfl (Or.inl rfl) (aM cC (pv 2) (aM bB (pv 4) aA)))
   (aB (aL (i:=4) mJ.nd rfl (Or.inl rfl) (aM bV (pv 4) aA))))))))
   (aB (aY (pv 2))))),h⟩
theorem MN (F:Fun K "_law_rooms" "_law_rooms" CG f fd) (z_len:mg "len"=none):FnOk P w K mg base gH 1 f fd ["house","pictures"] (sp_f12 aK0 aK1 K):=by
 refine F.ok j6 (fun vs H Q E h=>Ly h) (fun cdv A outer s H vs Q E hr h=> ?_)
 obtain ⟨Eh,h⟩:=Lx h
 exact ⟨tV aK0 aK1 K E Eh,(az (aL (i:=2) j6.nd rfl (Or.inl rfl) (dX (aa aA aq)))
   (az (aL (i:=3) j6.nd rfl (Or.inl rfl) aA)
   (az (ig Xj (bz Hg (pv 3) (aJ (aP K rfl) rfl z_len (by decide+kernel) (aa (pv 2) aq)) (bJ _)) (az (bZ Xj rfl (fc K rfl (aV (aU K rfl) (aV (aU K rfl) (pv 0) aA (fun _ _=>rfl)) (aV (bj K rfl) (pv 2) (pv 3) (fun _ _=>rfl)) (fun _ _=>rfl))) (dR K rfl rfl (bx (aN (i:=4) j6.nd rfl (Or.inl rfl)) (bx (aN (i:=5) j6.nd rfl (Or.inl rfl)) dH))) (aB (cP (PW.pt (wN (mL (qZ (eU hr) (pv 4) (pv 1)) (by with_unfolding_all rfl)) (u5 (bz (gP K rfl) (pv 5) (pv 2) (by with_unfolding_all rfl))))) (aB (dG (fQ K rfl Wh Wq Wr cH (pv 2) (aa (pv 5) aq)))) bH)))
   (aB (aL (i:=3) j6.nd rfl (Or.inl rfl) (aM cC (pv 3) aA)))))
   (aB (aY (pv 2)))))),h⟩
theorem MP (F:Fun K "_law_begin" "_law_begin" CJ f fd) (c_f9:Cal P w K mg base 1 "_law_spots" ["one","other"] (sp_f9 aK0 aK1 K)) (z_len:mg "len"=none):FnOk P w K mg base gH 2 f fd ["one","other","x","y"] (sp_f11 aK0 aK1 K):=by
 refine F.ok CN (fun vs H Q E h=>LK h) (fun cdv A outer s H vs Q E hr h=> ?_)
 obtain ⟨Eh,h⟩:=LC h
 exact ⟨tW aK0 aK1 K E Eh,(az (aL (i:=4) CN.nd rfl (Or.inl rfl) (b7 c_f9 hr (by decide) rfl (aa (pv 0) (aa (pv 1) aq))))
   (az (cP (bz Hh (aJ (aP K rfl) rfl z_len (by decide+kernel) (aa (pv 0) aq)) (aJ (aP K rfl) rfl z_len (by decide+kernel) (aa (pv 1) aq)) (bJ _)) (aB (aY (bC (aa (pv 4) (aa (bC (aa (pv 2) (aa (pv 3) (aa (bN (dw K rfl) (pv 1) (bY (aJ (aP K rfl) rfl z_len (by decide+kernel) (aa (pv 0) aq))) cJ) aq)))) aq))))) bH)
   (aB (aY (bC (aa (pv 4) (aa (bC (aa (pv 3) (aa (pv 2) (aa (bN (dw K rfl) (pv 0) (bY (aJ (aP K rfl) rfl z_len (by decide+kernel) (aa (pv 1) aq))) cJ) aq)))) aq))))))),h⟩
theorem MT (F:Fun K "_law_due" "_law_due" vm f fd) (c_f12:Cal P w K mg base 1 "_law_rooms" ["house","pictures"] (sp_f12 aK0 aK1 K)) (z_len:mg "len"=none) (z_range:mg "range"=none) (c_f11:Cal P w K mg base 2 "_law_begin" ["one","other","x","y"] (sp_f11 aK0 aK1 K)) (z_sorted:mg "sorted"=none):FnOk P w K mg base gH 3 f fd ["house","pictures"] (sp_f15 aK0 aK1 K):=by
 refine F.ok gk (fun vs H Q E h=>LR h) (fun cdv A outer s H vs Q E hr h=> ?_)
 obtain ⟨Eh,h⟩:=LQ h
 exact ⟨tX aK0 aK1 K E Eh,(az (aL (i:=2) gk.nd rfl (Or.inl rfl) FZ)
   (az (bZ Xj rfl (cR K rfl (b7 c_f12 hr (by decide) rfl (aa (pv 0) (aa (pv 1) aq)))) (aN (i:=3) gk.nd rfl (Or.inl rfl)) (az (Hl (i:=4) [none,some 1] ["pair","pictures"] rfl gk.nd rfl rfl (fc K rfl (aV (aU K rfl) (aV (aU K rfl) (pv 0) aA (fun _ _=>rfl)) (pv 3) (fun _ _=>rfl))) (show CScope (aD vm) _ from ⟨rfl,by decide+kernel,by decide+kernel,by decide+kernel⟩) (show capOk [none,some 1] ["pair","pictures"] (["house","pictures","found","room","some","j","k","x","y"]:List Str) _=true from by decide+kernel) (fun _ _ _ _ _ _=>(aN (i:=0) (show List.Nodup (["pair","pictures"]:List Str) by decide+kernel) rfl (Or.inl rfl))) (fun _ _ _ _ _ _=>uo (mL (qZ (eU hr) (aV (aU K rfl) (pv 0) aA (fun _ _=>rfl)) (pv 1)) (by with_unfolding_all rfl))) (fun _ _ _ _ _ _=>(pv 0)))
   (aB (bZ Xj rfl (bK rfl z_range (aa (aJ (aP K rfl) rfl z_len (by decide+kernel) (aa (pv 4) aq)) aq)) (aN (i:=5) gk.nd rfl (Or.inl rfl)) (aB (bZ Xj rfl (bK rfl z_range (aa (pv 5) aq)) (aN (i:=6) gk.nd rfl (Or.inl rfl)) (az (aL (i:=7) gk.nd rfl (Or.inl rfl) (aV (bj K rfl) (pv 4) (pv 6) (fun _ _=>rfl)))
   (az (aL (i:=8) gk.nd rfl (Or.inl rfl) (aV (bj K rfl) (pv 4) (pv 5) (fun _ _=>rfl)))
   (aB (G4 (K3 hr) (pv 2) (b7 c_f11 hr (by decide) rfl (aa (gq (eU hr) (pv 1) (aV (aU K rfl) (pv 7) aA (fun _ _=>rfl)) (fun _ _=>rfl)) (aa (gq (eU hr) (pv 1) (aV (aU K rfl) (pv 8) aA (fun _ _=>rfl)) (fun _ _=>rfl)) (aa (aV (aU K rfl) (pv 7) aA (fun _ _=>rfl)) (aa (aV (aU K rfl) (pv 8) aA (fun _ _=>rfl)) aq))))) oO rfl))))))))))
   (aB (aY (aJ (qm rfl (K4 hr)) rfl z_sorted (by decide+kernel) (aa (pv 2) aq)))))),h⟩
theorem QF (F:Fun K "_law_is_row" "_law_is_row" Hf f fd) (c_f8:Cal P w K mg base 1 "_law_whole" ["found"] (sp_f8 aK0 aK1 K)) (z_len:mg "len"=none) (z_isinstance:mg "isinstance"=none) (z_tuple:mg "tuple"=none) (z_all:mg "all"=none):FnOk P w K mg base gH 2 f fd ["row"] (sp_f4 aK0 aK1 K):=by
 refine F.ok Iw (fun vs H Q E h=>Qm h) (fun cdv A outer s H vs Q E hr h=> ?_)
 obtain ⟨Eh,h⟩:=Ql h
 exact ⟨BX aK0 aK1 K E Eh,(az (cP (PW.pt (oU (iK (cI K rfl (aJ (bR K rfl) rfl z_isinstance (by decide+kernel) (aa (pv 0) (aa (gn (v:= .ty "tuple") (u:= .type "tuple") rfl z_tuple (by decide+kernel) rfl) aq))) (fun _=>rfl))) (oU (bz xm (aJ (aP K rfl) rfl z_len (by decide+kernel) (aa (pv 0) aq)) aA (bJ _)) (qJ (iK (cI K rfl (b7 c_f8 hr (by decide) rfl (aa (aV (aU K rfl) (pv 0) aA (fun _ _=>rfl)) aq)) (fun _=>rfl))))))) (aB (aY oO)) bH)
   (az (aL (i:=1) Iw.nd rfl (Or.inl rfl) (aV (aU K rfl) (pv 0) aA (fun _ _=>rfl)))
   (az (cP (PW.pt (oU (iK (cI K rfl (aJ (bR K rfl) rfl z_isinstance (by decide+kernel) (aa (pv 1) (aa (gn (v:= .ty "tuple") (u:= .type "tuple") rfl z_tuple (by decide+kernel) rfl) aq))) (fun _=>rfl))) (oU (bz xm (aJ (aP K rfl) rfl z_len (by decide+kernel) (aa (pv 1) aq)) aA (bJ _)) (qJ (iK (cI K rfl (aJ (bR K rfl) rfl z_isinstance (by decide+kernel) (aa (aV (aU K rfl) (pv 1) aA (fun _ _=>rfl)) (aa (gn (v:= .ty "tuple") (u:= .type "tuple") rfl z_tuple (by decide+kernel) rfl) aq))) (fun _=>rfl))))))) (aB (aY oO)) bH)
   (aB (aY (aJ (lY K rfl rfl) rfl z_all (by decide+kernel) (aa (fO [none] ["part"] rfl (fc K rfl (aM (yV K rfl) (bC (aa (aV (aU K rfl) (pv 1) aA (fun _ _=>rfl)) (aa (aV (aU K rfl) (pv 1) aA (fun _ _=>rfl)) aq))) (aV (aU K rfl) (pv 1) aA (fun _ _=>rfl)))) (show CScope (aD Hf) _ from ⟨rfl,by decide+kernel,by decide+kernel,by decide+kernel⟩) (show capOk [none] ["part"] (["row","stand"]:List Str) _=true from by decide+kernel) (fun _ _ _ _ _ _=>(aN (i:=0) (show List.Nodup (["part"]:List Str) by decide+kernel) rfl (Or.inl rfl))) (fun _ _ _ _ _ _=>cD) (fun _ _ _ _ _ _=>(b7 c_f8 hr (by decide) rfl (aa (pv 0) aq)))) aq))))))),h⟩
theorem N5 (F:Fun K "law" "law" iI f fd) (c_f14:Cal P w K mg base 3 "_law_font" ["script"] (sp_f14 aK0 aK1 K)) (c_f1:Cal P w K mg base 1 "_law_cell_at" ["script","k"] (sp_f1 aK0 aK1 K)) (z_len:mg "len"=none) (c_f10:Cal P w K mg base 1 "_law_signs" ["cell","many"] (sp_f10 aK0 aK1 K)) (c_f7:Cal P w K mg base 2 "_law_house" ["script","signs"] (sp_f7 aK0 aK1 K)) (z_tuple:mg "tuple"=none) (z_sorted:mg "sorted"=none) (z_range:mg "range"=none) (c_f18:Cal P w K mg base 6 "begins" ["font","house"] (sp_f18 aK0 aK1 K)) (z_all:mg "all"=none) (c_f4:Cal P w K mg base 2 "_law_is_row" ["row"] (sp_f4 aK0 aK1 K)) (z_isinstance:mg "isinstance"=none) (z_list:mg "list"=none) (z_dict:mg "dict"=none) (c_f15:Cal P w K mg base 3 "_law_due" ["house","pictures"] (sp_f15 aK0 aK1 K)):FnOk P w K mg base gH 7 f fd ["script"] (sp_f23 aK0 aK1 K):=by
 refine F.ok gm (fun vs H Q E h=>M5 h) (fun cdv A outer s H vs Q E hr h=> ?_)
 obtain ⟨Eh,h⟩:=M4 h
 exact ⟨tY aK0 aK1 K E Eh,(az (qK (b7 c_f14 hr (by decide) rfl (aa (pv 0) aq)) (dR K rfl rfl (bx (aN (i:=1) gm.nd rfl (Or.inl rfl)) (bx (aN (i:=2) gm.nd rfl (Or.inr rfl)) dH))))
   (az (aL (i:=3) gm.nd rfl (Or.inr rfl) (b7 c_f10 hr (by decide) rfl (aa (b7 c_f1 hr (by decide) rfl (aa (pv 0) (aa aA aq))) (aa (aM cC (aJ (aP K rfl) rfl z_len (by decide+kernel) (aa (pv 2) aq)) aA) aq))))
   (az (aL (i:=4) gm.nd rfl (Or.inl rfl) (b7 c_f7 hr (by decide) rfl (aa (pv 0) (aa (pv 3) aq))))
   (az (aL (i:=5) gm.nd rfl (Or.inl rfl) (bC (aa (pv 1) (aa (d9 (rJ K rfl) rfl z_tuple (by decide+kernel) (aa (aJ (j9 K rfl) rfl z_sorted (by decide+kernel) (aa (fO [none,some 3,some 2] ["k","signs","letters"] rfl (bK rfl z_range (aa (aJ (aP K rfl) rfl z_len (by decide+kernel) (aa (pv 2) aq)) aq)) (show CScope (aD iI) _ from ⟨rfl,by decide+kernel,by decide+kernel,by decide+kernel⟩) (show capOk [none,some 3,some 2] ["k","signs","letters"] (["script","height","letters","signs","house","font","found","due"]:List Str) _=true from by decide+kernel) (fun _ _ _ _ _ _=>(aN (i:=0) (show List.Nodup (["k","signs","letters"]:List Str) by decide+kernel) rfl (Or.inl rfl))) (fun _ _ _ _ _ _=>cD) (fun _ _ _ _ _ _=>(bC (aa (aV (bj K rfl) (pv 1) (pv 0) (fun _ _=>rfl)) (aa (aV (bj K rfl) (pv 2) (pv 0) (fun _ _=>rfl)) aq))))) aq)) aq)) aq))))
   (az (aL (i:=6) gm.nd rfl (Or.inl rfl) (b7 c_f18 hr (by decide) rfl (aa (pv 5) (aa (pv 4) aq))))
   (az (cP (PW.pt (oU (iK (cI K rfl (aJ (bR K rfl) rfl z_isinstance (by decide+kernel) (aa (pv 6) (aa (gn (v:= .ty "list") (u:= .type "list") rfl z_list (by decide+kernel) rfl) aq))) (fun _=>rfl))) (qJ (iK (cI K rfl (aJ (lY K rfl rfl) rfl z_all (by decide+kernel) (aa (fO [none] ["row"] rfl (cR K rfl (pv 6)) (show CScope (aD iI) _ from ⟨rfl,by decide+kernel,by decide+kernel,by decide+kernel⟩) (show capOk [none] ["row"] (["script","height","letters","signs","house","font","found","due"]:List Str) _=true from by decide+kernel) (fun _ _ _ _ _ _=>(aN (i:=0) (show List.Nodup (["row"]:List Str) by decide+kernel) rfl (Or.inl rfl))) (fun _ _ _ _ _ _=>cD) (fun _ _ _ _ _ _=>(b7 c_f4 hr (by decide) rfl (aa (pv 0) aq)))) aq)) (fun _=>rfl)))))) (aB (aY oO)) bH)
   (az (aL (i:=7) gm.nd rfl (Or.inl rfl) (b7 c_f15 hr (by decide) rfl (aa (pv 4) (aa (d9 (iu K rfl rfl) rfl z_dict (by decide+kernel) (aa (aV (aU K rfl) (pv 5) aA (fun _ _=>rfl)) aq)) aq))))
   (az (cP (bz (Ea K rfl hr.units) (pv 6) (pv 7) (bJ _)) (aB (aY oO)) bH)
   (az (dG (fQ K rfl Wh Wq Wr cH (pv 6) (aa (bC (aa aA (aa (bC (aa aA (aa aA (aa (bC aq) aq)))) aq))) aq)))
   (az (qK (bC (aa aA (aa (bC (aa aA (aa aA (aa (bC aq) aq)))) aq))) (wW (pv 6) aA set_list))
   (aB (aY (ue (DY K rfl hr.units) (b7 c_f18 hr (by decide) rfl (aa (pv 5) (aa (pv 4) aq))) (pv 7) (bJ _)))))))))))))),h⟩
end
inductive DI (K:W.Frag) (n:Str) (st:Stmt) (f:Addr):Prop
 | mk {oc kV dc pm cd ct:Value} {od an:Option Addr} {sl:Array (Option Value)} (a:W.nsIn K mainGlobals n=some (some (.ref f))) (l:K.lookup f=some ⟨oc,od, .func (W.fnOf n n (dM st) (cZ st) (aD st) .none kV dc pm an cd ct),sl⟩) (q:W.codeIn K cd n=true) (k:W.keepIn K (.ref f)=true):DI K n st f
theorem ck {P:Program} {w:World} {K:W.Frag} {mg:Str->Option Value} {base h:Heap} {n:Str} {st:Stmt} {f:Addr} {ps:List Str} {d:Nat} {sp:Sp} (X:K.In h) (G:h.Ns mainGlobals mg) (D:DI K n st f)
  (b: ∀ (kV doc pm:Value) (an:Option Addr) (cdv ct:Value) (us:List Value),us.length=ps.length->bindArgs (W.fnOf n n (dM st) (cZ st) (aD st) .none kV doc pm an cdv ct) ⟨us,[]⟩=pure (ps.zip us))
  (o: ∀fd,Fun K n n st f fd->FnOk P w K mg base gH d f fd ps sp):Cal P w K mg base d n ps sp:=by
 obtain ⟨a,l,q,k⟩:=D
 exact ⟨_,_,o _ (qY l q k),(qY l q k).binds b,k,W.mg_of X G a⟩
theorem N6 {l:W.OpenLaw} {w:World} {K:W.Frag} {h:Heap} {mg:Str->Option Value} {fa f_f19 f_f21 f_f5 f_f22 f_f16 f_f17 f_f6 f_f0 f_f3 f_f20 f_f18 f_f1 f_f8 f_f10 f_f2 f_f14 f_f13 f_f7 f_f9 f_f12 f_f11 f_f15 f_f4 f_f23 aK0 aK1:Addr} (X:K.In h) (G:h.Ns mainGlobals mg) (hfa:mg "law"=some (.ref fa))
  (d_f19:DI K "inked" Cr f_f19)
  (d_f21:DI K "apart" Cu f_f21)
  (d_f5:DI K "check_alike" M6 f_f5)
  (d_f22:DI K "gap" vd f_f22)
  (d_f16:DI K "lettered" vf f_f16)
  (d_f17:DI K "ways_of" vg f_f17)
  (d_f6:DI K "costs_over" M7 f_f6)
  (d_f0:DI K "texts_to_rooms" M8 f_f0)
  (d_f3:DI K "stand_behind" M9 f_f3)
  (d_f20:DI K "forks" Cv f_f20)
  (d_f18:DI K "begins" vh f_f18)
  (d_f1:DI K "_law_cell_at" Ma f_f1)
  (d_f8:DI K "_law_whole" Mf f_f8)
  (d_f10:DI K "_law_signs" Cw f_f10)
  (d_f2:DI K "_law_letters" Hd f_f2)
  (d_f14:DI K "_law_font" Cy f_f14)
  (d_f13:DI K "_law_ends" Cz f_f13)
  (d_f7:DI K "_law_house" tZ f_f7)
  (d_f9:DI K "_law_spots" Mi f_f9)
  (d_f12:DI K "_law_rooms" CG f_f12)
  (d_f11:DI K "_law_begin" CJ f_f11)
  (d_f15:DI K "_law_due" vm f_f15)
  (d_f4:DI K "_law_is_row" Hf f_f4)
  (d_f23:DI K "law" iI f_f23)
  (zz_len:W.nsIn K mainGlobals "len"=some none)
  (zz_sum:W.nsIn K mainGlobals "sum"=some none)
  (zz_zip:W.nsIn K mainGlobals "zip"=some none)
  (zz_dict:W.nsIn K mainGlobals "dict"=some none)
  (zz_min:W.nsIn K mainGlobals "min"=some none)
  (zz_enumerate:W.nsIn K mainGlobals "enumerate"=some none)
  (zz_sorted:W.nsIn K mainGlobals "sorted"=some none)
  (zz_set:W.nsIn K mainGlobals "set"=some none)
  (zz_isinstance:W.nsIn K mainGlobals "isinstance"=some none)
  (zz_bool:W.nsIn K mainGlobals "bool"=some none)
  (zz_int:W.nsIn K mainGlobals "int"=some none)
  (zz_range:W.nsIn K mainGlobals "range"=some none)
  (zz_tuple:W.nsIn K mainGlobals "tuple"=some none)
  (zz_all:W.nsIn K mainGlobals "all"=some none)
  (zz_list:W.nsIn K mainGlobals "list"=some none)
  (ka_BlotError:W.nsIn K mainGlobals "BlotError"=some (some (.ref aK0))) (ke_BlotError:ExcK K aK0)
  (ka_NotAlike:W.nsIn K mainGlobals "NotAlike"=some (some (.ref aK1))) (ke_NotAlike:ExcK K aK1)
  : ∃fd:FuncData,(∀ (s:Shared) (v:Value),BindsTo s fd ⟨[v],[]⟩ [("script",v)])/\ ∀base:Heap,K.In base->base.Ns mainGlobals mg->FnOk l.prog w K mg base gH 7 fa fd ["script"] (sp_f23 aK0 aK1 K):=by
 obtain @⟨_,kV_f23,dc_f23,pm_f23,cd_f23,ct_f23,_,an_f23,_,a_f23,l_f23,q_f23,k_f23⟩:=d_f23
 have e:=hfa.symm.trans (W.mg_of X G a_f23)
 cases e
 have F_f23:=qY (st:=iI) l_f23 q_f23 k_f23
 have z_len:=Wu X G zz_len
 have z_sum:=Wu X G zz_sum
 have z_zip:=Wu X G zz_zip
 have z_dict:=Wu X G zz_dict
 have z_min:=Wu X G zz_min
 have z_enumerate:=Wu X G zz_enumerate
 have z_sorted:=Wu X G zz_sorted
 have z_set:=Wu X G zz_set
 have z_isinstance:=Wu X G zz_isinstance
 have z_bool:=Wu X G zz_bool
 have z_int:=Wu X G zz_int
 have z_range:=Wu X G zz_range
 have z_tuple:=Wu X G zz_tuple
 have z_all:=Wu X G zz_all
 have z_list:=Wu X G zz_list
 have k_BlotError:=And.intro (W.mg_of X G ka_BlotError) ke_BlotError
 have k_NotAlike:=And.intro (W.mg_of X G ka_NotAlike) ke_NotAlike
 refine ⟨W.fnOf "law" "law" (dM iI) (cZ iI) (aD iI) .none kV_f23 dc_f23 pm_f23 an_f23 cd_f23 ct_f23,fun s v=> .of_eq rfl,fun base _ _=> ?_⟩
 have c_f19:Cal l.prog w K mg base 1 "inked" ["column"] (sp_f19 aK0 aK1 K):=ck X G d_f19 (fun _ _ _ _ _ _=>ar1 fun _=>rfl) fun _ F=>Mt F
 have c_f21:Cal l.prog w K mg base 2 "apart" ["one","other"] (sp_f21 aK0 aK1 K):=ck X G d_f21 (fun _ _ _ _ _ _=>ar2 fun _ _=>rfl) fun _ F=>Mu F c_f19
 have c_f5:Cal l.prog w K mg base 1 "check_alike" ["one","other"] (sp_f5 aK0 aK1 K):=ck X G d_f5 (fun _ _ _ _ _ _=>ar2 fun _ _=>rfl) fun _ F=>Qu F z_len
 have c_f22:Cal l.prog w K mg base 3 "gap" ["one","other"] (sp_f22 aK0 aK1 K):=ck X G d_f22 (fun _ _ _ _ _ _=>ar2 fun _ _=>rfl) fun _ F=>Mv F c_f5 z_sum z_zip c_f21
 have c_f16:Cal l.prog w K mg base 1 "lettered" ["letters","doors"] (sp_f16 aK0 aK1 K):=ck X G d_f16 (fun _ _ _ _ _ _=>ar2 fun _ _=>rfl) fun _ F=>Mw F
 have c_f17:Cal l.prog w K mg base 2 "ways_of" ["font","house"] (sp_f17 aK0 aK1 K):=ck X G d_f17 (fun _ _ _ _ _ _=>ar2 fun _ _=>rfl) fun _ F=>Mx F z_dict c_f16
 have c_f6:Cal l.prog w K mg base 4 "costs_over" ["font","over"] (sp_f6 aK0 aK1 K):=ck X G d_f6 (fun _ _ _ _ _ _=>ar2 fun _ _=>rfl) fun _ F=>Qv F z_min z_len c_f22
 have c_f0:Cal l.prog w K mg base 1 "texts_to_rooms" ["ways"] (sp_f0 aK0 aK1 K):=ck X G d_f0 (fun _ _ _ _ _ _=>ar1 fun _=>rfl) fun _ F=>Qw F z_len
 have c_f3:Cal l.prog w K mg base 1 "stand_behind" ["way","ahead","over"] (sp_f3 aK0 aK1 K):=ck X G d_f3 (fun _ _ _ _ _ _=>TV fun _ _ _=>rfl) fun _ F=>Qx F z_len
 have c_f20:Cal l.prog w K mg base 5 "forks" ["font","ways"] (sp_f20 aK0 aK1 K):=ck X G d_f20 (fun _ _ _ _ _ _=>ar2 fun _ _=>rfl) fun _ F=>My F c_f6 c_f0 z_enumerate c_f3
 have c_f18:Cal l.prog w K mg base 6 "begins" ["font","house"] (sp_f18 aK0 aK1 K):=ck X G d_f18 (fun _ _ _ _ _ _=>ar2 fun _ _=>rfl) fun _ F=>Mz F c_f17 c_f20 z_sorted z_set
 have c_f1:Cal l.prog w K mg base 1 "_law_cell_at" ["script","k"] (sp_f1 aK0 aK1 K):=ck X G d_f1 (fun _ _ _ _ _ _=>ar2 fun _ _=>rfl) fun _ F=>Qy F z_len
 have c_f8:Cal l.prog w K mg base 1 "_law_whole" ["found"] (sp_f8 aK0 aK1 K):=ck X G d_f8 (fun _ _ _ _ _ _=>ar1 fun _=>rfl) fun _ F=>Qz F z_isinstance z_bool z_int
 have c_f10:Cal l.prog w K mg base 1 "_law_signs" ["cell","many"] (sp_f10 aK0 aK1 K):=ck X G d_f10 (fun _ _ _ _ _ _=>ar2 fun _ _=>rfl) fun _ F=>MF F z_range z_len
 have c_f2:Cal l.prog w K mg base 2 "_law_letters" ["script","many","most","height","alike"] (sp_f2 aK0 aK1 K):=ck X G d_f2 (fun _ _ _ _ _ _=>TY fun _ _ _ _ _=>rfl) fun _ F=>QB F z_range c_f1 z_tuple
 have c_f14:Cal l.prog w K mg base 3 "_law_font" ["script"] (sp_f14 aK0 aK1 K):=ck X G d_f14 (fun _ _ _ _ _ _=>ar1 fun _=>rfl) fun _ F=>MJ F c_f1 c_f2
 have c_f13:Cal l.prog w K mg base 1 "_law_ends" ["cell","many"] (sp_f13 aK0 aK1 K):=ck X G d_f13 (fun _ _ _ _ _ _=>ar2 fun _ _=>rfl) fun _ F=>MK F z_tuple z_range
 have c_f7:Cal l.prog w K mg base 2 "_law_house" ["script","signs"] (sp_f7 aK0 aK1 K):=ck X G d_f7 (fun _ _ _ _ _ _=>ar2 fun _ _=>rfl) fun _ F=>QC F c_f1 z_range z_len z_tuple z_sorted c_f13
 have c_f9:Cal l.prog w K mg base 1 "_law_spots" ["one","other"] (sp_f9 aK0 aK1 K):=ck X G d_f9 (fun _ _ _ _ _ _=>ar2 fun _ _=>rfl) fun _ F=>QD F z_min z_len z_range
 have c_f12:Cal l.prog w K mg base 1 "_law_rooms" ["house","pictures"] (sp_f12 aK0 aK1 K):=ck X G d_f12 (fun _ _ _ _ _ _=>ar2 fun _ _=>rfl) fun _ F=>MN F z_len
 have c_f11:Cal l.prog w K mg base 2 "_law_begin" ["one","other","x","y"] (sp_f11 aK0 aK1 K):=ck X G d_f11 (fun _ _ _ _ _ _=>TX fun _ _ _ _=>rfl) fun _ F=>MP F c_f9 z_len
 have c_f15:Cal l.prog w K mg base 3 "_law_due" ["house","pictures"] (sp_f15 aK0 aK1 K):=ck X G d_f15 (fun _ _ _ _ _ _=>ar2 fun _ _=>rfl) fun _ F=>MT F c_f12 z_len z_range c_f11 z_sorted
 have c_f4:Cal l.prog w K mg base 2 "_law_is_row" ["row"] (sp_f4 aK0 aK1 K):=ck X G d_f4 (fun _ _ _ _ _ _=>ar1 fun _=>rfl) fun _ F=>QF F c_f8 z_len z_isinstance z_tuple z_all
 exact N5 F_f23 c_f14 c_f1 z_len c_f10 c_f7 z_tuple z_sorted z_range c_f18 z_all c_f4 z_isinstance z_list z_dict c_f15
theorem walk {l:W.OpenLaw} {q:Program} {loose:List Str} {XP:(Str->Option Value)->Heap->Prop} {YP:World->Heap->Prop} {d:DefRec} {K:Params->W.Frag} {sp:World->Sp} (hn:l.most=some 63) (hdf:d.params.defaults=[])
  (hY: ∀ (w:World) (h:Heap),YP w h->(K w.params).In h)
  (hsp: ∀ (w:World) (H:Hp) (a:Addr) (ns:List Int),ns.length<=63->(∀i∈ns,Builtin.Int.intBits i<=2^20)->Only H->SqL (K w.params) H a (ns.map V.int)->sp w [.ref a] H (fun v _=>v= .bl true) fun _ _ _=>False)
  (F: ∀ (w:World) (mg:Str->Option Value) (fa:Addr) (h:Heap),(K w.params).In h->h.Ns mainGlobals mg->mg d.name=some (.ref fa)->
   ∃fd:FuncData,(∀ (s:Shared) (u:Value),BindsTo s fd ⟨[u],[]⟩ [("script",u)])/\ ∀base:Heap,(K w.params).In base->base.Ns mainGlobals mg->FnOk l.prog w (K w.params) mg base gH 7 fa fd ["script"] (sp w)):
  PySem.W.WalkO q loose XP YP l.row.toRowW d [] (fun f vs=>PySem.call f vs):=
 L2.vY (n:=63) (k:=7) (x:="script") (CX:=fun _=>gH) (sp:=sp) hn (by decide) hdf ⟨rfl,by decide,by decide⟩ hY F hsp fun _ _ _ _ _ z=>z
end Pg
theorem PySem.W.Fast.te7250104041473319939:True:=trivial
noncomputable def PySem.W.Fast.tw7250104041473319939:Nat:=0
open PySem PySem.W PyProof.Rows
set_option maxRecDepth 100000 in
set_option maxHeartbeats 0 in
theorem PySem.Challenge.cw_blotsure_k51_begins_holds : PySem.Challenge.rw_blotsure_k51_begins.Holds := by
 w_on;o_law;k_head;(case hw=>w_witness2)
 k_fill
 refine' Pg.walk (l:=PySem.Challenge.rw_blotsure_k51_begins) rfl rfl (fun w h Y=>PySem.W.kIn_of Y) (fun _ _ a ns hl hb _ hS=> ?S) ?F
 case F=>
  intro w mg fa h KX G hmg
  refine' Pg.N6 KX G hmg ?_ ?_ ?_ ?_ ?_ ?_ ?_ ?_ ?_ ?_ ?_ ?_ ?_ ?_ ?_ ?_ ?_ ?_ ?_ ?_ ?_ ?_ ?_ ?_ ?zz_len ?zz_sum ?zz_zip ?zz_dict ?zz_min ?zz_enumerate ?zz_sorted ?zz_set ?zz_isinstance ?zz_bool ?zz_int ?zz_range ?zz_tuple ?zz_all ?zz_list ?ka_BlotError ?ke_BlotError ?ka_NotAlike ?ke_NotAlike
  any_goals (refine' Pg.DI.mk ?dA ?dL ?dQ ?dK;(case dA=>k_is);(case dL=>k_is);(case dQ=>k_is);(case dK=>k_is))
  any_goals k_is
  (case ke_BlotError=>refine' L2.ExcK.mk ?e1 ?e2 ?e3 ?e4 ?e5 ?e6 ?e7 ?e8;(case e1=>k_exc);(case e2=>k_is);(case e3=>k_is);(case e4=>k_is);(case e5=>k_is);(case e6=>k_is);(case e7=>k_is);(case e8=>k_is))
  (case ke_NotAlike=>refine' L2.ExcK.mk ?e1 ?e2 ?e3 ?e4 ?e5 ?e6 ?e7 ?e8;(case e1=>k_exc);(case e2=>k_is);(case e3=>k_is);(case e4=>k_is);(case e5=>k_is);(case e6=>k_is);(case e7=>k_is);(case e8=>k_is))
 case S=>exact ⟨a,ns,rfl,hS,hl,hb,fun _=>rfl⟩
